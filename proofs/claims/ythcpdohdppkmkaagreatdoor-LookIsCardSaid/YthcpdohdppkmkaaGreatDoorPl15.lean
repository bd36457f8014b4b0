import Derived.Test.YthcpdohdppkmkaaGreatDoorPl14
import Derived.Test.YthcpdohdppkmkaaGreatDoorRep
import Derived.Deep.QuietTactic
open Go.Proofs.Tryz
namespace Go.Proofs.YthcpdohdppkmkaaGreatDoor
open Go Go.RowKit
set_option maxRecDepth 100000
set_option maxHeartbeats 2000000
def OAt(T:TypeId)(B b:Nat)(pre:List Value)(p:Value)(bs R:List Value)(w:World):Prop:=
 ∃v,w.heap[b]?=some (.cells (pre++p::v::R).toArray T (0,0))/\w.ownsRowF B 5 1 v bs.length bs/\v.ownBlock≠some b/\(bs=[]->v=.slice none 0 0)
def IsO(T:TypeId)(B b:Nat)(pre bs R:List Value)(w:World):Prop:=
 OAt T B b pre (.pointer none) bs R w\/OAt T B b pre (.pointer (some ⟨b,pre.length,none⟩)) bs R w
section
variable {T:TypeId} {B b:Nat} {p v:Value} {pre bs R:List Value} {w:World}
theorem v5a(hb:w.heap[b]?=some (.cells (pre++p::v::R).toArray T (0,0)))(i:Nat):w.cell? ⟨b,i,none⟩=(pre++p::v::R)[i]?:=by
 simp[World.cell?,hb]
theorem j8j(hb:w.heap[b]?=some (.cells (pre++p::v::R).toArray T (0,0))):w.cell? ⟨b,pre.length,none⟩=some p:=by
 rw[v5a hb,List.getElem?_append_right Zl,Nat.sub_self];rfl
theorem k7j(hb:w.heap[b]?=some (.cells (pre++p::v::R).toArray T (0,0))):w.cell? ⟨b,pre.length+1,none⟩=some v:=by
 rw[v5a hb,List.getElem?_append_right (Nat.le_add_right _ _),Nat.add_sub_cancel_left];rfl
theorem olt(hb:w.heap[b]?=some (.cells (pre++p::v::R).toArray T (0,0))):b<w.heap.size:=by
 rcases Nat.lt_or_ge b w.heap.size with A|A
 ·exact A
 ·simp[Array.getElem?_eq_none A]at hb
theorem OAt.cell0(h:OAt T B b pre p bs R w):w.cell? ⟨b,pre.length,none⟩=some p:=by
 obtain⟨v,A,_⟩:=h;exact j8j A
theorem OAt.cellP(h:OAt T B b pre p bs R w)(i:Nat)(hi:i<pre.length):w.cell? ⟨b,i,none⟩=pre[i]?:=by
 obtain⟨v,A,_⟩:=h;rw[v5a A,List.getElem?_append_left hi]
theorem OAt.cellR(h:OAt T B b pre p bs R w)(i:Nat):w.cell? ⟨b,pre.length+(i+2),none⟩=R[i]?:=by
 obtain⟨v,A,_⟩:=h;rw[v5a A,List.getElem?_append_right (Nat.le_add_right _ _),Nat.add_sub_cancel_left];rfl
theorem OAt.shape(h:OAt T B b pre p bs R w):w.shape? b=some (T,pre.length+(R.length+2)):=by
 obtain⟨v,A,_⟩:=h;simp[World.shape?,A]
theorem OAt.lt(h:OAt T B b pre p bs R w):b<w.heap.size:=by
 obtain⟨v,A,_⟩:=h;exact olt A
theorem y9d(hb:w.heap[b]?=some (.cells (pre++p::v::R).toArray T (0,0)))(i:Nat)(q:Value):(w.setCell ⟨b,i,none⟩ q).heap[b]?=some (.cells ((pre++p::v::R).set i q).toArray T (0,0)):=by
 simp[World.setCell,Array.getElem?_modify,hb]
theorem OAt.used(h:OAt T B b pre p bs R w)(q:Value):OAt T B b pre q bs R (w.setCell ⟨b,pre.length,none⟩ q):=by
 obtain⟨v,E,C,A,D⟩:=h;refine⟨v,?_,?_,A,D⟩
 ·rw[y9d E,List.set_append_right _ _ Zl,Nat.sub_self];rfl
 ·exact C.kept (row:=some b) ⟨rfl,rfl,rfl,by simp[World.setCell],fun k _ hk=>Below.heap_setCell _ _ _ _ (fun e=>hk (by simp[e]))⟩ (Or.inr A)
theorem OAt.stored(h:OAt T B b pre p bs R w)(i:Nat)(q:Value):OAt T B b pre p bs (R.set i q) (w.setCell ⟨b,pre.length+(i+2),none⟩ q):=by
 obtain⟨v,E,C,A,D⟩:=h;refine⟨v,?_,?_,A,D⟩
 ·rw[y9d E,List.set_append_right _ _ (Nat.le_add_right _ _),Nat.add_sub_cancel_left];rfl
 ·exact C.kept (row:=some b) ⟨rfl,rfl,rfl,by simp[World.setCell],fun k _ hk=>Below.heap_setCell _ _ _ _ (fun e=>hk (by simp[e]))⟩ (Or.inr A)
theorem OAt.frozen(h:OAt T B b pre p bs R w)(i:Nat):w.frozen? ⟨b,i,none⟩=false:=by
 obtain⟨v,A,_⟩:=h;simp[World.frozen?,A]
theorem OAt.put{v':Value}{bs':List Value}(hb:w.heap[b]?=some (.cells (pre++p::v::R).toArray T (0,0)))(A:w.ownsRowF B 5 1 v' bs'.length bs')(D:T≠5)(h0:bs'=[]->v'=.slice none 0 0):
  OAt T B b pre p bs' R (w.setCell ⟨b,pre.length+1,none⟩ v'):=by
 have C:=Lib.ownBlock_neF A hb D;refine⟨v',?_,?_,C,h0⟩
 ·rw[y9d hb,List.set_append_right _ _ (Nat.le_add_right _ _),Nat.add_sub_cancel_left];rfl
 ·exact A.kept (row:=some b) ⟨rfl,rfl,rfl,by simp[World.setCell],fun k _ hk=>Below.heap_setCell _ _ _ _ (fun e=>hk (by simp[e]))⟩ (Or.inr C)
theorem OAt.alloc(h:OAt T B b pre p bs R w)(o:Obj):OAt T B b pre p bs R (w.alloc o):=by
 have C:=h.lt;obtain⟨v,G,A,D,E⟩:=h;exact⟨v,(Lib.alloc_old w o b C).trans G,A.kept (World.grownBy_alloc w o none) (by cases H:v.ownBlock<;>simp),D,E⟩
theorem OAt.W{w':World}(h:OAt T B b pre p bs R w)(hx:Below w w w'):OAt T B b pre p bs R w':=by
 have C:=h.lt;obtain⟨v,G,A,D,E⟩:=h;exact⟨v,(hx.block b C).trans G,A.kept (row:=none) ⟨hx.os,hx.tape,hx.output,hx.size,fun k hk _=>hx.block k hk⟩ (by cases H:v.ownBlock<;>simp),D,E⟩
theorem IsO.at(h:IsO T B b pre bs R w):∃p,OAt T B b pre p bs R w:=by
 rcases h with h|h
 ·exact⟨_,h⟩
 ·exact⟨_,h⟩
theorem IsO.lt(h:IsO T B b pre bs R w):b<w.heap.size:=h.at.elim fun _ h=>h.lt
theorem IsO.cellP(h:IsO T B b pre bs R w)(i:Nat)(hi:i<pre.length):w.cell? ⟨b,i,none⟩=pre[i]?:=h.at.elim fun _ h=>h.cellP i hi
theorem IsO.cellR(h:IsO T B b pre bs R w)(i:Nat):w.cell? ⟨b,pre.length+(i+2),none⟩=R[i]?:=h.at.elim fun _ h=>h.cellR i
theorem IsO.frozen(h:IsO T B b pre bs R w)(i:Nat):w.frozen? ⟨b,i,none⟩=false:=h.at.elim fun _ h=>h.frozen i
theorem IsO.alloc(h:IsO T B b pre bs R w)(o:Obj):IsO T B b pre bs R (w.alloc o):=h.imp (·.alloc o) (·.alloc o)
theorem IsO.W{w':World}(h:IsO T B b pre bs R w)(hx:Below w w w'):IsO T B b pre bs R w':=h.imp (·.W hx) (·.W hx)
theorem IsO.stored(h:IsO T B b pre bs R w)(i:Nat)(q:Value):IsO T B b pre bs (R.set i q) (w.setCell ⟨b,pre.length+(i+2),none⟩ q):=h.imp (·.stored i q) (·.stored i q)
theorem IsO.unused(T:TypeId)(B b:Nat)(w:World)(pre R:List Value)(h:w.heap[b]?=some (.cells (pre++.pointer none::.slice none 0 0::R).toArray T (0,0))):IsO T B b pre [] R w:=
 Or.inl ⟨.slice none 0 0,h,World.ownsRowF_nil _ _ _ _,by simp[Value.ownBlock],fun _=>rfl⟩
end
theorem k4s(b o:Nat)(w:World)(h0:w.cell? ⟨b,o,none⟩=some (.pointer (some ⟨b,o,none⟩))):
  Calls prog 84 #[.pointer (some ⟨b,o,none⟩)] w fun e w'=>e=.returned (.tuple #[])/\w'=w:=by
 obtain⟨j,A,_⟩:=Option.map_eq_some_iff.1 v7g;go_in;go_wp2;rw[Lib.run_neq_ptr_same w _ Tryz.underlying93 A];go_wp2
 go_end0
 exact⟨rfl,rfl⟩
theorem k1y(T n b o:Nat)(w:World)(hl:liesAt prog prog.depth T (n / prog.cellsOf T) o 96 1=true)(h0:w.cell? ⟨b,o,none⟩=some (.pointer none))(B:w.shape? b=some (T,n))(hn:o<n)(H:w.frozen? ⟨b,o,none⟩=false):
  Calls prog 84 #[.pointer (some ⟨b,o,none⟩)] w fun e w'=>e=.returned (.tuple #[])/\w'=w.setCell ⟨b,o,none⟩ (.pointer (some ⟨b,o,none⟩)):=by
 obtain⟨j,D,A⟩:=Option.map_eq_some_iff.1 v7g;have G:Hid (liesAt prog prog.depth T (n / prog.cellsOf T) o 96 1=true):=hl;have C:Hid (w.shape? b=some (T,n)):=B;have E:Hid (j.size≠0):=(show j.size≠0 by rw[A];decide);clear hl B A;go_in;go_wp2;rw[Lib.run_to_unsafe w ⟨b,o,none⟩ Tryz.underlying93 Tryz.underlying219 D E.o C.o hn];simp only[Result.andThen];rw[Oper.upon_value];go_wp2;rw[run_callFunc_extern func140 (by kernel_rfl) (by kernel_rfl) (by kernel_rfl) (e:=Extern.AbiNoEscape.same) (by kernel_rfl)];rw[Lib.run_noEscape];simp only[Result.andThen];rw[Oper.upon_value];go_wp2;rw[Lib.run_from_unsafe w ⟨b,o,none⟩ Tryz.underlying219 Tryz.underlying93 D C.o G.o];simp only[Result.andThen];rw[Oper.upon_value];go_wp2
 go_end0
 exact⟨rfl,rfl⟩
def j1t(T n o:Nat):Prop:=liesAt prog prog.depth T (n / prog.cellsOf T) o 96 1=true
theorem j0a(T B b o:Nat)(A bs R:List Value)(w:World)(ho:A.length=o)(hl:j1t T (o+(R.length+2)) o)(h:IsO T B b A bs R w):
  Calls prog 84 #[.pointer (some ⟨b,o,none⟩)] w fun e w'=>e=.returned (.tuple #[])/\(OAt T B b A (.pointer (some ⟨b,A.length,none⟩)) bs R w'/\q0v B b w w'/\Lib.OthersKept 5 (some b) w w'):=by
 subst ho;rcases h with h|h
 ·refine(k1y T (A.length+(R.length+2)) b A.length w hl h.cell0 h.shape (by omega) (h.frozen _)).mono ?_;rintro e w'⟨rfl,rfl⟩;exact⟨rfl,h.used _,(q0v.refl B b w).setCell (p:=⟨b,A.length,none⟩) (.inl rfl) _,(Lib.OthersKept.refl _ _ w).setCell ⟨b,A.length,none⟩ rfl _⟩
 ·refine(k4s b A.length w h.cell0).mono ?_;rintro e w'⟨rfl,rfl⟩;exact⟨rfl,h,q0v.refl B b _,Lib.OthersKept.refl _ _ _⟩
theorem k4w(T B b o:Nat)(A bs R:List Value)(s:ByteArray)(w:World)(ho:A.length=o)(hl:j1t T (o+(R.length+2)) o)(hT:T≠5)(h:IsO T B b A bs R w)(f:bs.length+s.size<=140737488355328)(u:B<=w.heap.size):
  Calls prog 47 #[.pointer (some ⟨b,o,none⟩),.string s] w fun e w'=>e=.returned (.tuple #[.int .i64 s.size,.nilIface])/\(IsO T B b A (bs++Lib.strCells s) R w'/\q0v B b w w'/\Lib.OthersKept 5 (some b) w w'):=by
 obtain⟨y,x,Y,Z,a⟩:=info_parts y3q;have m:Hid (j1t T (o+(R.length+2)) o):=hl;have n:Hid (T≠5):=hT;have M:Hid (A.length=o):=ho;have H:Hid (IsO T B b A bs R w):=h;clear hl hT h ho;go_in;go_wp2_with(go_at_call 84;refine(j0a T B b o A bs R _ M.o m.o H.o).mono ?_);rintro e P⟨rfl,S,L,U⟩;obtain⟨v,I,E,W,d⟩:=S;have l:Hid (bs=[]->v=.slice none 0 0):=d;have N:Hid (P.heap[b]?=some (.cells (A++.pointer (some ⟨b,A.length,none⟩)::v::R).toArray T (0,0))):=I;clear d;have z:P.cell? ⟨b,o,none⟩=some (.pointer (some ⟨b,o,none⟩)):=by have:=j8j I;rw[M.o]at this;exact this
 have c1:P.cell? ⟨b,o+1,none⟩=some v:=by have:=k7j I;rw[M.o]at this;exact this
 clear I;go_wp2_with(at_builtin;refine Lib.wpList_append_own_stringF _ rfl _ _ 94 9 rfl B 5 y Tryz.underlying94 Tryz.underlying9 x Y Z a _ _ _ rfl E s rfl ?c3 ?c4 ?c5 ?_)
 case c3=>unfold maxLen;omega
 case c4=>omega
 case c5=>have:=L.size;omega
 intro j O G C J;have q:Hid (j=.slice none 0 0↔v=.slice none 0 0/\s.size=0):=(show _↔_ by simpa using J);clear J;have V:b<P.heap.size:=olt N.o
 have D:O.heap[b]?=some (.cells (A++.pointer (some ⟨b,A.length,none⟩)::v::R).toArray T (0,0)):=by
  rw[C.block b V (fun e=>W e.symm)];exact N.o
 have Q:Hid (O.heap[b]?=some (.cells (A++.pointer (some ⟨b,A.length,none⟩)::v::R).toArray T (0,0))):=D;have d0:O.cell? ⟨b,o,none⟩=some (.pointer (some ⟨b,o,none⟩)):=by have:=j8j D;rw[M.o]at this;exact this
 have d1:O.cell? ⟨b,o+1,none⟩=some v:=by have:=k7j D;rw[M.o]at this;exact this
 have f1:O.frozen? ⟨b,o+1,none⟩=false:=Lib.frozen_of_heap D (o+1);clear D
 obtain⟨c,i,K,rfl⟩:∃c i K,j=.slice c i K:=by
  rcases G.2 with⟨X,_⟩|⟨g,K,r,fz,X,_⟩
  ·exact⟨_,_,_,X⟩
  ·exact⟨_,_,_,X⟩
 go_wp2;go_ret2;refine⟨rfl,.inr ?_,?_,(U.grown C (Lib.ownsRowF_kind E)).setCell ⟨b,o+1,none⟩ rfl _⟩
 ·rw[<-M.o];refine OAt.put Q.o (bs':=bs++Lib.strCells s) (by simpa[Lib.strCells_length]using G) n.o (fun h=>?_);obtain⟨S,t⟩:=List.append_eq_nil_iff.1 h;refine q.o.2 ⟨l.o S,?_⟩;rw[<-Lib.strCells_length,t];rfl
 ·exact(L.grown C (by have:=L.size;omega) (fun k hk=>(E.lt k hk).1)).setCell (p:=⟨b,o+1,none⟩) (.inl rfl) _
theorem j8q(T B b o:Nat)(E:List Value)(l:List UInt8)(R:List Value)(w:World)(ho:E.length=o)(h:IsO T B b E (Lib.byteCells l) R w)(h0:l≠[]):
  Calls prog 48 #[.pointer (some ⟨b,o,none⟩)] w fun e w'=>e=.returned (.string ⟨l.toArray⟩)/\Below B w w':=by
 obtain⟨p,I⟩:=h.at;obtain⟨v,H,D,W,_⟩:=I;have M:l.length≠0:=by simpa using h0
 rw[Lib.byteCells_length]at D
 obtain⟨g,A,C,G,rfl,J,U,S,V,K,Q,N⟩:∃g A C G,v=.slice (some ⟨g,0,none⟩) l.length A/\B<=g/\w.heap[g]?=some (.cells C 5 G)/\G.2<=l.length*1/\l.length<=A/\A<=maxLen/\C.size=A*1/\C.toList.take (l.length*1)=Lib.byteCells l:=by
  rcases D.2 with⟨_,Z⟩|⟨g,A,C,G,X,r⟩
  ·exact absurd Z M
  ·exact⟨g,A,C,G,X,r⟩
 have a:w.drew.cell? ⟨b,o+1,none⟩=some (.slice (some ⟨g,0,none⟩) l.length A):=by
  have:w.drew.heap[b]?=some (.cells (E++p::.slice (some ⟨g,0,none⟩) l.length A::R).toArray T (0,0)):=H
  have:=k7j this
  rw[ho]at this;exact this
 have O:(Builtin.unsafeSliceData_ #[94] 155 #[.slice (some ⟨g,0,none⟩) l.length A]).run prog w.drew=.ok (.pointer (some ⟨g,0,none⟩)) w.drew:=
  Lib.run_unsafeSliceData_row _ _ _ _ _ _ (by omega)
 have P:(Builtin.unsafeString_ #[155,3] 9 #[.pointer (some ⟨g,0,none⟩),.int .i64 l.length]).run prog w.drew=.ok (.string ⟨l.toArray⟩) (w.drew.freeze ⟨g,0,none⟩ l.length):=by
  refine Lib.run_unsafeString_row w.drew 155 3 9 5 Tryz.underlying155 v9o g C.size (by have L:w.drew.heap[g]?=some (.cells C 5 G):=U;simp[World.shape?,L]) l h0 (by omega) (by unfold maxLen at K;omega) ?_;intro j x Y
  have:=D.cells (g:=g) rfl j (.int .u8 x.toNat) (by simp[Lib.byteCells,Y])
  exact this
 clear H;go_in;go_wp2
 go_region
 all_goals (go_wp2;go_ret;exact⟨rfl,Lib.below_freeze (Below.drew (Below.refl B w)) (p:=⟨g,0,none⟩) J _⟩)
theorem j8p(T B b o:Nat)(A R:List Value)(w:World)(ho:A.length=o)(h:IsO T B b A [] R w):
  Calls prog 48 #[.pointer (some ⟨b,o,none⟩)] w fun e w'=>e=.returned (.string ⟨#[]⟩)/\Below B w w':=by
 obtain⟨p,E⟩:=h.at;obtain⟨v,C,D,G,H⟩:=E;obtain rfl:=H rfl;clear D G H;have J:∀(W:World)(q:Option Addr),(Builtin.unsafeString_ #[155,3] 9 #[.pointer q,.int .i64 0]).run prog W=.ok (.string .empty) W:=fun W q=>Lib.run_unsafeString_none W _ _ _ q
 have K:w.drew.cell? ⟨b,o+1,none⟩=some (.slice none 0 0):=by
  have:w.drew.heap[b]?=some (.cells (A++p::.slice none 0 0::R).toArray T (0,0)):=C
  have:=k7j this
  rw[ho]at this;exact this
 have I:(Builtin.unsafeSliceData_ #[94] 155 #[.slice none 0 0]).run prog w.drew=.ok (.pointer none) w.drew:=rfl;clear C;go_in;go_wp2
 go_region
 all_goals (go_wp2;go_ret;exact⟨rfl,Below.drew (Below.refl B w)⟩)
theorem v5e(T B b o:Nat)(A:List Value)(l:List UInt8)(R:List Value)(w:World)(ho:A.length=o)(h:IsO T B b A (Lib.byteCells l) R w):
  Calls prog 48 #[.pointer (some ⟨b,o,none⟩)] w fun e w'=>e=.returned (.string ⟨l.toArray⟩)/\Below B w w':=by
 by_cases C:l=[]
 ·subst C;exact j8p T B b o A R w ho h
 ·exact j8q T B b o A l R w ho h C
def WS(B b:Nat)(pl:List Value)(l:List UInt8)(cv:Value)(w:World):Prop:=IsO 136 B b pl (Lib.byteCells l) [cv] w
abbrev q6z(be bf:Nat)(n cap:Nat)(a:Option Addr):List Value:=[.slice a n cap,.slice (some ⟨be,0,none⟩) n n,.slice (some ⟨bf,0,none⟩) n n]
theorem y9p:j1t 136 6 3:=by unfold j1t;kernel_rfl
section
variable {B b be bf n cap:Nat} {a:Option Addr} {l:List UInt8} {cv:Value} {w w':World}
theorem WS.c0(h:WS B b (q6z be bf n cap a) l cv w):w.cell? ⟨b,0,none⟩=some (.slice a n cap):=IsO.cellP h 0 (by show 0<3;decide)
theorem WS.c1(h:WS B b (q6z be bf n cap a) l cv w):w.cell? ⟨b,1,none⟩=some (.slice (some ⟨be,0,none⟩) n n):=IsO.cellP h 1 (by show 1<3;decide)
theorem WS.c2(h:WS B b (q6z be bf n cap a) l cv w):w.cell? ⟨b,2,none⟩=some (.slice (some ⟨bf,0,none⟩) n n):=IsO.cellP h 2 (by show 2<3;decide)
theorem WS.c5(h:WS B b (q6z be bf n cap a) l cv w):w.cell? ⟨b,5,none⟩=some cv:=IsO.cellR h 0
theorem WS.f5(h:WS B b (q6z be bf n cap a) l cv w):w.frozen? ⟨b,5,none⟩=false:=IsO.frozen h 5
theorem WS.lt{pl:List Value}(h:WS B b pl l cv w):b<w.heap.size:=IsO.lt h
theorem WS.alloc{pl:List Value}(h:WS B b pl l cv w)(o:Obj):WS B b pl l cv (w.alloc o):=IsO.alloc h o
theorem WS.drew{pl:List Value}(h:WS B b pl l cv w):WS B b pl l cv w.drew:=h
theorem WS.W{pl:List Value}(h:WS B b pl l cv w)(hb:Below w w w'):WS B b pl l cv w':=IsO.W h hb
theorem WS.stored(h:WS B b (q6z be bf n cap a) l cv w)(v:Value):WS B b (q6z be bf n cap a) l v (w.setCell ⟨b,5,none⟩ v):=IsO.stored h 0 v
end
theorem y7k{B b be bf n cap:Nat}{a:Option Addr}{l:List UInt8}{cv:Value}{w:World}(h:WS B b (q6z be bf n cap a) l cv w)(hB:B<=b)(s:ByteArray)(hl:l.length+s.size<=2000000000):
  Calls prog 47 #[.pointer (some ⟨b,3,none⟩),.string s] w fun e w'=>(∃z,e=.returned (.tuple #[.int .i64 z,.nilIface]))/\WS B b (q6z be bf n cap a) (l++s.data.toList) cv w'/\Below B w w':=by
 have D:=h.lt;refine(k4w 136 B b 3 (q6z be bf n cap a) _ [cv] s w rfl y9p (by decide) h (by rw[Lib.byteCells_length];omega) (by omega)).mono ?_;rintro e w'⟨rfl,A,C,_⟩;refine⟨⟨_,rfl⟩,?_,C.W hB⟩;rw[WS,Lib.byteCells_append];exact A
structure LC(B s be bf:Nat)(a:Option Addr)(ds:List Nd)(w:World):Prop where
 nd:q1k s w a ds
 kn:q8v w be bf ds 0
theorem LC.W{B s be bf:Nat}{a:Option Addr}{ds:List Nd}{w w':World}(h:LC B s be bf a ds w)(hB:s<B/\be<B/\bf<B)(hb:Below B w w'):LC B s be bf a ds w':=
 ⟨h.nd.kept (hb.block s hB.1),h.kn.kept (hb.block be hB.2.1) (hb.block bf hB.2.2)⟩
def k0c(B b:Nat)(pl:List Value)(res:Except Int (List UInt8 × List Int))(l:List UInt8)(e:Ending)(w':World):Prop:=
 match res with
 | .ok (u,ws')=>e=.returned .nilIface/\∃wa' wc',WS B b pl (l++u) (.slice wa' ws'.length wc') w'/\q1j B w' wa' ws'/\ws'.length<=wc'
 | .error er=>er≠0/\e=.returned (q1r er)
def k2z(fn B b s be bf:Nat)(ds:List Nd)(a:Option Addr)(cap:Nat)(A:List Nd)(f:Nat->List Int->Except Int (List UInt8 × List Int)):Prop:=
 ∀(i:Nat)(r:List Nd)(deep:Nat)(ws:List Int)(wa:Option Addr)(wc:Nat)(l:List UInt8)(w:World),ds.drop i=A++r->LC B s be bf a ds w->q1j B w wa ws->q2q ws->ws.length<=wc->WS B b (q6z be bf ds.length cap a) l (.slice wa ws.length wc) w->
  deep+8*A.length<=3300->l.length+4000*A.length<=1000000000->
  Calls prog fn #[.pointer (some ⟨b,0,none⟩),.int .i64 i,.int .i64 deep] w fun e w'=>k0c B b (q6z be bf ds.length cap a) (f deep ws) l e w'/\Below B w w'
abbrev q3k:=k2z 70
theorem z4q(n:Nat)(hn:n<=4000)(w:World):Calls prog 115 #[.string ⟨#[32]⟩,.int .i64 n] w fun e w'=>e=.returned (.string ⟨(List.replicate n 32).toArray⟩)/\Below w w w':=by
 refine(repeat_any ⟨#[32]⟩ n w (by omega) (by show 1*n<=_;omega)).mono ?_;rintro e w'⟨rfl,B⟩;refine⟨?_,B⟩
 have:=Lib.repeatL_replicate 32 1 n
 have A:Lib.repeatL (ByteArray.mk #[32]).data.toList n=List.replicate n 32:=by simpa using this
 rw[A]
set_option maxHeartbeats 4000000
theorem q1k.part{s o i:Nat}{w:World}{ds A r:List Nd}(h:q1k s w (some ⟨s,o,none⟩) ds)(hd:ds.drop i=A++r):q1k s w (some ⟨s,o+i*3,none⟩) A:=by
 intro j I;have J:=congrArg List.length hd;rw[List.length_drop,List.length_append]at J;have B:i+j<ds.length:=by omega
 obtain⟨K,e,C,D,E⟩:=h (i+j) B;simp only[Option.some.injEq,Addr.mk.injEq,and_true,true_and]at e;subst e
 have H:ds[i+j]=A[j]:=by
  have G:(ds.drop i)[j]?=some A[j]:=by rw[hd,List.getElem?_append_left I];simp
  rw[List.getElem?_drop]at G;exact(List.getElem?_eq_some_iff.1 G).2
 rw[H]at C D E;refine⟨o+i*3,rfl,?_,?_,?_⟩
 ·rw[show o+i*3+j*3=o+(i+j)*3 by omega];exact C
 ·rw[show o+i*3+j*3+1=o+(i+j)*3+1 by omega];exact D
 ·rw[show o+i*3+j*3+2=o+(i+j)*3+2 by omega];exact E
theorem v7a(B b s be bf:Nat)(ds:List Nd)(a:Option Addr)(cap:Nat)(i:Nat)(t:Tr)(r:List Nd)(l:List UInt8)(cv:Value)(w:World)(ht:t.Wf)(hd:ds.drop i=t.N++r)(hC:LC B s be bf a ds w)(hW:WS B b (q6z be bf ds.length cap a) l cv w)(hf:t.isFlat=false):
  Calls prog 185 #[.pointer (some ⟨b,0,none⟩),.int .i64 i] w fun e w'=>e=.returned (q1r 4)/\Below B w w':=by
 have E:=q9g hd;have D:=hW.c2;have C:=(hC.kn i t r (Nat.zero_le _) ht hd).2;rw[hf]at C;have A:(i:Int)<(ds.length:Int):=by omega
 rw[y4s];clear hC hW hd;go_in;go_wp2;go_ret;exact⟨rfl,Below.refl _ _⟩
theorem v0z(B b s be bf:Nat)(hb:s<B/\be<B/\bf<B)(hB:B<=b)(ds:List Nd)(a:Option Addr)(cap:Nat)(S:ds.length<=cap)(hl:ds.length<=400)(i:Nat)(t:Tr)(r:List Nd)(l:List UInt8)(cv:Value)(w:World)(ht:t.Wf)(hd:ds.drop i=t.N++r)(hC:LC B s be bf a ds w)(hW:WS B b (q6z be bf ds.length cap a) l cv w)(hf:t.isFlat=true)(p:l.length<=1000000000):
  Calls prog 185 #[.pointer (some ⟨b,0,none⟩),.int .i64 i] w fun e w'=>e=.returned .nilIface/\WS B b (q6z be bf ds.length cap a) (l++t.line.data.toList) cv w'/\Below B w w':=by
 have f:=q9g hd;have P:=hW.c0;have Q:=hW.c1;have u:=hW.c2;obtain⟨O,q⟩:=hC.kn i t r (Nat.zero_le _) ht hd;rw[hf]at q;obtain⟨C,Z,_,_,_⟩:=hC.nd i f;subst Z;have E:=hW.lt;have M:B<=w.heap.size:=by omega
 have g:(i:Int)<(ds.length:Int):=by omega
 have D:i+t.N.length<=ds.length:=by
  have:=congrArg List.length hd
  rw[List.length_drop,List.length_append]at this;omega
 have hp:=t.pos;have V:q1u w (some ⟨s,C+i*3,none⟩) t.N:=(hC.nd.part hd).nods (by omega);have m:t.line.size<=8000:=by have:=q7r t ht;rw[q7w];omega
 generalize y:i+t.N.length=j at O D;have G:t.N.length=j-i:=by omega
 have I:Hid (∀W:World,Below w w W->Calls prog 216 #[.slice (some ⟨s,C+i*3,none⟩) (j-i) (cap-i)] W fun e w'=>e=.returned (.tuple #[.string t.line,.bool true,.nilIface])/\Below W W w'):=fun W hW=>by
  have:=j4h t.N t rfl ht (by omega) (some ⟨s,C+i*3,none⟩) (cap-i) (by omega) W (V.W hW)
  rw[hf,G]at this;exact this
 have v:(i:Int)<=(j:Int):=by omega
 have L:be<w.heap.size:=by omega
 have n:(0:Int)<=(i:Int):=by omega
 have o:(0:Int)<=(j:Int):=by omega
 have h:(i:Int)<(cap:Int):=by omega
 have c:¬(cap-i=0):=by omega
 have d:¬(cap=i):=by omega
 have k:((j:Int)-(i:Int)).toNat=j-i:=by omega
 have U:((cap:Int)-(i:Int)).toNat=cap-i:=by omega
 have x:(j:Int)<=(cap:Int):=by omega
 have R:(j:Int)<=(ds.length:Int):=by omega
 have Y:Hid (WS B b (q6z be bf ds.length cap (some ⟨s,C,none⟩)) l cv w):=hW;clear hC hW hd V G;go_in;go_wp2_with fail
 go_region_held3 (fun w'=>w'.cell? ⟨b,0,none⟩=some (.slice (some ⟨s,C,none⟩) ds.length cap)/\w'.cell? ⟨b,1,none⟩=some (.slice (some ⟨be,0,none⟩) ds.length ds.length)/\w'.cell? ⟨be,i,none⟩=some (.int .i64 (j:Int)))
  (first|exact⟨P,Q,O⟩|exact⟨((q1z A).1 _ _ E).trans P,((q1z A).1 _ _ E).trans Q,((q1z A).1 _ _ L).trans O⟩)
  (first|(go_at_call 216;refine(I.o _ (Below.drew (Below.refl _ w))).mono ?_;rintro e X⟨rfl,A⟩))
 all_goals
  have J:Hid (WS B b (q6z be bf ds.length cap (some ⟨s,C,none⟩)) l cv X):=WS.W (WS.drew Y.o) A;have H:Hid (Below B w X):=(Below.drew (Below.refl B w)).trans (A.mono M);clear A;go_wp2_with fail;refine(y7k J.o hB t.line (by omega)).mono ?_;rintro e w3⟨⟨z,rfl⟩,R,K⟩;go_wp2;go_ret;exact⟨rfl,R,H.o.trans K⟩
abbrev q5q:Array Value:=#[.int .i64 0,.string ⟨#[]⟩,.int .i64 0,.int .i64 0,.int .i64 0,.int .i64 0,.int .i64 0]
theorem j8y:(prog.info? 182).map (fun i=>(i.zero,i.size,i.bytes))=some (some (.agg q5q),7,64):=by kernel_rfl
theorem z8q{z:Array Value}{n k:Nat}(h:k<n):(madeCells z n)[k]?=some (z[k % z.size]!):=by
 simp[madeCells,h]
theorem y2b{w:World}{g n:Nat}(h:w.heap[g]?=some (.cells (madeCells q5q (n*7)) 182 (0,0))):PwR w g n (fun _=>q0) where
 get j hj:=by
  have A:∀f,f<7->w.cell? ⟨g,j*7+f,none⟩=some (q5q[f]!):=fun f hf=>by
   simp only[World.cell?,h];rw[z8q (by omega),show q5q.size=7 from rfl,show(j*7+f) % 7=f by omega];rfl
  exact⟨A 0 (by omega),A 1 (by omega),A 2 (by omega),A 3 (by omega),A 4 (by omega),A 5 (by omega),A 6 (by omega)⟩
 row:=⟨_,_,h⟩
theorem j2q(n:Nat)(hn:n<=400)(W:World):(Instr.makeSlice 113 (.int .i64 (n:Int)) (.int .i64 (n:Int))).run prog W=.ok (.slice (some ⟨W,0,none⟩) n n) (W.alloc (.cells (madeCells q5q (n*7)) 182)):=by
 obtain⟨i,B,D,C,A⟩:=info_parts j8y
 have:=run_make (P:=prog) W 113 182 i _ Tryz.underlying113 B D .i64 .i64 n n (by omega) (by omega) (by rw[A];omega) (by omega)
 rw[C,Int.toNat_natCast]at this;exact this
theorem v2e{R:List Pl}{L M i nx dp:Nat}{ks:List (Nat × Tr)}{t:Tr}(bp g:Nat)(F:Nat->Q)(w:World)(hR:R.length<=400)(h:Sp R L M i t nx dp ks)(I:(F i).op=(q1p R i).nd.op)(D:∀j,i<j->j<R.length->(F j).en=(q1p R j).en)
  (c0:w.cell? ⟨bp,0,none⟩=some (.slice (some ⟨g,0,none⟩) R.length R.length)) (hp:PwR w g R.length F):
  Calls prog 107 #[.pointer (some ⟨bp,0,none⟩),.int .i64 i] w fun e w'=>e=.returned (.int .i64 (q1p R i).en)/\∃q,w'=w.drewN q:=by
 have H:(i:Int)<(R.length:Nat):=by have:=h.lt;omega
 have E:=(hp.get i h.lt).c0;rw[I]at E;have K:=h.at;rw[K]at E⊢;cases t with
 | leaf x=>
  have A:∀k:Int,k=6\/k=9\/k=7\/k=8->(x.op==k)=false:=fun k hk=>beq_eq_false_iff_ne.2 (by
   rcases q3y h.wf.1 h.wf.2 with e|e|e|e|e<;>omega)
  exact j2k bp g R.length i x.op w hR H c0 E (A 6 (by omega)) (A 9 (by omega)) (A 7 (by omega)) (A 8 (by omega))
 | one x a=>
  have B:=h.one;have G:=(hp.get (i+1) B.lt).c3;rw[D (i+1) (by omega) B.lt,B.at]at G
  have e:(z6s (Tr.one x a) i nx dp ks).en=(z6s a (i+1) nx (dp+x.n.toNat) ks).en:=by
   show i+(Tr.one x a).sz=i+1+a.sz;rw[k2n];omega
  rw[e];exact v2f bp g R.length i x.op _ w hR H (by have:=B.lt;omega) c0 E G (q7y h.wf.2.1)
 | two x a b=>
  obtain⟨O,N,B⟩:=h.two1;have C:=h.two2;have G:=(hp.get (i+1) B.lt).c3;rw[D (i+1) (by omega) B.lt,B.at]at G;have J:=(hp.get (i+1+a.sz) C.lt).c3;rw[D (i+1+a.sz) (by omega) C.lt,C.at]at J
  have e:(z6s (Tr.two x a b) i nx dp ks).en=(z6s b (i+1+a.sz) nx dp ks).en:=by
   show i+(Tr.two x a b).sz=i+1+a.sz+b.sz;rw[z4v];omega
  rw[e];exact v2g bp g R.length i (i+1+a.sz) x.op _ w hR H (by have:=B.lt;omega) (by have:=C.lt;omega) c0 E G J (q7k h.wf.2.1)
structure NP(w0 w:World)(wd n:Nat):Prop where
 c0:w.cell? ⟨w0.heap.size+1+1,0,none⟩=some (.slice (some ⟨w0.heap.size+1,0,none⟩) n n)
 c1:w.cell? ⟨w0.heap.size+1+1,1,none⟩=some (.int .i64 wd)
 r0:w.cell? ⟨w0,0,none⟩=some (.slice none 0 0)
 r1:w.cell? ⟨w0,1,none⟩=some (.int .i64 0)
 f0:q7n w w0.heap.size
 bw:Below w0 w0 w
theorem NP.belX{w0 w w':World}{wd n B:Nat}(h:NP w0 w wd n)(hb:q0v B (w0.heap.size+1) w w')(hB:w0.heap.size+1+1+1<=B):NP w0 w' wd n where
 c0:=(hb.cell (p:=⟨w0.heap.size+1+1,0,none⟩) (by simp;omega) (by simp)).trans h.c0
 c1:=(hb.cell (p:=⟨w0.heap.size+1+1,1,none⟩) (by simp;omega) (by simp)).trans h.c1
 r0:=(hb.cell (p:=⟨w0,0,none⟩) (by simp;omega) (by simp)).trans h.r0
 r1:=(hb.cell (p:=⟨w0,1,none⟩) (by simp;omega) (by simp)).trans h.r1
 f0:=h.f0.kept (hb.block _ (by omega) (by omega))
 bw:=h.bw.trans ((hb.mono (B':=w0.heap.size) (by omega)).W (by omega))
theorem NP.same{w0 w w':World}{wd n:Nat}(h:NP w0 w wd n)(e1:w'.heap=w.heap)(e2:w'.os=w.os)(e3:w'.tape=w.tape)(e4:w'.output=w.output):NP w0 w' wd n:=
 h.belX (B:=w0.heap.size+1+1+1) ⟨e2,e3,e4,by rw[e1];exact Nat.le_refl _,fun k _ _=>by rw[e1]⟩ (by omega)
theorem NP.lt{w0 w:World}{wd n:Nat}(h:NP w0 w wd n):w0.heap.size+1+1<w.heap.size:=World.block_lt_of_cell? w ⟨w0.heap.size+1+1,0,none⟩ h.c0
theorem v5z{t t':Tr}{i nx dp:Nat}{ks:List (Nat × Tr)}{ds:List Nd}(hd:ds=t.N)(h:Sp (q0a t) t.lf t.dsum i t' nx dp ks):∃r,ds.drop i=t'.N++r:=by
 obtain⟨A,e⟩:=h.pl;refine⟨A.map (·.nd),?_⟩;have B:(q0a t).map (·.nd)=ds:=by rw[hd];exact z2a t _ _ _ _
 rw[<-B,<-List.map_drop,e,List.map_append,z2a]
theorem y3x{w:World}{B g o:Nat}{v:Value}:q0v B g w (w.setCell ⟨g,o,none⟩ v):=(q0v.refl B g w).setCell (p:=⟨g,o,none⟩) (.inl rfl) v
theorem v4y(w0:World)(wd n:Nat):NP w0 (((w0.alloc (.cells #[.slice none 0 0,.int .i64 0] 115)).alloc (.cells (madeCells q5q (n*7)) 182)).alloc (.cells #[.slice (some ⟨w0.heap.size+1,0,none⟩) n n,.int .i64 wd] 115)) wd n/\PwR (((w0.alloc (.cells #[.slice none 0 0,.int .i64 0] 115)).alloc (.cells (madeCells q5q (n*7)) 182)).alloc (.cells #[.slice (some ⟨w0.heap.size+1,0,none⟩) n n,.int .i64 wd] 115)) (w0.heap.size+1) n (fun _=>q0):=by
 have D:=heap_alloc_new w0 (.cells #[.slice none 0 0,.int .i64 0] 115);have B:=heap_alloc_new (w0.alloc (.cells #[.slice none 0 0,.int .i64 0] 115)) (.cells (madeCells q5q (n*7)) 182);have E:(w0.alloc (.cells #[.slice none 0 0,.int .i64 0] 115)).heap.size=w0.heap.size+1:=by simp
 rw[E]at B
 have A:(((w0.alloc (.cells #[.slice none 0 0,.int .i64 0] 115)).alloc (.cells (madeCells q5q (n*7)) 182)).alloc (.cells #[.slice (some ⟨w0.heap.size+1,0,none⟩) n n,.int .i64 wd] 115)).heap[w0.heap.size]?=some (.cells #[.slice none 0 0,.int .i64 0] 115 (0,0)):=
  (Below.heap_alloc _ _ _ (by simp;omega)).trans ((Below.heap_alloc _ _ _ (by simp)).trans D)
 have C:(((w0.alloc (.cells #[.slice none 0 0,.int .i64 0] 115)).alloc (.cells (madeCells q5q (n*7)) 182)).alloc (.cells #[.slice (some ⟨w0.heap.size+1,0,none⟩) n n,.int .i64 wd] 115)).heap[w0.heap.size+1]?=some (.cells (madeCells q5q (n*7)) 182 (0,0)):=
  (Below.heap_alloc _ _ _ (by simp)).trans B
 exact⟨⟨by simp[go_sem],by simp[go_sem],by simp[World.cell?,A],by simp[World.cell?,A],⟨_,_,A⟩,(((Below.refl _ w0).alloc Zl _).alloc (by simp) _).alloc (by simp;omega) _⟩,y2b C⟩
end Go.Proofs.YthcpdohdppkmkaaGreatDoor
