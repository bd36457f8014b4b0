import Derived.Test.YtelcnplcpboonaaGreatDoorPb36
open Go.Proofs.Tryz
namespace Go.Proofs.YtelcnplcpboonaaGreatDoor
open Go Go.RowKit
set_option maxRecDepth 100000
set_option maxHeartbeats 2000000
def v7t(w:World)(v:Value):Prop:=∀g o n c,v=.slice (some ⟨g,o,none⟩) n c->∀cs t f,w.heap[g]?=some (.cells cs t f)->∀u∈cs.toList,∃z,u=.int .u8 z
theorem q8a{s:ByteArray}:∀u∈Lib.strCells s,∃z,u=.int .u8 z:=by
 intro u A;simp only[Lib.strCells,List.mem_map]at A;obtain⟨b,_,rfl⟩:=A;exact⟨_,rfl⟩
theorem j9u{k:Nat}:∀u∈(Builtin.zeroCells (Value.int .u8 0).cells k).toList,∃z,u=.int .u8 z:=by
 intro u A;simp[Builtin.zeroCells,Value.cells,Nat.mod_one]at A;obtain⟨_,rfl⟩:=A;exact⟨0,rfl⟩
section
variable {w:World} {t u ty e:TypeId} {i:TypeInfo}
theorem j1d(ht:prog.underlying t=some (.slice e))(hu:prog.underlying u=some .string)(hi:prog.info? e=some i)(hz:i.zero=some (.int .u8 0))(C:i.size=1)(L:i.bytes=1)
  {B n:Nat} {v:Value} {xs:List Value} (D:w.ownsRowF B e 1 v n xs) (hv:v7t w v) (s:ByteArray) (a:n+s.size<=140737488355328) {v':Value} {w':World}
  (hr:(Builtin.append_ #[t,u] ty #[v,.string s]).run prog w=.ok v' w'):v7t w' v':=by
 have k:n+s.size<=9223372036854775807:=by omega
 have R:xs.length=n:=by simpa using D.1
 rcases D.2 with⟨rfl,rfl⟩|⟨g,E,H,Y,rfl,_,M,Q,b,_,O,K⟩
 ·by_cases U:s.size=0
  ·have W:=Lib.run_firstCells_string (P:=prog) w 1 s;rw[U]at W
   have:(Builtin.append_ #[t,u] ty #[.slice none 0 0,.string s]).run prog w=.ok (.slice none 0 0) w:=by simp[Builtin.append_,run_underlying ht,run_underlying hu,sizeOf,typeInfo,hi,C,Builtin.lenOf,U,W]
   rw[this]at hr;cases hr;intro g o n c q;cases q
  ·have N:=run_append_nil_string (P:=prog) w t u ty e i (.int .u8 0) ht hu hi hz s (by omega) (by omega) (by rw[L];omega);rw[N]at hr;cases hr;intro g o n c q S t f G x A;cases q;rw[show w.heap.size=w.drew.heap.size from rfl,heap_alloc_new]at G;cases G;simp only[Array.toList_append,List.mem_append]at A;rcases A with A|A
   ·refine q8a (s:=s) x ?_;simpa[Lib.strCells]using A
   ·exact j9u x A
 ·by_cases J:n+s.size<=E
  ·have V:H.size=E:=by simpa using O
   have N:=Lib.run_append_room_stringF (P:=prog) w t u ty e i ht hu hi C g n E H Y M (by simpa using Q) s J (by omega);rw[N]at hr;cases hr;intro Z h d X q S t f G x A;cases q;rw[setRow_heap w g H _ e _ M]at G;cases G;simp only[List.mem_append]at A;rcases A with(A|A)|A
   ·exact hv _ _ _ _ rfl _ _ _ M x (List.mem_of_mem_take A)
   ·exact q8a x A
   ·exact hv _ _ _ _ rfl _ _ _ M x (List.mem_of_mem_drop A)
  ·have I:∀j u,xs[j]?=some u->w.cell? ((⟨g,0,none⟩:Addr).add j)=some u:=D.cells (g:=g) rfl;have N:=Lib.run_append_grow_string (P:=prog) w t u ty e i (.int .u8 0) ht hu hi hz ⟨g,0,none⟩ n E xs (by rw[C];simpa using R) I s (by omega) (by omega) (by rw[L];exact growslice_fits (by omega) (by omega));rw[N]at hr;cases hr;intro Z h d X q S t f G x A;cases q;rw[show w.heap.size=w.drew.heap.size from rfl,heap_alloc_new]at G;cases G;simp only[Array.toList_append,List.mem_append]at A;rcases A with(A|A)|A
   ·refine hv _ _ _ _ rfl _ _ _ M x (List.mem_of_mem_take (i:=n*1) ?_);rw[K];exact A
   ·exact q8a x A
   ·exact j9u x A
end
theorem z1r{w:World}{G:Array Oper}{rest:List Oper}{o:Oper}{a:Act}{Q:Exit->Act->World->Prop}(H:o.guard=none)(sl x:Operand)(t u:TypeId)
  (ho:o.op=.call {callee:=.builtin .append,args:=#[sl,x],argTypes:=#[t,u]})
  (B:Nat) (e:TypeId) (i:TypeInfo) (ht:prog.underlying t=some (.slice e)) (hu:prog.underlying u=some .string) (hi:prog.info? e=some i) (hz:i.zero=some (.int .u8 0))
  (A:i.size=1) (E:i.bytes=1)
  (v:Value) (n:Nat) (xs:List Value) (hs:a.eval sl=v) (C:w.ownsRowF B e 1 v n xs) (hv:v7t w v) (s:ByteArray) (hx:a.eval x=.string s)
  (D:n+s.size<=140737488355328) (hB:B<=w.heap.size)
  (h:∀v' w',w'.ownsRowF B e 1 v' (n+s.size) (xs++Lib.strCells s)->w.grownBy w' v.ownBlock->(v'=.slice none 0 0↔v=.slice none 0 0/\s.size=0)->v7t w' v'->wpList prog G Q rest (a.put o.dst v') w'):wpList prog G Q (o::rest) a w:=by
 refine wpList_plain H fun K hK=>?_
 obtain⟨v',w',I,J,L,M⟩:=Lib.run_append_own_stringF (P:=prog) w B t u o.type e i ht hu hi hz A E v n xs C s (by unfold maxLen;omega) D hB;have N:=j1d ht hu hi hz A E C hv s D I;unfold Oper.wp execOp;simp only[ho,resolve,invoke,builtin,Sem.run_bind,Sem.run_pure,Result.andThen_ok,List.map_toArray,List.map_cons,List.map_nil,hs,hx,I];exact hK _ _ (h v' w' J L M N)
def y9x(w:World)(b:Nat):Prop:=∀v,w.cell? ⟨b,1,none⟩=some v->v7t w v
structure IsU(B b:Nat)(l:List UInt8)(w:World):Prop where
 is:IsX 38 B b (Lib.byteCells l) [] w
 by_:y9x w b
def Bd(w:World)(b k:Nat):Prop:=k=b\/∃o n c,w.cell? ⟨b,1,none⟩=some (.slice (some ⟨k,o,none⟩) n c)
section
variable {B b:Nat} {l:List UInt8} {w w':World} {S:Nat→Prop}
theorem IsU.lt(h:IsU B b l w):b<w.heap.size:=h.is.lt
theorem IsU.fresh(w:World):IsU w.heap.size w.heap.size [] (w.alloc (.cells #[.pointer none,.slice none 0 0] 38)):=by
 refine⟨IsX.fresh _ w [],fun v hv=>?_⟩;rw[Lib.cell_of_heap (heap_alloc_new w _)]at hv
 have:v=.slice none 0 0:=by simpa using hv.symm
 subst this;intro g o n c q;cases q
theorem IsU.parts(h:IsU B b l w):∃p v,(p=.pointer none\/p=.pointer (some ⟨b,0,none⟩))/\w.heap[b]?=some (.cells #[p,v] 38 (0,0))/\w.cell? ⟨b,1,none⟩=some v/\
  (v=.slice none 0 0\/∃g c cur f,v=.slice (some ⟨g,0,none⟩) (Lib.byteCells l).length c/\w.heap[g]?=some (.cells cur 5 f)):=by
 obtain⟨p,E,v,C,A,_,_⟩:∃p,(p=.pointer none\/p=.pointer (some ⟨b,0,none⟩))/\XAt 38 B b p (Lib.byteCells l) [] w:=by
  rcases h.is with q|q
  ·exact⟨_,.inl rfl,q⟩
  ·exact⟨_,.inr rfl,q⟩
 refine⟨p,v,E,C,by rw[Lib.cell_of_heap C];rfl,?_⟩;rcases A.2 with⟨e,_⟩|⟨g,c,cur,f,e,_,D,_⟩
 ·exact .inl e
 ·exact .inr ⟨g,c,cur,f,e,D⟩
theorem IsU.row(h:IsU B b l w){k:Nat}(hk:Bd w b k):(k=b/\∃p v,(∀z,p≠.int .i64 z)/\(∀z,v≠.int .i64 z)/\w.heap[k]?=some (.cells #[p,v] 38 (0,0)))\/∃cur f,w.heap[k]?=some (.cells cur 5 f)/\∀u∈cur.toList,∃z,u=.int .u8 z:=by
 obtain⟨p,v,G,E,A,D⟩:=h.parts;rcases hk with rfl|⟨o,n,c,hk⟩
 ·refine .inl ⟨rfl,p,v,?_,?_,E⟩
  ·rcases G with rfl|rfl<;>intro z e<;>cases e
  ·rcases D with rfl|⟨_,_,_,_,rfl,_⟩<;>intro z e<;>cases e
 ·rw[A]at hk;have e:v=.slice (some ⟨k,o,none⟩) n c:=Option.some.inj hk;rcases D with rfl|⟨g,H,cur,f,rfl,C⟩
  ·cases e
  ·simp only[Value.slice.injEq,Option.some.injEq,Addr.mk.injEq,and_true]at e;obtain⟨⟨rfl,_⟩,_⟩:=e;exact .inr ⟨cur,f,C,h.by_ _ A _ _ _ _ rfl _ _ _ C⟩
theorem IsU.noD(h:IsU B b l w):∀k,Bd w b k->NoD w k:=by
 intro k H;rcases h.row H with⟨_,p,v,D,E,A⟩|⟨C,f,A,G⟩
 ·refine⟨fun o z s c1 _=>?_,fun cs f e _ _ _=>?_,fun es c e=>?_⟩
  ·rw[Lib.cell_of_heap A]at c1;rcases o with _|_|o
   ·exact D z (by simpa using c1)
   ·exact E z (by simpa using c1)
   ·simp at c1
  ·rw[A]at e;cases e
  ·rw[A]at e;cases e
 ·refine⟨fun o z s c1 _=>?_,fun cs f e _ _ _=>?_,fun es c e=>?_⟩
  ·rw[Lib.cell_of_heap A]at c1;obtain⟨q,I⟩:=Array.getElem?_eq_some_iff.1 c1;obtain⟨J,e⟩:=G _ (Array.mem_toList_iff.2 (Array.getElem_mem q));rw[I]at e;cases e
  ·rw[A]at e;cases e
  ·rw[A]at e;cases e
theorem IsU.not(h:IsU B b l w){k:Nat}{cs:Array Value}{T:TypeId}{f:Nat × Nat}(hk:w.heap[k]?=some (.cells cs T f))(h1:T≠38)(h2:T≠5):¬Bd w b k:=by
 intro D;rcases h.row D with⟨_,p,v,_,_,A⟩|⟨C,f,A,_⟩
 ·rw[hk]at A;simp only[Option.some.injEq,Obj.cells.injEq]at A;exact h1 A.2.1
 ·rw[hk]at A;simp only[Option.some.injEq,Obj.cells.injEq]at A;exact h2 A.2.1
theorem IsU.notBare(h:IsU B b l w){k:Nat}(hk:j9v w k):¬Bd w b k:=by
 intro D;rcases h.row D with⟨_,p,v,_,_,A⟩|⟨C,f,A,_⟩
 ·rcases hk _ A with⟨_,e⟩|⟨_,e⟩<;>cases e
 ·rcases hk _ A with⟨_,e⟩|⟨_,e⟩<;>cases e
theorem IsU.ex(h:IsU B b l w)(hx:Ex S w w')(hn:∀k,Bd w b k->¬S k):IsU B b l w':=by
 have H:w'.heap[b]?=w.heap[b]?:=hx.block b h.lt (hn b (.inl rfl));have L:w'.cell? ⟨b,1,none⟩=w.cell? ⟨b,1,none⟩:=World.cell?_of_block (w:=w) H;have M:∀g o n c,w.cell? ⟨b,1,none⟩=some (.slice (some ⟨g,o,none⟩) n c)->∀x,w.heap[g]?=some x->w'.heap[g]?=some x:=fun g o n c e x D=>(hx.block g (Array.getElem?_eq_some_iff.1 D).1 (hn g (.inr ⟨_,_,_,e⟩))).trans D
 have G:∀p,XAt 38 B b p (Lib.byteCells l) [] w->XAt 38 B b p (Lib.byteCells l) [] w':=by
  rintro p⟨v,A,C,J,K⟩;refine⟨v,H.trans A,⟨C.1,?_⟩,J,K⟩;rcases C.2 with q|⟨g,c,E,f,e,N,O,P⟩
  ·exact .inl q
  ·exact .inr ⟨g,c,E,f,e,N,M g 0 _ c (by rw[Lib.cell_of_heap A,<-e];rfl) _ O,P⟩
 refine⟨h.is.imp (G _) (G _),fun v hv=>?_⟩;rw[L]at hv;intro g o n c e Q t f I;subst e
 have D:g<w.heap.size:=by
  obtain⟨p,v,_,_,A,C⟩:=h.parts;rw[A]at hv;have e:=Option.some.inj hv;rcases C with rfl|⟨R,_,_,_,rfl,q⟩
  ·cases e
  ·simp only[Value.slice.injEq,Option.some.injEq,Addr.mk.injEq,and_true]at e;obtain⟨⟨rfl,_⟩,_⟩:=e;exact(Array.getElem?_eq_some_iff.1 q).1
 rw[hx.block g D (hn g (.inr ⟨_,_,_,hv⟩))]at I;exact h.by_ _ hv _ _ _ _ rfl _ _ _ I
theorem j0g(h:IsU B b l w):Calls prog 24 #[.pointer (some ⟨b,0,none⟩)] w fun e w'=>e=.returned (.tuple #[])/\XAt 38 B b (.pointer (some ⟨b,0,none⟩)) (Lib.byteCells l) [] w'/\w'.cell? ⟨b,1,none⟩=w.cell? ⟨b,1,none⟩/\(∀k,k≠b->w'.heap[k]?=w.heap[k]?)/\Ex (fun k=>k=b) w w':=by
 rcases h.is with q|q
 ·refine(z1j 38 2 b w (by kernel_rfl) q.cell0 q.shape (by omega) (q.frozen 0)).mono ?_;rintro e w'⟨rfl,rfl⟩;exact⟨rfl,q.used _,cso (by omega),fun k hk=>Below.heap_setCell _ _ _ _ hk,Ex.at (S:=fun k=>k=b) (p:=⟨b,0,none⟩) (show b=b from rfl) _⟩
 ·refine(z4e b w q.cell0).mono ?_;rintro e w'⟨rfl,rfl⟩;exact⟨rfl,q,rfl,fun k _=>rfl,Ex.refl _ _⟩
end
theorem z4a{B b:Nat}{l:List UInt8}(s:ByteArray){w:World}(h:IsU B b l w)(X:l.length+s.size<=140737488355328)(hB:B<=w.heap.size):
  Calls prog 10 #[.pointer (some ⟨b,0,none⟩),.string s] w fun e w'=>e=.returned (.tuple #[.int .i64 s.size,.nilIface])/\IsU B b (l++btL s) w'/\Ex (Bd w b) w w':=by
 obtain⟨i0,hi,z,Aa,Ab⟩:=info_parts j9h;have U:(Lib.byteCells l).length=l.length:=by simp[Lib.byteCells]
 have HE:Hid (Lib.byteCells (l++btL s)=Lib.byteCells l++Lib.strCells s):=(show _=_ by simp[Lib.byteCells,Lib.strCells,btL]);have H:Hid (IsU B b l w):=h;clear h;rw[<-U]at X;clear U;go_in;go_wp2_with(go_at_call 24;refine(j0g H.o).mono ?_);rintro e P⟨rfl,m,M,W,O⟩;obtain⟨v,C,L,Y,h0⟩:=m
 have HY:Hid (v7t P v):=by
  have i:P.cell? ⟨b,1,none⟩=some v:=by rw[Lib.cell_of_heap C];rfl
  rw[M]at i;intro g o n c e j t f V;have N:g≠b:=fun e2=>Y (by rw[e,<-e2];rfl)
  rw[W g N]at V;exact H.o.by_ v i g o n c e j t f V
 have H0:Hid (Lib.byteCells l=[]->v=.slice none 0 0):=h0;have a:Hid (Ex (Bd w b) w P):=O.mono fun k e=>.inl e
 have HV:Hid (w.cell? ⟨b,1,none⟩=some v):=(show _=_ by rw[<-M,Lib.cell_of_heap C];rfl);have c0:P.cell? ⟨b,0,none⟩=some (.pointer (some ⟨b,0,none⟩)):=by rw[Lib.cell_of_heap C];rfl
 have i:P.cell? ⟨b,1,none⟩=some v:=by rw[Lib.cell_of_heap C];rfl
 have Ac:=O.size;clear h0 M W O;go_wp2_with(at_builtin;refine z1r rfl _ _ 36 9 rfl B 5 i0 Tryz.underlying36 Tryz.underlying9 hi z Aa Ab _ _ _ rfl L HY.o s rfl ?c4 ?c5 ?_)
 case c4=>omega
 case c5=>omega
 intro v' Q E A K J;have HZ:Hid (v'=.slice none 0 0↔v=.slice none 0 0/\s.size=0):=(show _↔_ by simpa using K);have Z:Hid (v7t Q v'):=J;clear K J;have r:b<P.heap.size:=(Array.getElem?_eq_some_iff.1 C).1
 have D:Q.heap[b]?=some (.cells #[.pointer (some ⟨b,0,none⟩),v] 38 (0,0)):=by
  rw[A.block b r (fun e=>Y e.symm)];exact C
 have d0:Q.cell? ⟨b,0,none⟩=some (.pointer (some ⟨b,0,none⟩)):=by rw[Lib.cell_of_heap D];rfl
 have d1:Q.cell? ⟨b,1,none⟩=some v:=by rw[Lib.cell_of_heap D];rfl
 have f1:Q.frozen? ⟨b,1,none⟩=false:=Lib.frozen_of_heap D 1
 obtain⟨d,n',I,rfl⟩:∃d n' I,v'=.slice d n' I:=by
  rcases E.2 with⟨y,_⟩|⟨g,I,R,fz,y,_⟩
  ·exact⟨_,_,_,y⟩
  ·exact⟨_,_,_,y⟩
 go_wp2;go_ret2;have G:Q.ownsRowF B 5 1 (.slice d n' I) (Lib.byteCells l++Lib.strCells s).length (Lib.byteCells l++Lib.strCells s):=by simpa[Lib.strCells_length]using E
 refine⟨rfl,⟨.inr ?_,fun u hu=>?_⟩,?_⟩
 ·rw[HE.o];refine XAt.put D (bs':=Lib.byteCells l++Lib.strCells s) G (by decide) (fun h=>?_);obtain⟨m,h2⟩:=List.append_eq_nil_iff.1 h;refine HZ.o.2 ⟨H0.o m,?_⟩;rw[<-Lib.strCells_length,h2];rfl
 ·rw[css d1]at hu;cases hu;intro g o n c e j t f V x hx
  have N:g≠b:=by
   rintro rfl;rcases G.2 with⟨q,_⟩|⟨g',c',R,fz,q,_,q2,_⟩
   ·rw[e]at q;cases q
   ·rw[e]at q;simp only[Value.slice.injEq,Option.some.injEq,Addr.mk.injEq,and_true]at q;obtain⟨⟨rfl,_⟩,_⟩:=q;rw[D]at q2;cases q2
  rw[Below.heap_setCell _ _ _ _ N]at V;exact Z.o g o n c e j t f V x hx
 ·refine a.o.trans ((Ex.mk A.os A.tape A.output A.size fun k hk hn=>A.block k hk fun e=>hn ?_:Ex (Bd w b) P Q).trans (Ex.at (S:=Bd w b) (p:=⟨b,1,none⟩) (.inl rfl) _));rcases L.2 with⟨q,_⟩|⟨g',c',R,fz,q,_⟩
  ·rw[q]at e;cases e
  ·rw[q]at e
   have:k=g':=by simpa[Value.ownBlock]using e
   subst this;exact .inr ⟨_,_,_,HV.o.trans (by rw[q])⟩
theorem IsU.W{B b:Nat}{l:List UInt8}{w w':World}(h:IsU B b l w)(hb:Below w w w'):IsU B b l w':=h.ex (S:=fun _=>False) (.of hb) fun _ _ h=>h
theorem IsU.ge{B b:Nat}{l:List UInt8}{w:World}(h:IsU B b l w)(hb:B<=b):∀k,Bd w b k->B<=k:=by
 rintro k (rfl|⟨o,n,c,hk⟩)
 ·exact hb
 ·obtain⟨p,v,C,D,_,_⟩:=h.is.at;rw[Lib.cell_of_heap C]at hk;have e:v=.slice (some ⟨k,o,none⟩) n c:=by simpa using hk
  rcases D.2 with⟨q,_⟩|⟨g,G,A,f,q,E,_⟩
  ·rw[e]at q;cases q
  ·rw[e]at q;simp only[Value.slice.injEq,Option.some.injEq,Addr.mk.injEq,and_true]at q;obtain⟨⟨rfl,_⟩,_⟩:=q;exact E
theorem Ex.freeze{S:Nat->Prop}{w:World}{p:Addr}(hp:S p.block)(n:Nat):Ex S w (w.freeze p n):=by
 unfold World.freeze
 split
 ·exact Ex.refl S w
 ·refine⟨rfl,rfl,rfl,by simp,fun k hk hn=>?_⟩;have A:p.block≠k:=by rintro rfl;exact hn hp
  simp only[Array.getElem?_modify];rw[if_neg A]
theorem Ex.drewn{S:Nat->Prop}{w:World}:Ex S w w.drew:=⟨rfl,rfl,rfl,Nat.le_refl _,fun _ _ _=>rfl⟩
theorem k7g{B b:Nat}{l:List UInt8}{w:World}(h:IsU B b l w):
  Calls prog 12 #[.pointer (some ⟨b,0,none⟩)] w fun e w'=>e=.returned (.string ⟨l.toArray⟩)/\Ex (Bd w b) w w':=by
 obtain⟨p,v,N,D,I,E⟩:=h.is.at;have K:Hid (w.cell? ⟨b,1,none⟩=some v):=(show _=_ by rw[Lib.cell_of_heap N];rfl);by_cases J:l=[]
 ·subst J;obtain rfl:=E rfl;clear D I E h;have M:∀(W:World)(q:Option Addr),(Builtin.unsafeString_ #[68,3] 9 #[.pointer q,.int .i64 0]).run prog W=.ok (.string .empty) W:=fun W q=>Lib.run_unsafeString_none W _ _ _ q
  have V:w.drew.cell? ⟨b,1,none⟩=some (.slice none 0 0):=K.o;have L:(Builtin.unsafeSliceData_ #[36] 68 #[.slice none 0 0]).run prog w.drew=.ok (.pointer none) w.drew:=rfl;go_in;go_wp2
  go_region
  all_goals (go_wp2;go_ret;exact⟨rfl,Ex.drewn⟩)
 ·have R:l.length≠0:=by simpa using J
  rw[Lib.byteCells_length]at D
  obtain⟨g,A,C,H,rfl,S,X,Y,O,P,G⟩:∃g A C H,v=.slice (some ⟨g,0,none⟩) l.length A/\w.heap[g]?=some (.cells C 5 H)/\H.2<=l.length*1/\l.length<=A/\A<=maxLen/\C.size=A*1/\C.toList.take (l.length*1)=Lib.byteCells l:=by
   rcases D.2 with⟨_,c⟩|⟨g,A,C,H,Z,_,r⟩
   ·exact absurd c R
   ·exact⟨g,A,C,H,Z,r⟩
  have V:w.drew.cell? ⟨b,1,none⟩=some (.slice (some ⟨g,0,none⟩) l.length A):=K.o
  have L:(Builtin.unsafeSliceData_ #[36] 68 #[.slice (some ⟨g,0,none⟩) l.length A]).run prog w.drew=.ok (.pointer (some ⟨g,0,none⟩)) w.drew:=
   Lib.run_unsafeSliceData_row _ _ _ _ _ _ (by omega)
  have M:(Builtin.unsafeString_ #[68,3] 9 #[.pointer (some ⟨g,0,none⟩),.int .i64 l.length]).run prog w.drew=.ok (.string ⟨l.toArray⟩) (w.drew.freeze ⟨g,0,none⟩ l.length):=by
   refine Lib.run_unsafeString_row w.drew 68 3 9 5 Tryz.underlying68 j9i g C.size (by have Q:w.drew.heap[g]?=some (.cells C 5 H):=S;simp[World.shape?,Q]) l J (by omega) (by unfold maxLen at O;omega) ?_;intro j x a
   have:=D.cells (g:=g) rfl j (.int .u8 x.toNat) (by simp[Lib.byteCells,a])
   exact this
  have U:Hid (Bd w b g):=.inr ⟨_,_,_,K.o⟩;clear h D I E S G P J;go_in;go_wp2
  go_region
  all_goals (go_wp2;go_ret;exact⟨rfl,Ex.drewn.trans (Ex.freeze (p:=⟨g,0,none⟩) U.o _)⟩)
end Go.Proofs.YtelcnplcpboonaaGreatDoor
