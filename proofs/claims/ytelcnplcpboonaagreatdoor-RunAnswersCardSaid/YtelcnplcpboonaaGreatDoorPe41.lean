import Derived.Test.YtelcnplcpboonaaGreatDoorPe39
import Derived.Test.YtelcnplcpboonaaGreatDoorPe40
open Go.Proofs.Tryz
open List renaming length->ſ
open Go.Lib renaming byteCells->À,cell_of_heap->Å,strCells->É,strCells_length->ã,extract_eq->ä
open Go.Value renaming string->Á,pointer->Ä,slice->Æ,int->Ú,tuple->è
open List renaming length_append->Â,take_succ_eq_append_getElem->Ã,mem_append->È,append_assoc->Ë,length_take->Ï,mem_singleton->Ð,length->Õ,take_of_length_le->Û,append_nil->Ý,eq_nil_or_concat->Þ,mem_of_mem_take->à,drop_take->å,drop_left->æ
open Array renaming getElem?_eq_some_iff->Ç,toList_append->â
open Option.some renaming injEq->Ê,inj->Ü
open Option renaming some->Ì,none->Í
open Nat renaming le_refl->Î,zero_le->Ö,mul_le_mul_right->á
open Go.Ending renaming returned->Ñ
open Go.Value.slice renaming injEq->Ò
open ByteArray renaming size_extract->Ó
open Go renaming World->Ô,heap_alloc_new->ß,Calls->ç
open Go.Obj renaming cells->Ø
open Go.Addr.mk renaming injEq->Ù
namespace Go.Proofs.YtelcnplcpboonaaGreatDoor
open Go Go.RowKit
set_option maxRecDepth 100000
set_option maxHeartbeats 2000000
def mc(w:Ô)(v:Value):Prop:=∀g o n c,v=Æ (Ì ⟨g,o,Í⟩) n c->∀cs t f,w.heap[g]?=Ì (Ø cs t f)->∀u∈cs.toList,∃z,u=Ú .u8 z
theorem xr{s}:∀u∈É s,∃z,u=Ú .u8 z:=by
 intro u A;simp only[É,List.mem_map]at A;obtain⟨b,_,rfl⟩:=A;exact⟨_,rfl⟩
theorem Hk{k}:∀u∈(Builtin.zeroCells (Ú .u8 0).cells k).toList,∃z,u=Ú .u8 z:=by
 intro u A;simp[Builtin.zeroCells,Value.cells,Nat.mod_one]at A;obtain⟨_,rfl⟩:=A;exact⟨0,rfl⟩
section
variable {w:Ô} {t u ty e:TypeId} {i:TypeInfo}
theorem Re(k:prog.underlying t=Ì (.slice e))(l:prog.underlying u=Ì .string)(hi:prog.info? e=Ì i)(r:i.zero=Ì (Ú .u8 0))(C:i.size=1)(L:i.bytes=1)
  {B n v p} (D:w.ownsRowF B e 1 v n p) (m:mc w v) (s) (a:n+s.size<=140737488355328) {y z}
  (j:(Builtin.append_ #[t,u] ty #[v,Á s]).run prog w=.ok y z):mc z y:=by
 have R:ſ p=n:=by simpa using D.1
 rcases D.2 with⟨rfl,rfl⟩|⟨g,E,H,Y,rfl,_,M,Q,b,_,O,K⟩
 .by_cases U:s.size=0
  .have W:=Lib.run_firstCells_string (P:=prog) w 1 s;rw[U]at W
   have:(Builtin.append_ #[t,u] ty #[Æ Í 0 0,Á s]).run prog w=.ok (Æ Í 0 0) w:=by simp[Builtin.append_,run_underlying k,run_underlying l,sizeOf,typeInfo,hi,C,Builtin.lenOf,U,W]
   rw[this]at j;cases j;intro g o n c q;cases q
  .have N:=run_append_nil_string (P:=prog) w t u ty e i (Ú .u8 0) k l hi r s (by omega) (by omega) (by rw[L];omega);rw[N]at j;cases j;intro g o n c q S t f G x A;cases q;rw[show w.heap.size=w.drew.heap.size from rfl,ß]at G;cases G;simp only[â,È]at A;rcases A with A|A
   .refine xr (s:=s) x ?_;simpa[É]using A
   .exact Hk x A
 .by_cases J:n+s.size<=E
  .have V:H.size=E:=by simpa using O
   have N:=Lib.run_append_room_stringF (P:=prog) w t u ty e i k l hi C g n E H Y M (by simpa using Q) s J (by omega);rw[N]at j;cases j;intro Z h d X q S t f G x A;cases q;rw[setRow_heap w g H _ e _ M]at G;cases G;simp only[È]at A;rcases A with(A|A)|A
   .exact m _ _ _ _ rfl _ _ _ M x (à A)
   .exact xr x A
   .exact m _ _ _ _ rfl _ _ _ M x (List.mem_of_mem_drop A)
  .have I:=D.cells (g:=g) rfl;have N:=Lib.run_append_grow_string (P:=prog) w t u ty e i (Ú .u8 0) k l hi r g n E p (by rw[C];simpa using R) I s (by omega) (by omega) (by rw[L];exact growslice_fits (by omega) (by omega));rw[N]at j;cases j;intro Z h d X q S t f G x A;cases q;rw[show w.heap.size=w.drew.heap.size from rfl,ß]at G;cases G;simp only[â,È]at A;rcases A with(A|A)|A
   .refine m _ _ _ _ rfl _ _ _ M x (à (i:=n*1) ?_);rw[K];exact A
   .exact xr x A
   .exact Hk x A
end
theorem V5{w G rest o a}{Q:Exit->Act->Ô->Prop}(H:o.guard=Í)(X x)(t u)
  (Z:o.op=.call {callee:=.builtin .append,args:=#[X,x],argTypes:=#[t,u]})
  (B e i) (U:prog.underlying t=Ì (.slice e)) (V:prog.underlying u=Ì .string) (hi:prog.info? e=Ì i) (W:i.zero=Ì (Ú .u8 0))
  (A:i.size=1) (E:i.bytes=1)
  (v n S) (b:a.eval X=v) (C:w.ownsRowF B e 1 v n S) (c:mc w v) (s) (d:a.eval x=Á s)
  (D:n+s.size<=140737488355328) (Y:B<=w.heap.size)
  (h:∀O R,R.ownsRowF B e 1 O (n+s.size) (S++É s)->w.grownBy R v.ownBlock->(O=Æ Í 0 0↔v=Æ Í 0 0/\s.size=0)->mc R O->wpList prog G Q rest (a.put o.dst O) R):wpList prog G Q (o::rest) a w:=by
 refine wpList_plain H λK hK=>?_
 obtain⟨O,R,I,J,L,M⟩:=Lib.run_append_own_stringF (P:=prog) w B t u o.type e i U V hi W A E v n S C s (by unfold maxLen;omega) D Y;have N:=Re U V hi W A E C c s D I;unfold Oper.wp execOp;simp only[Z,resolve,invoke,builtin,Sem.run_bind,Sem.run_pure,Result.andThen_ok,List.map_toArray,List.map_cons,List.map_nil,b,d,I];exact hK _ _ (h O R J L M N)
def QW(w:Ô)(b:Nat):Prop:=∀v,w.cell? ⟨b,1,Í⟩=Ì v->mc w v
structure cT(B b:Nat)(l:List UInt8)(w:Ô):Prop where
 is:a6 38 B b (À l) [] w
 by_:QW w b
def Bd(w:Ô)(b k:Nat):Prop:=k=b\/∃o n c,w.cell? ⟨b,1,Í⟩=Ì (Æ (Ì ⟨k,o,Í⟩) n c)
section
variable {B b:Nat} {l:List UInt8} {w w':Ô} {S:Nat→Prop}
theorem cT.lt(h:cT B b l w):b<w.heap.size:=h.is.lt
theorem cT.fresh(w:Ô):cT w.heap.size w.heap.size [] (w.alloc (Ø #[Ä Í,Æ Í 0 0] 38)):=by
 refine⟨a6.fresh _ w [],λv A=>?_⟩;rw[Å (ß w _)]at A
 have:v=Æ Í 0 0:=by simpa using A.symm
 subst this;intro g o n c q;cases q
theorem cT.parts(h:cT B b l w):∃p v,(p=Ä Í\/p=Ä b)/\w.heap[b]?=Ì (Ø #[p,v] 38 (0,0))/\w.cell? (b,1)=Ì v/\
  (v=Æ Í 0 0\/∃g c G f,v=Æ (Ì ⟨g,0,Í⟩) (À l).length c/\w.heap[g]?=Ì (Ø G 5 f)):=by
 obtain⟨p,E,v,C,A,_,_⟩:∃p,(p=Ä Í\/p=Ä (Ì ⟨b,0,Í⟩))/\cU 38 B b p (À l) [] w:=by
  rcases h.is with q|q
  .exact⟨_,.inl rfl,q⟩
  .exact⟨_,.inr rfl,q⟩
 refine⟨p,v,E,C,by rw[Å C];rfl,?_⟩;rcases A.2 with⟨e,_⟩|⟨g,c,G,f,e,_,D,_⟩
 .exact .inl e
 .exact .inr ⟨g,c,G,f,e,D⟩
theorem cT.row(h:cT B b l w){k}(J:Bd w b k):(k=b/\∃p v,(∀z,p≠Ú .i64 z)/\(∀z,v≠Ú .i64 z)/\w.heap[k]?=Ì (Ø #[p,v] 38 (0,0)))\/∃I f,w.heap[k]?=Ì (Ø I 5 f)/\∀u∈I.toList,∃z,u=Ú .u8 z:=by
 obtain⟨p,v,G,E,A,D⟩:=h.parts;rcases J with rfl|⟨o,n,c,J⟩
 .refine .inl ⟨rfl,p,v,?_,?_,E⟩
  .rcases G with rfl|rfl<;>intro z e<;>cases e
  .rcases D with rfl|⟨_,_,_,_,rfl,_⟩<;>intro z e<;>cases e
 .rw[A]at J;have e:=Ü J;rcases D with rfl|⟨g,H,I,f,rfl,C⟩
  .cases e
  .simp only[Ò,Ê,Ù,and_true]at e;obtain⟨⟨rfl,_⟩,_⟩:=e;exact .inr ⟨I,f,C,h.by_ _ A _ _ _ _ rfl _ _ _ C⟩
theorem cT.noD(h:cT B b l w):∀k,Bd w b k->km w k:=by
 intro k H;rcases h.row H with⟨_,p,v,D,E,A⟩|⟨C,f,A,G⟩
 .refine⟨λo z s c1 _=>?_,λK f e _ _ _=>?_,λL c e=>?_⟩
  .rw[Å A]at c1;rcases o with _|_|o
   .exact D z (by simpa using c1)
   .exact E z (by simpa using c1)
   .simp at c1
  .rw[A]at e;cases e
  .rw[A]at e;cases e
 .refine⟨λo z s c1 _=>?_,λK f e _ _ _=>?_,λL c e=>?_⟩
  .rw[Å A]at c1;obtain⟨q,I⟩:=Ç.1 c1;obtain⟨J,e⟩:=G _ (Array.mem_toList_iff.2 (Array.getElem_mem q));rw[I]at e;cases e
  .rw[A]at e;cases e
  .rw[A]at e;cases e
theorem cT.not(h:cT B b l w){k G T f}(E:w.heap[k]?=Ì (Ø G T f))(H:T≠38)(I:T≠5):¬Bd w b k:=by
 intro D;rcases h.row D with⟨_,p,v,_,_,A⟩|⟨C,f,A,_⟩
 .rw[E]at A;simp only[Ê,Obj.cells.injEq]at A;exact H A.2.1
 .rw[E]at A;simp only[Ê,Obj.cells.injEq]at A;exact I A.2.1
theorem cT.notBare(h:cT B b l w){k}(E:jW w k):¬Bd w b k:=by
 intro D;rcases h.row D with⟨_,p,v,_,_,A⟩|⟨C,f,A,_⟩
 .rcases E _ A with⟨_,e⟩|⟨_,e⟩<;>cases e
 .rcases E _ A with⟨_,e⟩|⟨_,e⟩<;>cases e
theorem cT.ex(h:cT B b l w)(W:Ex S w w')(V:∀k,Bd w b k->¬S k):cT B b l w':=by
 have H:w'.heap[b]?=w.heap[b]?:=W.block b h.lt (V b (.inl rfl));have L:w'.cell? ⟨b,1,Í⟩=w.cell? ⟨b,1,Í⟩:=World.cell?_of_block (w:=w) H;have M:∀g o n c,w.cell? ⟨b,1,Í⟩=Ì (Æ (Ì ⟨g,o,Í⟩) n c)->∀x,w.heap[g]?=Ì x->w'.heap[g]?=Ì x:=λg o n c e x D=>(W.block g (Ç.1 D).1 (V g (.inr ⟨_,_,_,e⟩))).trans D
 have G:∀p,cU 38 B b p (À l) [] w->cU 38 B b p (À l) [] w':=by
  rintro p⟨v,A,C,J,K⟩;refine⟨v,H.trans A,⟨C.1,?_⟩,J,K⟩;rcases C.2 with q|⟨g,c,E,f,e,N,O,P⟩
  .exact .inl q
  .exact .inr ⟨g,c,E,f,e,N,M g 0 _ c (by rw[Å A,<-e];rfl) _ O,P⟩
 refine⟨h.is.imp (G _) (G _),λv U=>?_⟩;rw[L]at U;intro g o n c e Q t f I;subst e
 have D:g<w.heap.size:=by
  obtain⟨p,v,_,_,A,C⟩:=h.parts;rw[A]at U;have e:=Ü U;rcases C with rfl|⟨R,_,_,_,rfl,q⟩
  .cases e
  .simp only[Ò,Ê,Ù,and_true]at e;obtain⟨⟨rfl,_⟩,_⟩:=e;exact(Ç.1 q).1
 rw[W.block g D (V g (.inr ⟨_,_,_,U⟩))]at I;exact h.by_ _ U _ _ _ _ rfl _ _ _ I
theorem OC(h:cT B b l w):ç prog 24 #[Ä b] w λe A=>e=Ñ (è #[])/\cU 38 B b (Ä b) (À l) [] A/\A.cell? (b,1)=w.cell? (b,1)/\(∀k,k≠b->A.heap[k]?=w.heap[k]?)/\Ex (λk=>k=b) w A:=by
 rcases h.is with q|q
 .refine gv (IV 38 2 b w (by kernel_rfl) q.cell0 q.shape (by omega) (q.frozen 0)) ?_;exact⟨rfl,q.used _,af (by omega),λk C=>Below.heap_setCell _ _ _ _ C,Ex.at (S:=λk=>k=b) (p:=b) (show b=b from rfl) _⟩
 .refine gv (Ji b w q.cell0) ?_;exact⟨rfl,q,rfl,λk _=>rfl,Ex.refl _ _⟩
end
theorem Je{B b l}(s){w}(h:cT B b l w)(V:ſ l+s.size<=140737488355328)(hB:B<=w.heap.size):
  ç prog 10 #[Ä (Ì ⟨b,0,Í⟩),Á s] w λe a=>e=Ñ (è #[Ú .i64 s.size,.nilIface])/\cT B b (l++ae s) a/\Ex (Bd w b) w a:=by
 obtain⟨i0,hi,z,Aa,Ab⟩:=info_parts qn;have Q:(À l).length=ſ l:=by simp[À]
 have HE:Hid (À (l++ae s)=À l++É s):=(show _=_ by simp[À,É,ae]);have H:Hid (cT B b l w):=h;clear h;rw[<-Q]at V;clear Q;go_in;go_wp2_with(go_at_call 24;refine(OC H.o).mono ?_);rintro e Y⟨rfl,m,M,U,O⟩;obtain⟨v,C,L,W,h0⟩:=m
 have HY:Hid (mc Y v):=by
  have i:=i7 C;rw[M]at i;intro g o n c e j t f R;have N:g≠b:=λe2=>W (by rw[e,<-e2];rfl)
  rw[U g N]at R;exact H.o.by_ v i g o n c e j t f R
 have H0:Hid (À l=[]->v=Æ Í 0 0):=h0;have a:Hid (Ex (Bd w b) w Y):=O.mono λk e=>.inl e
 have HV:Hid (w.cell? ⟨b,1,Í⟩=Ì v):=(show _=_ by rw[<-M,Å C];rfl);have c0:=gI C;have i:=i7 C;have Ac:=O.size;clear h0 M U O;go_wp2_with(at_builtin;refine V5 rfl _ _ 36 9 rfl B 5 i0 Tryz.underlying36 Tryz.underlying9 hi z Aa Ab _ _ _ rfl L HY.o s rfl ?c4 ?c5 ?_)
 case c4=>omega
 case c5=>omega
 intro v' X E A K J;have HZ:Hid (v'=Æ Í 0 0↔v=Æ Í 0 0/\s.size=0):=(show _↔_ by simpa using K);have Z:Hid (mc X v'):=J;clear K J;have r:b<Y.heap.size:=(Ç.1 C).1
 have D:X.heap[b]?=Ì (Ø #[Ä (Ì ⟨b,0,Í⟩),v] 38 (0,0)):=by
  rw[A.block b r (λe=>W e.symm)];exact C
 have d0:=gI D;have d1:=i7 D;have f1:X.frozen? ⟨b,1,Í⟩=false:=Lib.frozen_of_heap D 1
 obtain⟨d,n',I,rfl⟩:∃d a I,v'=Æ d a I:=by
  rcases E.2 with⟨y,_⟩|⟨g,I,P,fz,y,_⟩
  .exact⟨_,_,_,y⟩
  .exact⟨_,_,_,y⟩
 go_wp2;go_ret2;have G:X.ownsRowF B 5 1 (Æ d n' I) (À l++É s).length (À l++É s):=by simpa[ã]using E
 refine⟨rfl,⟨.inr ?_,λu hu=>?_⟩,?_⟩
 .rw[HE.o];refine cU.put D (bs':=À l++É s) G (by decide) (λh=>?_);obtain⟨m,h2⟩:=List.append_eq_nil_iff.1 h;refine HZ.o.2 ⟨H0.o m,?_⟩;rw[<-ã,h2];rfl
 .rw[cF d1]at hu;cases hu;intro g o n c e j t f R x hx
  have N:g≠b:=by
   rintro rfl;rcases G.2 with⟨q,_⟩|⟨g',c',P,fz,q,_,q2,_⟩
   .rw[e]at q;cases q
   .rw[e]at q;simp only[Ò,Ê,Ù,and_true]at q;obtain⟨⟨rfl,_⟩,_⟩:=q;rw[D]at q2;cases q2
  rw[Below.heap_setCell _ _ _ _ N]at R;exact Z.o g o n c e j t f R x hx
 .refine a.o.trans ((Ex.mk A.os A.tape A.output A.size λk hk hn=>A.block k hk λe=>hn ?_:Ex (Bd w b) Y X).trans (Ex.at (S:=Bd w b) (p:=⟨b,1,Í⟩) (.inl rfl) _));rcases L.2 with⟨q,_⟩|⟨g',c',P,fz,q,_⟩
  .rw[q]at e;cases e
  .rw[q]at e
   have:k=g':=by simpa[Value.ownBlock]using e
   subst this;exact .inr ⟨_,_,_,HV.o.trans (by rw[q])⟩
theorem cT.W{B b l w w'}(h:cT B b l w)(A:Below w w w'):cT B b l w':=h.ex (S:=λ_=>False) (.of A) λ_ _ h=>h
theorem cT.ge{B b l w}(h:cT B b l w)(H:B<=b):∀k,Bd w b k->B<=k:=by
 rintro k (rfl|⟨o,n,c,hk⟩)
 .exact H
 .obtain⟨p,v,C,D,_,_⟩:=h.is.at;rw[Å C]at hk;have e:v=Æ (Ì ↑(k,o)) n c:=by simpa using hk
  rcases D.2 with⟨q,_⟩|⟨g,G,A,f,q,E,_⟩
  .rw[e]at q;cases q
  .rw[e]at q;simp only[Ò,Ê,Ù,and_true]at q;obtain⟨⟨rfl,_⟩,_⟩:=q;exact E
theorem Ex.freeze{S:Nat->Prop}{w p}(C:S p.block)(n):Ex S w (w.freeze p n):=by
 unfold World.freeze
 split
 .exact Ex.refl S w
 .refine⟨rfl,rfl,rfl,by simp,λk D B=>?_⟩;have A:p.block≠k:=by rintro rfl;exact B C
  simp only[Array.getElem?_modify];rw[if_neg A]
theorem Ex.drewn{S:Nat->Prop}{w}:Ex S w w.drew:=⟨rfl,rfl,rfl,Î _,λ_ _ _=>rfl⟩
theorem BC{B b l w}(h:cT B b l w):
  ç prog 12 #[Ä b] w λe d=>e=Ñ (Á ⟨l.toArray⟩)/\Ex (Bd w b) w d:=by
 obtain⟨p,v,L,D,Y,G⟩:=h.is.at;have H:Hid (w.cell? (b,1)=Ì v):=(show _=_ by rw[Å L];rfl);by_cases I:l=[]
 .subst I;obtain rfl:=G rfl;have K:∀(W:Ô)(q:Option Addr),(Builtin.unsafeString_ #[68,3] 9 #[Ä q,Ú .i64 0]).run prog W=.ok (Á .empty) W:=λW q=>Lib.run_unsafeString_none W _ _ _ q
  have R:=H.o;have J:(Builtin.unsafeSliceData_ #[36] 68 #[Æ Í 0 0]).run prog w.drew=.ok (Ä Í) w.drew:=rfl;go_in;go_wp2
  go_region
  all_goals (go_wp2;go_ret;exact⟨rfl,Ex.drewn⟩)
 .have O:ſ l≠0:=by simpa using I
  rw[Lib.byteCells_length]at D
  obtain⟨g,A,C,E,rfl,V,U,X,M,S,P⟩:∃g A C E,v=Æ (Ì ⟨g,0,Í⟩) (ſ l) A/\w.heap[g]?=Ì (Ø C 5 E)/\E.2<=ſ l*1/\(ſ l)<=A/\A<=maxLen/\C.size=A*1/\C.toList.take (ſ l*1)=À l:=by
   rcases D.2 with⟨_,c⟩|⟨g,A,C,E,Z,_,r⟩
   .exact absurd c O
   .exact⟨g,A,C,E,Z,r⟩
  have R:w.drew.cell? ↑(b,1)=Ì (Æ ↑g (ſ l) A):=H.o
  have J:(Builtin.unsafeSliceData_ #[36] 68 #[Æ (Ì ⟨g,0,Í⟩) (ſ l) A]).run prog w.drew=.ok (Ä (Ì ⟨g,0,Í⟩)) w.drew:=
   Lib.run_unsafeSliceData_row _ _ _ _ _ _ (by omega)
  have K:(Builtin.unsafeString_ #[68,3] 9 #[Ä g,ſ l]).run prog w.drew=.ok (Á ⟨l.toArray⟩) (w.drew.freeze g (ſ l)):=by
   refine Lib.run_unsafeString_row w.drew 68 3 9 5 Tryz.underlying68 xj g C.size (by have N:w.drew.heap[g]?=Ì (Ø C 5 E):=V;simp[World.shape?,N]) l I (by omega) (by unfold maxLen at M;omega) ?_;intro j x a
   have:=D.cells (g:=g) rfl j (Ú .u8 x.toNat) (by simp[À,a])
   exact this
  have Q:Hid (Bd w b g):=.inr ⟨_,_,_,H.o⟩;go_in;go_wp2
  go_region
  all_goals (go_wp2;go_ret;exact⟨rfl,Ex.drewn.trans (Ex.freeze (p:=g) Q.o _)⟩)
set_option maxHeartbeats 4000000
theorem zM:cG nV=.text:=by rw[cG,if_neg (by decide),if_neg (by decide),if_neg (by decide),if_pos rfl]
def dV(A:List (List UInt8)):List UInt8:=A.flatMap λl=>124::(l++[10])
theorem zj(A r):dV (A++[r])=dV A++(124::(r++[10])):=by simp[dV]
theorem qK:∀A:List (List UInt8),(dV A).length<=2*(cB A).length
 | []=>Î _
 | l::A=>by
  have:=qK A
  have e:dV (l::A)=124::(l++[10])++dV A:=by simp[dV]
  rw[e,kK];simp only[Â,List.length_cons,List.length_nil];omega
def Br(S:ByteArray)(k:Nat)(A:List (List UInt8)):Prop:=∃r,(ae S).take k=cB A++r/\(∀l∈A,(10:UInt8)∉l)/\(10:UInt8)∉r
theorem TP(S):Br S 0 []:=⟨[],rfl,by simp,by simp⟩
theorem JZ{S k A}(h:Br S k A)(H:k<S.size)(G:¬S[k]=10):Br S (k+1) A:=by
 obtain⟨r,e,D,E⟩:=h;have B:k<(ae S).length:=by rw[aw];exact H
 have C:(ae S)[k]=S[k]:=rfl;refine⟨r++[S[k]],?_,D,?_⟩
 .rw[Ã B,e,C,Ë]
 .simp only[È,Ð,not_or];exact⟨E,λq=>G q.symm⟩
theorem J0{S k A}(h:Br S k A)(M:k<S.size)(L:S[k]=10):∃K,Br S (k+1) K/\(cB K).length=k+1/\(cB A).length<=k/\dV K=dV A++(124::ae (S.extract (cB A).length (k+1))):=by
 obtain⟨r,e,I,J⟩:=h;have D:k<(ae S).length:=by rw[aw];exact M
 have E:(ae S)[k]=10:=L
 have C:(ae S).take (k+1)=cB (A++[r]):=by
  rw[Ã D,e,E,qv,Ë]
 have B:(cB A).length<=k:=by
  have:=congrArg Õ e
  rw[Ï,Â]at this;omega
 refine⟨A++[r],⟨[],by rw[C,Ý],?_,by simp⟩,?_,B,?_⟩
 .intro l B;rcases È.1 B with B|B
  .exact I l B
  .rw[Ð.1 B];exact J
 .have:=congrArg Õ C
  rw[Ï]at this;omega
 .rw[zj]
  have G:ae (S.extract (cB A).length (k+1))=r++[10]:=by
   have H:ae (S.extract (cB A).length (k+1))=((ae S).take (k+1)).drop (cB A).length:=by
    show(S.extract (cB A).length (k+1)).data.toList=_
    rw[ä,å]
   rw[H,C,qv,æ]
  rw[G]
theorem L8{S A}(h:Br S S.size A)(E:ae S=[]\/∃z,ae S=z++[10]):dV A=gF (ae S):=by
 obtain⟨r,e,B,C⟩:=h;rw[Û (by rw[aw];exact Î _)]at e
 have D:r=[]:=by
  rcases Þ r with h|⟨q,c,rfl⟩
  .exact h
  .rcases E with E|⟨z,E⟩
   .rw[E]at e
    have:=congrArg Õ e
    simp at this
   .rw[E]at e
    have:=congrArg List.getLast? e
    simp at this;exact absurd (by simp[this]) C
 subst D;rw[e,Ý,JY B];rfl
theorem Ut{n ps}(A:∀t∈ps,ag t=0):aJ n ps=[]\/∃z,aJ n ps=z++[10]:=by
 rcases Þ ps with h|⟨C,t,rfl⟩
 .exact .inl (by rw[h];simp[aJ])
 .right;obtain⟨E,B⟩:=MH (wd:=n) (A t (by simp));obtain⟨_,r,D,_⟩:=Mo (A t (by simp)) B;refine⟨aJ n C++r,?_⟩;have e:aJ n (C.concat t)=aJ n C++ce n t:=by simp[aJ]
  rw[e,D,Ë]
theorem Op(hL:jr){σ:Ss}{b K}(M W)(hS:a8 32 W M σ b)(hO:fE σ b K):
  ç prog 7 #[Ä (Ì ⟨M,0,Í⟩),Á ⟨#[116,101,120,116]⟩] W λe a=>fM M σ b K ⟨#[116,101,120,116]⟩ W e a:=by
 have HS:Hid (a8 32 W M σ b):=hS;have C:Hid (fE σ b K):=hO;obtain⟨U,u,_,v,x,_,_,hP⟩:=hS.cell;have D:Hid (∀w:Ô,a8 32 w M σ b->bP w U σ.ps->Cp 16 #[Ä (Ì ⟨M,0,Í⟩),Æ U σ.ps.length u,Ú .i64 (σ.wd:Int)] w λe a=>∃S f k,e=Ñ (è #[Á S,Ú .i64 f])/\js σ.ps σ.wd S f k/\a8 32 a M σ (b||!k)/\am w M w a):=λw J G=>sE hL σ.ps hO.ok hO.len σ.wd hO.w1 hO.w2 U u M w J hO.ok G
 have l:Hid (a8 32 W.drew M σ b):=hS.drew;have d:Hid (bP W.drew U σ.ps):=hP.W Zb.drew;have X:Hid (am W M W W.drew):=am.of Zb.drew;clear hS hO hP hL;generalize σ.ps.length=np at x D
 generalize(σ.wd:Int)=wv at v D
 go_in;go_wp2_with fail
 go_region_with ((go_at_call 16;refine(D.o _ ?_ ?_).mono ?_;exact l.o;exact d.o;rintro e s⟨S,f,k,rfl,p,P,t⟩))
 all_goals
  have g:Hid (a8 32 s M σ (b||!k)):=P;have V:Hid (am W M W s):=X.o.trans t
  have Ac:S.size<=40000020:=by
   cases p with
   | ok h=>
    rw[cg];have J:=qO σ.wd σ.ps C.o.ok h;have G:=á 2000001 C.o.len;omega
   | full h=>exact Ö _
   | many=>exact Ö _
  have E:Hid ((b||!k)=false->S=ab (aJ σ.wd σ.ps)):=λhb=>by
   cases p with
   | ok h=>rfl
   | full h=>exact absurd (C.o.fm (by simpa using hb)) h
   | many=>simp at hb
  clear P t p D v x;go_wp2_with fail
  go_loopw [15,16,17] (λo f i wr=>∃q,wr=s.drewN q/\∃(A:List (List UInt8))(j m:Nat),j<=S.size/\(cB A).length=m/\m<=j/\i=Ú .i64 (j:Int)/\o=Á (ab (dV A))/\f=Ú .i64 (m:Int)/\Br S j A) (λ_ _ i _=>S.size-(intOf i).toNat)
  case atStart=>exact⟨0,rfl,[],0,0,Ö _,rfl,Î _,rfl,rfl,rfl,TP S⟩
  case round=>
   obtain⟨q,rfl,A,j,m,hj,hm,Ab,rfl,rfl,rfl,z⟩:=hrel;have a:Hid ((cB A).length=m):=hm;have B:Hid (Br S j A):=z
   have Aa:(ab (dV A)).size<=80000040:=by
    have:=qK A
    rw[cg];omega
   clear z hm;by_cases Q:j<S.size
   .have r:(j:Int)<(S.size:Int):=by omega
    by_cases L:S[j]=10
    .obtain⟨R,J,G,_,y⟩:=J0 B.o Q L;have e1:((S[j].toNat:Nat):Int)=10:=by rw[L];rfl
     have H:Hid (Br S (j+1) R):=J;have Y:Hid ((cB R).length=j+1):=G
     have I:Hid (ab (dV R)=ab (dV A)++(⟨#[124]⟩:ByteArray)++S.extract m (j+1)):=by
      show _=_;have n:(⟨#[124]⟩:ByteArray)=ab [124]:=rfl;have e6:S.extract m (j+1)=ab (ae (S.extract m (j+1))):=rfl;rw[y,e6,n,bn,bn,a.o,Ë];rfl
     have Ad:(S.extract m (j+1)).size<=40000020:=by rw[Ó];omega
     have k1:(m:Int)<=(j:Int)+1:=by omega
     have k2:(j:Int)+1<=(S.size:Int):=by omega
     clear J G y L B;generalize ab (dV A)=O at *;have q1:¬9223372036854775807<O.size+1:=by omega
     have q2:¬9223372036854775807<O.size+1+(S.extract m (j+1)).size:=by omega
     go_wp2
     go_roundw
     case rel=>exact⟨_,rfl,R,j+1,j+1,by omega,Y.o,Î _,by go_num,by rw[I.o],by go_num,H.o⟩
     case measure=>simp[intOf];omega
    .have e1:((((S[j].toNat:Nat):Int))==10)=false:=by
      simp only[beq_eq_false_iff_ne,ne_eq];exact λe=>L (UInt8.toNat_inj.1 (show S[j].toNat=10 by omega))
     have H:Hid (Br S (j+1) A):=JZ B.o Q L;clear L B;generalize hO:ab (dV A)=O at *;have c:Hid (ab (dV A)=O):=hO;clear hO;go_wp2
     go_roundw
     case rel=>exact⟨_,rfl,A,j+1,m,by omega,a.o,by omega,by go_num,by rw[c.o],rfl,H.o⟩
     case measure=>simp[intOf];omega
   .have r:¬(j:Int)<(S.size:Int):=by omega
    obtain rfl:j=S.size:=by omega
    have N:Hid ((b||!k)=false->dV A=gF (aJ σ.wd σ.ps)):=λhb=>by
     have J:=E.o hb;have G:ae S=aJ σ.wd σ.ps:=by rw[J];rfl
     rw[<-G];exact L8 B.o (by rw[G];exact Ut C.o.ok)
    have Z:Hid ((dV A++eI).length<=100000000):=by
     show _<=_
     have:=qK A
     have h3:ſ eI=3:=rfl;rw[Â,h3]
     have:=a.o
     omega
    have I:Hid (ab (dV A)++(⟨#[111,107,10]⟩:ByteArray)=ab (dV A++eI)):=by
     show _=_;have n:(⟨#[111,107,10]⟩:ByteArray)=ab eI:=rfl;rw[n,bn]
    clear B E;generalize hO:ab (dV A)=O at *;clear hO;go_wp2;go_ret;refine⟨dV A++eI,σ,_,by rw[<-I.o];rfl,g.o.W (aP Zb q),⟨C.o.ok,C.o.len,C.o.w1,C.o.w2,λh=>C.o.fm (by cases b<;>simp_all),Nat.le_trans C.o.tx (by omega)⟩,λhb=>⟨by cases b<;>simp_all,?_⟩,Z.o,V.o.trans (am.of (aP Zb q))⟩;show ck σ (cG nV) _ _;rw[zM,N.o hb];exact .text
abbrev wn:Prop:=∀(s:ByteArray)(W:Ô),fo W->ç prog 6 #[Á s] W λe w'=>∃ans,e=Ñ (Á (ab ans))/\jY s ans/\(ſ ans)<=1000000000000/\Below W W w'
abbrev sN:Prop:=∀(s:ByteArray)(W:Ô),ç prog 5 #[Á s] W λe w'=>∃ans k,e=Ñ (è #[Á (ab ans),.bool k])/\(k=true->jY s ans)/\Below W W w'
theorem ta(l):ab (ae l)=l:=by
 apply ByteArray.ext;simp[ab,ae]
theorem SU(L:jr)(N:lY)(P:q7)(O:qZ)(R:rg){σ:Ss}{b K}(hK:K<=100000)(l)(S:l.size<=3000)(M W)(J:a8 32 W M σ b)(I:fE σ b K):
  ç prog 7 #[Ä M,Á l] W λe U=>fM M σ b K l W e U:=by
 by_cases A:(ae l).head?=Ì 43
 .have H:0<l.size:=by
   rw[<-aw];exact List.length_pos_iff.2 λe=>by rw[e]at A;cases A
  refine ST hK l S H ?_ M W J I;rw[List.head?_eq_getElem?,List.getElem?_eq_getElem (by rw[aw];exact H)]at A;exact Ü A
 .by_cases B:(ae l).take 5=ip
  .exact Oq L R l B M W J I
  .by_cases C:ae l=lj
   .obtain rfl:l=⟨#[115,101,116]⟩:=by rw[<-ta l,C];rfl
    exact SW L N P hK M W J I
   .by_cases D:ae l=nV
    .obtain rfl:l=⟨#[116,101,120,116]⟩:=by rw[<-ta l,D];rfl
     exact Op L M W J I
    .by_cases E:ae l=lu
     .obtain rfl:l=⟨#[108,111,111,107]⟩:=by rw[<-ta l,E];rfl
      exact Oo L N O hK M W J I
     .by_cases G:ae l=nR
      .obtain rfl:l=⟨#[100,114,111,112]⟩:=by rw[<-ta l,G];rfl
       exact On M W J I
      .refine SV l ?_ M W J I;rw[cG,if_neg A,if_neg B,if_neg C,if_neg D,if_neg E,if_neg G]
def Iv(s:ByteArray)(k m:Nat)(L:List (List UInt8)):Prop:=(k<=s.size/\∃r,(ae s).take k=cB L++r/\(∀l∈L,(10:UInt8)∉l)/\(10:UInt8)∉r/\(cB L).length=m)\/(k=s.size+1/\rl (ae s)=L)
theorem Uz(s):Iv s 0 0 []:=.inl ⟨Ö _,[],rfl,by simp,by simp,rfl⟩
theorem Q5{s k m L}(h:Iv s k m L)(A:k<=s.size):m<=k:=by grind [Õ,Ï,Â,Iv]
theorem KC{s k m L}(h:Iv s k m L)(G:k<s.size)(H:¬s[k]=10):Iv s (k+1) m L:=by
 rcases h with⟨_,r,e,C,D,E⟩|⟨h,_⟩
 .have A:k<(ae s).length:=by rw[aw];exact G
  have B:(ae s)[k]=s[k]:=rfl;refine .inl ⟨G,r++[s[k]],?_,C,?_,E⟩
  .rw[Ã A,e,B,Ë]
  .simp only[È,Ð,not_or];exact⟨D,λq=>H q.symm⟩
 .omega
theorem zJ{s k m L r}(e:(ae s).take k=cB L++r)(B:(cB L).length=m):ae (s.extract m k)=r:=by
 have A:ae (s.extract m k)=((ae s).take k).drop m:=by
  show(s.extract m k).data.toList=_
  rw[ä,å]
 rw[A,e,<-B,æ]
theorem KE{s k m L}(h:Iv s k m L)(I:k<s.size)(J:s[k]=10):Iv s (k+1) (k+1) (L++[ae (s.extract m k)]):=by
 rcases h with⟨_,r,e,E,G,H⟩|⟨h,_⟩
 .have B:k<(ae s).length:=by rw[aw];exact I
  have D:(ae s)[k]=10:=J;rw[zJ e H];have C:(ae s).take (k+1)=cB (L++[r]):=by rw[Ã B,e,D,qv,Ë]
  refine .inl ⟨I,[],by rw[C,Ý],?_,by simp,?_⟩
  .intro l A;rcases È.1 A with A|A
   .exact E l A
   .rw[Ð.1 A];exact G
  .have:=congrArg Õ C
   rw[Ï]at this;omega
 .omega
theorem KF{s m L}(h:Iv s s.size m L)(A:m=s.size):Iv s (s.size+1) m L:=by grind [aw,IF,Iv]
theorem KD{s m L}(h:Iv s s.size m L)(E:m≠s.size):Iv s (s.size+1) (s.size+1) (L++[ae (s.extract m s.size)]):=by
 rcases h with⟨_,r,e,A,B,C⟩|⟨h,_⟩
 .rw[zJ e C]
  have D:r≠[]:=by
   rintro rfl
   have:=congrArg Õ e
   rw[Ï,Â,aw]at this;simp at this;omega
  rw[Û (by rw[aw];exact Î _)]at e;refine .inr ⟨rfl,?_⟩;rw[e,IE A B,if_neg D]
 .omega
theorem Mu{s k m L}(h:Iv s k m L)(A:s.size<k):rl (ae s)=L:=by
 rcases h with⟨h,_⟩|⟨_,h⟩
 .omega
 .exact h
set_option maxHeartbeats 8000000
def lR(s:ByteArray)(w:Ô)(M k m:Nat)(ans:List UInt8)(wr:Ô):Prop:=∃L σ b,Iv s k m L/\(ſ L)<=k/\a8 32 wr M σ b/\fE σ b m/\(b=false->iK ⟨[],[],40⟩ L ans σ)/\(ſ ans)<=ſ L*100000000/\Below w w wr
theorem LB{s}{w:Ô}{M k m K wr L}{σ:Ss}{b N}(S:w.heap.size<=M)(R:Iv s (k+1) N (L++[ae (s.extract m k)]))(H:ſ L<=k)(X:m+(s.extract m k).size<=N)(U:b=false->iK ⟨[],[],40⟩ L K σ)(Y:ſ K<=ſ L*100000000)(O:Below w w wr){e P}(h:fM M σ b m (s.extract m k) wr e P):∃t,e=Ñ (Á (ab t))/\(ſ t)<=100000000/\lR s w M (k+1) N (K++t) P:=by
 obtain⟨t,τ,A,rfl,B,C,D,E,G⟩:=h;refine⟨t,rfl,E,L++[ae (s.extract m k)],τ,A,R,by rw[Â];simp;omega,B,C.le X,λV=>?_,?_,?_⟩
 .obtain⟨I,J⟩:=D V;exact vl (U I) J
 .rw[Â,Â,List.length_singleton,Nat.add_mul];omega
 .exact O.trans ((G.mono O.size).W S)
theorem GW{s w M k J m I wr}(h:lR s w M k m I wr)(K:∀L,Iv s k m L->Iv s J m L)(N:k<=J)(q):lR s w M J m I (wr.drewN q):=by
 obtain⟨L,σ,b,A,H,B,C,D,E,G⟩:=h;exact⟨L,σ,b,K L A,by omega,B.W (aP Zb q),C,D,E,aP G q⟩
theorem SM(hL:jr)(hP:lY)(hF:q7)(hD:qZ)(hW:rg):sN:=by
 intro s w;by_cases h1:3000<s.size
 .have V:(3000:Int)<(s.size:Int):=by omega
  have HM:Hid (jY s qe):=⟨λ_=>rfl,λh=>absurd h (by omega)⟩;go_in;go_wp2;go_ret2;exact⟨qe,true,rfl,λ_=>HM.o,by first|exact Below.refl _ _|exact aP Zb _⟩
 .have V:¬(3000:Int)<(s.size:Int):=by omega
  have S:Hid (∀(σ:Ss)(b:Bool)(m k M:Nat)(W:Ô),m<=k->k<=s.size->a8 32 W M σ b->fE σ b m->Cp 7 #[Ä M,Á (s.extract m k)] W λe a=>fM M σ b m (s.extract m k) W e a):=fun σ b m k M W q1 q2 q3 q4=>SU hL hP hF hD hW (by omega) _ (by rw[Ó];omega) M W q3 q4
  have R:Hid (lR s w w.heap.size 0 0 [] (w.alloc (Ø #[Á ⟨#[]⟩,Ú .i64 40,Æ Í 0 0,.bool false] 32))):=by
   refine⟨[],⟨[],[],40⟩,false,Uz s,Î _,⟨Í,0,?_,bP.nil _ _⟩,⟨λt h=>by simp at h,by simp,by decide,by decide,λ_=>rfl,Î _⟩,λ_=>.nil _,by simp,aC w _⟩
   show(w.heap.push _)[w.heap.size]?=_
   simp;rfl
  go_in;go_wp2_with fail
  go_loopw [5,6,7] (λo f i wr=>∃(k m:Nat)(A:List UInt8),k<=s.size+1/\m<=s.size+1/\i=(k:Int)/\f=(m:Int)/\o=Á (ab A)/\lR s w w.heap.size k m A wr) (λ_ _ i _=>s.size+2-(intOf i).toNat)
  case atStart=>exact⟨0,0,[],Ö _,Ö _,rfl,rfl,rfl,R.o⟩
  case round=>
   obtain⟨k,m,A,hk,hm,rfl,rfl,rfl,hV⟩:=hrel;have n:=aa hV;obtain⟨L,σ,b,a,c,hS,hO,z,hA,y⟩:=hV
   have Aa:(ab A).size<=400000000000:=by
    rw[cg]
    have:=á 100000000 (show (ſ L)<=3001 by omega)
    omega
   by_cases u:k<=s.size
   .have g2:(k:Int)<=(s.size:Int):=by omega
    have d:=Q5 a u;have B:Hid (∀W,a8 32 W w.heap.size σ b->Cp 7 #[Ä w.heap.size,Á (s.extract m k)] W λe a=>fM w.heap.size σ b m (s.extract m k) W e a):=λW q=>S.o σ b m k _ W d u q hO
    have j:(s.extract m k).size=k-m:=by rw[Ó];omega
    have K:Hid (∀{m':Nat},Iv s (k+1) m' (L++[ae (s.extract m k)])->k<=m'->∀{e:Ending}{w':Ô},fM w.heap.size σ b m (s.extract m k) wr e w'->∃t,e=Ñ (Á (ab t))/\(ſ t)<=100000000/\lR s w w.heap.size (k+1) m' (A++t) w'):=λq1 q2 _ _ q3=>LB Zl q1 c (by rw[j];omega) z hA y q3
    have N:=aa hS;have I:=aa a;by_cases v:k<s.size
    .have g4:(k:Int)<(s.size:Int):=by omega
     by_cases Q:s[k]=10
     .have e1:((s[k].toNat:Nat):Int)=10:=by rw[Q];rfl
      have C:=aa (KE I.o v Q);have p:¬(k:Int)=(s.size:Int):=by omega
      have r:((k:Int)==(s.size:Int))=false:=by simp;omega
      go_wp2_with fail;refine(B.o _ N.o).mono ?_;intro e w2 Z;obtain⟨t,rfl,G,E⟩:=K.o C.o (by omega) Z;have D:=aa E;have U:Hid (ab A++ab t=ab (A++t)):=bn _ _;have g:(ab t).size<=100000000:=by rw[cg];exact G
      generalize ab A=X at *;generalize ab t=Y at *;go_wp2
      go_roundw
      case rel=>exact⟨k+1,k+1,A++t,by omega,by omega,by go_num,by go_num,by rw[<-U.o],D.o⟩
      case measure=>first|(simp[intOf];done)|(simp[intOf];omega)
     .have e1:((((s[k].toNat:Nat):Int)) != 10)=true:=by
       simp only[bne_iff_ne,ne_eq];exact λe=>Q (UInt8.toNat_inj.1 (show s[k].toNat=10 by omega))
      have J:Hid (∀q,lR s w w.heap.size (k+1) m A (wr.drewN q)):=λq=>GW n.o (λL h=>KC h v Q) (by omega) q
      generalize O:ab A=X at *;have H:=aa O;go_wp2
      go_roundw
      case rel=>exact⟨k+1,m,A,by omega,by omega,by go_num,rfl,by rw[H.o],by first|exact J.o 0|exact J.o _⟩
      case measure=>first|(simp[intOf];done)|(simp[intOf];omega)
    .obtain rfl:k=s.size:=by omega
     have g4:¬(s.size:Int)<(s.size:Int):=by omega
     by_cases x:m=s.size
     .have J:Hid (∀q,lR s w w.heap.size (s.size+1) m A (wr.drewN q)):=λq=>GW n.o (λL h=>KF h x) (by omega) q
      have p:((m:Int)==(s.size:Int))=true:=by simp;omega
      have r:((s.size:Int)==(s.size:Int))=true:=by simp
      generalize O:ab A=X at *;have H:=aa O;go_wp2
      go_roundw
      case rel=>exact⟨s.size+1,m,A,by omega,by omega,by go_num,rfl,by rw[H.o],by first|exact J.o 0|exact J.o _⟩
      case measure=>first|(simp[intOf];done)|(simp[intOf];omega)
     .have C:=aa (KD I.o x);have p:((m:Int)==(s.size:Int))=false:=by simp;omega
      have r:((s.size:Int)==(s.size:Int))=true:=by simp
      go_wp2_with fail;refine(B.o _ N.o).mono ?_;intro e w2 Z;obtain⟨t,rfl,G,E⟩:=K.o C.o (by omega) Z;have D:=aa E;have U:Hid (ab A++ab t=ab (A++t)):=bn _ _;have g:(ab t).size<=100000000:=by rw[cg];exact G
      generalize ab A=X at *;generalize ab t=Y at *;go_wp2
      go_roundw
      case rel=>exact⟨s.size+1,s.size+1,A++t,by omega,by omega,by go_num,by go_num,by rw[<-U.o],D.o⟩
      case measure=>first|(simp[intOf];done)|(simp[intOf];omega)
   .have g2:¬(k:Int)<=(s.size:Int):=by omega
    have l:Hid (b=false->jY s A):=λhb=>⟨λh=>absurd h (by omega),λ_=>⟨σ,by rw[Mu a (by omega)];exact z hb⟩⟩
    have P:=aa y;obtain⟨_,_,_,_,_,c3,_,_⟩:=hS.cell;generalize O:ab A=X at *;have H:=aa O;cases b with
    | true=>
     go_wp2_with fail
     go_region_with (fail)
     all_goals
      go_wp2;go_ret2;exact⟨A,false,by rw[H.o];rfl,λh=>(by cases h),by first|exact P.o|exact aP P.o _⟩
    | false=>
     go_wp2_with fail
     go_region_with (fail)
     all_goals
      go_wp2;go_ret2;exact⟨A,true,by rw[H.o];rfl,λ_=>(by first|exact l.o rfl|exact l.o trivial),by first|exact P.o|exact aP P.o _⟩
theorem Wc(O:wn)(N:sN)(s)(w:Ô)(P:fo w):
  Cb 3 #[Á s] w (.bool true):=by
 unfold Cb;have E:Hid (∀W,Below w w W->Cp 6 #[Á s] W λe R=>∃M,e=Ñ (Á (ab M))/\jY s M/\(ſ M)<=1000000000000/\Below W W R):=λW h=>O s W (P.W h)
 have D:Hid sN:=N;clear O N P;go_in;go_wp2_with fail;refine(D.o s w).mono ?_;rintro e K⟨a,k,rfl,J,G⟩;have C:=aa J;have A:=aa G;go_wp2_with fail;refine(E.o _ A.o).mono ?_;rintro e L⟨b,rfl,I,_,H⟩;have B:=aa (aH A.o Zl H);cases k with
 | false=>
  generalize ab a=X;generalize ab b=Y;go_wp2;go_ret;exact⟨rfl,B.o⟩
 | true=>
  obtain rfl:=Vk (C.o rfl) I;generalize ab a=X;go_wp2;go_ret;exact⟨rfl,B.o⟩
