import Derived.Test.YtelcnplcpboonaaGreatDoorPe08
import Derived.Test.YtelcnplcpboonaaGreatDoorPe05
import Derived.Test.YtelcnplcpboonaaGreatDoorPe02
import Derived.Defers
import Derived.Lib.LaidTab
import Derived.Test.YtelcnplcpboonaaGreatDoorPe10
open Go.Proofs.Tryz
open Go.Lib renaming byteCells->À,byteCells_length->Æ,TabIs->É
open Option renaming some->Á
open Go.Value renaming slice->Â,pointer->Ç,bool->Ê,nilIface->Ë,int->Ì
open Array renaming getElem?_eq_none->Ã
open List renaming length_cons->Ä
open Go.Ending renaming returned->Å
open Go renaming World->È,Calls->Í
namespace Go.Proofs.YtelcnplcpboonaaGreatDoor
open Go Go.RowKit
set_option maxRecDepth 100000
set_option maxHeartbeats 2000000
def gH (w : È) : Prop := É prog w "internal/strconv.uint64pow10" .u64 Lib.pow10Tab
structure eo(w:È):Prop where
 pow:gH w
 spc : É prog w "strings.asciiSpace" .u8 Lib.asciiSpaceTab
theorem DW{n k D}{w:È}{C g}(G:prog.globalNamed n=Á g)(h:É prog w n k D)(E:Below w w C):É prog C n k D:=by
 unfold É World.var? at h⊢;rw[G]at h⊢;simp only[Option.bind_some]at h⊢
 have B:g<w.heap.size:=by
  rcases Nat.lt_or_ge g w.heap.size with A|A
  .exact A
  .rw[Ã A]at h;cases h
 rw[E.block g B];exact h
theorem gH.W{w w'}(h:gH w)(A:Below w w w'):gH w':=DW (g:=4) (by kernel_rfl) h A
theorem eo.W{w w'}(h:eo w)(A:Below w w w'):eo w':=
 ⟨h.pow.W A,DW (g:=5) (by kernel_rfl) h.spc A⟩
theorem aC(w:È)(o):Below w w (w.alloc o):= Zb.alloc Zl _
theorem jp(w:È)(o):Below w w (w.alloc o).drew:=(aC w o).drew
theorem G4{w}{b o c:Nat}{x M}(h:aG w (Á ↑(b,o)) (x::M))(N:(x::M).length<=c):
  ∃A,(∀W:È,(Instr.slice 82 (Â (Á ↑(b,o)) (x::M).length c) (Á (Ì .i64 1)) none none).run prog W=.ok (Â A M.length (c-1)) W)/\aG w A M:=by
 refine⟨if c=1 then Á ↑(b,o)else Á ↑(b,o+3),λW=>?_,?_⟩
 .rw[run_slice_l W 82 _ (x::M).length c Tryz.underlying82 .i64 1 (by omega) (by simp only[Ä];omega)];have I:(sizeOf (prog.elem 82)).run prog W=.ok 3 W:=by kernel_rfl
  rw[I];have H:((b,o):Addr).add 3=(b,o+3):=rfl;simp[Result.andThen,sliced,H]
 .by_cases e:c=1
  .have:M=[]:=List.eq_nil_of_length_eq_zero (by simp only[Ä]at N;omega)
   rw[this];exact aG.nil _ _
  .rw[if_neg e];intro i K;obtain⟨J,L,G,B,C,D,E⟩:=h (i+1) (by simp only[Ä];omega);simp only[Option.some.injEq,Addr.mk.injEq,and_true]at G;obtain⟨rfl,rfl⟩:=G;simp only[List.getElem_cons_succ]at C D E;refine⟨b,o+3,rfl,B,?_,?_,?_⟩
   .rw[show o+3+i*3=o+(i+1)*3 by omega];exact C
   .rw[show o+3+i*3+1=o+(i+1)*3+1 by omega];exact D
   .rw[show o+3+i*3+2=o+(i+1)*3+2 by omega];exact E
structure Wy(w0:È)(b:Nat)(bs:List UInt8)(ds:List Td)(w:È)(A:Option Addr)(c:Nat):Prop where
 x:a6 203 w0.heap.size b (À bs) [Â A ds.length c] w
 le:ds.length<=c
 td:aG w0 A ds
 bl:Below w0 w0 w
 lt:w0.heap.size<=b
def a7(w0:È)(b:Nat)(bs:List UInt8)(ds:List Td)(w:È):Prop:=∃A c,Wy w0 b bs ds w A c
theorem ud:j9 203 3:=by unfold j9;kernel_rfl
theorem xg:203≠5:=by decide
theorem pO(a b):À (a++b)=À a++À b:=by simp[À]
theorem a6.grew{T B b bs R}{w:È}{K}(h:a6 T B b bs R w)(J:Below w w K):a6 T B b bs R K:=by
 have C:∀p,cU T B b p bs R w->cU T B b p bs R K:=by
  rintro p⟨v,D,A,G,H⟩;refine⟨v,(J.block b ?_).trans D,A.kept (row:=none) ⟨J.os,J.tape,J.output,J.size,λk D _=>J.block k D⟩ (by cases I:v.ownBlock<;>simp),G,H⟩;rcases Nat.lt_or_ge b w.heap.size with E|E
  .exact E
  .simp[Ã E]at D
 exact h.imp (C _) (C _)
theorem Wy.grew{E b bs B}{w:È}{D A c}(h:Wy E b bs B w A c)(C:Below w w D):Wy E b bs B D A c:=
 ⟨h.x.grew C,h.le,h.td,aH h.bl Zl C,h.lt⟩
theorem p9{E b bs D w A c}(h:Wy E b bs D w A c)(k)(H:bs.length<=1000000):
  Í prog 132 #[Ç b,Ì .u8 (k.toNat:Int)] w λe G=>e=Å Ë/\Wy E b (bs++[k]) D G A c:=by
 refine(EC 203 E.heap.size b (À bs) [Â A D.length c] (k.toNat:Int) w ud xg h.x (by rw[Æ];omega) h.bl.size).mono ?_;rintro e G⟨rfl,B,C,_⟩;refine⟨rfl,?_,h.le,h.td,h.bl.trans (C.W h.lt),h.lt⟩;rw[pO];exact B
theorem mL{H b bs E w A c}(h:Wy H b bs E w A c)(s)(I:bs.length<=1000000)(J:s.size<=1000000):
  Í prog 10 #[Ç b,.string s] w λe G=>e=Å (.tuple #[s.size,Ë])/\Wy H b (bs++ae s) E G A c/\Lib.OthersKept 5 (Á b) w G:=by
 refine(sx 203 H.heap.size b (À bs) [Â A E.length c] s w ud xg h.x (by rw[Æ];omega) h.bl.size).mono ?_;rintro e G⟨rfl,B,C,D⟩;refine⟨rfl,⟨?_,h.le,h.td,h.bl.trans (C.W h.lt),h.lt⟩,D⟩;rw[pO];exact B
theorem Tx(T B b bs R c u w)(z:j9 T (R.length+2))(x:T≠5)(h:a6 T B b bs R w)(U:bs.length+1<=140737488355328)(d:B<=w.heap.size):
  CallsD prog 132 #[Ç b,Ì .u8 c] u w λe a t=>a=u/\(e=Å Ë/\(a6 T B b (bs++[Ì .u8 c]) R t/\am B b w t)):=by
 obtain⟨m,f,P,Q,S⟩:=info_parts qn;have X:=aa z;have Y:=aa x;have H:=aa h;go_enter_d func132,ntmps132;go_wp2_with(go_at_call 24;refine(xM T B b bs R _ X.o H.o).mono ?_);rintro e L⟨rfl,a,E,i⟩;obtain⟨v,J,G,O,_⟩:=a;have c1:=i7 J;go_wp2_with(at_builtin;refine wpList_append_ownF _ rfl _ _ 36 rfl B 5 m (Ì .u8 0) 1 1 Tryz.underlying36 f P Q S rfl (by decide) _ _ _ rfl (G.alloc _) L.heap.size 1 1 [Ì .u8 c] rfl rfl ?c1 ?c2 ?c3 ?c4 ?c5 ?_)
 case c1=>
  intro j u K
  match j,K with
  | 0,K=>simp at K;subst K;simp[Addr.add]
 case c2=>intro u V;simp at V;subst V;rfl
 case c3=>unfold maxLen;omega
 case c4=>omega
 case c5=>have:=E.size;simp;omega
 intro n W C A _
 have N:b<L.heap.size:=by
  rcases Nat.lt_or_ge b L.heap.size with M|M
  .exact M
  .simp[Ã M]at J
 have I:W.heap[b]?=Á (.cells (Ç b::v::R).toArray T (0,0)):=by
  rw[A.block b (by simp;omega) (λe=>O e.symm),Lib.alloc_old L _ b N];exact J
 have o:=i7 I;have q:W.frozen? (b,1)=false:=Lib.frozen_of_heap I 1
 obtain⟨g,D,rfl⟩:∃g D,n=Â g (bs.length+1) D:=by
  rcases C.2 with⟨_,s⟩|⟨g,D,Z,r,l,_⟩
  .omega
  .exact⟨g,D,l⟩
 go_wp2;go_ret;refine⟨rfl,.inr ?_,?_⟩
 .exact cU.put I (bs':=bs++[Ì .u8 c]) (by simpa using C) Y.o (λh=>by simp at h)
 .exact((E.alloc (by have:=E.size;omega) _).grown A (by have:=E.size;simp;omega) (λk y=>(G.lt k y).1)).setCell (p:=(b,1)) (.inl rfl) _
theorem DZ{E b bs D w A c}(h:Wy E b bs D w A c)(k u)(I:bs.length<=1000000):
  CallsD prog 132 #[Ç b,Ì .u8 (k.toNat:Int)] u w λe G H=>G=u/\(e=Å Ë/\Wy E b (bs++[k]) D H A c):=by
 refine(Tx 203 E.heap.size b (À bs) [Â A D.length c] (k.toNat:Int) u w ud xg h.x (by rw[Æ];omega) h.bl.size).mono ?_;rintro e G H⟨rfl,rfl,B,C⟩;refine⟨rfl,rfl,?_,h.le,h.td,h.bl.trans (C.W h.lt),h.lt⟩;rw[pO];exact B
theorem mJ{q b bs x l w A c}(h:Wy q b bs (x::l) w A c):
  Í prog 166 #[Ç b] w λe r=>e=Å (fk x)/\a7 q b bs l r:=by
 obtain⟨D,J,rfl,B,K,L,M⟩:=h.td 0 (by simp);obtain⟨C,E,G⟩:=G4 h.td h.le;simp only[List.getElem_cons_zero,Nat.zero_mul,Nat.add_zero]at K L M;obtain⟨I,_⟩:=a9 h.bl;have g:w.cell? (D,J)=Á ↑x.op:=(I _ _ B).trans K;have i:w.cell? (D,J+1)=Á (.string x.tx):=(I _ _ B).trans L;have j:w.cell? (D,J+2)=Á ↑x.n:=(I _ _ B).trans M;have X:b<w.heap.size:=h.x.lt;have a:D<w.heap.size:=Nat.lt_of_lt_of_le B h.bl.size;have V:w.cell? (b,2)=Á (Â (Á ↑(D,J)) (x::l).length c):=h.x.cellR 0;have k:w.frozen? (b,2)=false:=h.x.frozen 2;have Y:¬D=b:=by have:=h.lt;omega
 have H:=aa h;have U:Hid (aG q C l):=G;have O:=h.le;generalize P:(x::l).length=n at V E O;have W:0<n:=by rw[<-P];simp
 have f:Hid ((x::l).length=n):=P;clear h G K L M I P;generalize R:l.length=m at E;have S:Hid (l.length=m):=R;clear R;go_in;go_wp2;refine bodyPost_ret (v:=fk x) (by simp[results,Tryz.results166,go_sem]) rfl ?_;have h:=H.o;have Z:=h.x.stored 0 (Â C m (c-1));have N:Below q q (w.setCell (b,2) (Â C m (c-1))):=h.bl.setCell (p:=(b,2)) h.lt _;have Q:a6 203 q.heap.size b (À bs) [Â C l.length (c-1)] (w.setCell (b,2) (Â C m (c-1))):=by rw[S.o];exact Z
 refine⟨rfl,C,c-1,((Q.alloc _).alloc _),?_,U.o,?_,h.lt⟩
 .have:=h.le;simp only[Ä]at this;omega
 .have d:=h.bl.size;exact(N.alloc (by rw[World.size_setCell];exact d) _).alloc (by rw[World.size_alloc,World.size_setCell];omega) _
theorem DG(x)(op:Int)(A:op=5\/op=6)(s w):Í prog 262 #[x.op,op,Ê s] w λe H=>e=Å (Ê (decide (da x<(op-5).toNat+s.toNat)))/\H=w:=by
 have D:da x=if x.op=5 then 0 else if x.op=6 then 1 else 2:=rfl
 rw[D];generalize x.op=k;by_cases B:k=5
 .subst B;rcases A with rfl|rfl<;>cases s
  all_goals
   go_in;go_wp2;go_ret;exact⟨rfl,rfl⟩
 .by_cases C:k=6
  .subst C;rcases A with rfl|rfl<;>cases s
   all_goals
    go_in;go_wp2;go_ret;exact⟨rfl,rfl⟩
  .rw[if_neg B,if_neg C];have E:(k==5)=false:=by simp[B]
   have G:(k==6)=false:=by simp[C]
   rcases A with rfl|rfl<;>cases s
   all_goals
    go_in;go_wp2;go_ret;exact⟨rfl,rfl⟩
set_option maxHeartbeats 4000000
theorem UG(L I J s o n M i j:Nat)(V:Int)(U:Bool)(w:È)(W:n<=400)(hi:(i:Int)<n)(A:(i:Int)+1<n)(h:(j:Int)<n)(B:i+1<j)(b:L≠I)(c:L≠J)(d:I≠J)(f:s≠I)(g:s≠J)
  (c0:w.cell? L=Á (Â (Á ↑(s,o)) n M)) (c1:w.cell? (L,1)=Á (Â I n n)) (c2:w.cell? (L,2)=Á (Â J n n))
  (N:w.cell? (s,o+i*3)=Á (Ì .i64 6))
  (O:w.cell? (I,i+1)=Á ↑(j:Int))
  (P:w.cell? (I,j)=Á ↑V)
  (R:w.cell? (J,i+1)=Á (Ê true))
  (S:w.cell? (J,j)=Á (Ê U))
  (X Y:Value) (Z:w.cell? (I,i)=Á X) (a:w.cell? (J,i)=Á Y) (k:w.frozen? (I,i)=false) (l:w.frozen? (J,i)=false):
  Í prog 278 #[Ç L,i] w λe K=>e=Å (.tuple #[])/\eL I J i V (Ê U) w K:=by
 have H:=nX W hi;have D:(0:Int)<=(i:Int)+1:=by omega
 have C:(0:Int)<=(i:Int):=by omega
 have G:((i:Int)+1).toNat=i+1:=by omega
 have E:(0:Int)<=(j:Int):=by omega
 go_in;go_wp2_with fail
 go_region_held3 (λK=>K.cell? L=Á (Â (Á ↑(s,o)) n M)/\K.cell? (L,1)=Á (Â I n n)/\K.cell? (L,2)=Á (Â J n n)/\K.cell? (s,o+i*3)=Á (Ì .i64 6)/\K.cell? (I,i+1)=Á ↑(j:Int)/\K.cell? (I,j)=Á ↑V/\K.cell? (J,i+1)=Á (Ê true)/\K.cell? (J,j)=Á (Ê U))
  (first|exact⟨c0,c1,c2,N,O,P,R,S⟩|exact⟨(af (by omega)).trans c0,(af (by omega)).trans c1,(af (by omega)).trans c2,(af (by omega)).trans N,(af (by omega)).trans O,(af (by omega)).trans P,(af (by omega)).trans R,(af (by omega)).trans S⟩|exact⟨(af (by omega)).trans ((af (by omega)).trans c0),(af (by omega)).trans ((af (by omega)).trans c1),(af (by omega)).trans ((af (by omega)).trans c2),(af (by omega)).trans ((af (by omega)).trans N),(af (by omega)).trans ((af (by omega)).trans O),(af (by omega)).trans ((af (by omega)).trans P),(af (by omega)).trans ((af (by omega)).trans R),(af (by omega)).trans ((af (by omega)).trans S)⟩) (fail)
 all_goals
  go_wp2
  go_end0
  exact⟨rfl,rfl,rfl,rfl,rfl⟩
theorem UF(R N O s o n S i j:Nat)(P:Int)(X:Bool)(w:È)(Y:n<=400)(hi:(i:Int)<n)(A:(i:Int)+1<n)(u:(j:Int)<n)(_hij:i+1<j)(m:R≠N)(p:R≠O)(q:N≠O)(r:s≠N)(t:s≠O)
  (c0:w.cell? R=Á (Â (Á ↑(s,o)) n S)) (c1:w.cell? (R,1)=Á (Â N n n)) (c2:w.cell? (R,2)=Á (Â O n n))
  (g:w.cell? (s,o+i*3)=Á (Ì .i64 6))
  (h:w.cell? (N,i+1)=Á ↑(j:Int))
  (k:w.cell? (N,j)=Á ↑P)
  (U:w.cell? (O,i+1)=Á (Ê false))
  (_e4:w.cell? (O,j)=Á (Ê X))
  (c d:Value) (l:w.cell? (N,i)=Á c) (V:w.cell? (O,i)=Á d) (x:w.frozen? (N,i)=false) (f:w.frozen? (O,i)=false):
  Í prog 278 #[Ç R,i] w λe Z=>e=Å (.tuple #[])/\eL N O i P (Ê false) w Z:=by
 have G:=nX Y hi;have C:(0:Int)<=(i:Int)+1:=by omega
 have B:(0:Int)<=(i:Int):=by omega
 have E:((i:Int)+1).toNat=i+1:=by omega
 have D:(0:Int)<=(j:Int):=by omega
 have H:=(af (W:=w) (v:=P) (b:=N) (o:=i) (by omega)).trans c0;have I:=(af (W:=w) (v:=P) (b:=N) (o:=i) (by omega)).trans c1;have J:=(af (W:=w) (v:=P) (b:=N) (o:=i) (by omega)).trans c2;have K:=(af (W:=w) (v:=P) (b:=N) (o:=i) (by omega)).trans U;have L:=(af (W:=w) (v:=P) (b:=N) (o:=i) (by omega)).trans V;have M:=(gc (W:=w) (v:=P) (a:=(N,i))).trans f;go_in;go_wp2_with fail
 go_region
 all_goals
  go_wp2
  go_end0
  exact⟨rfl,rfl,rfl,rfl,rfl⟩
