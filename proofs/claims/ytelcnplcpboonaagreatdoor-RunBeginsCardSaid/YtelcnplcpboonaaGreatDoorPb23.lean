import Derived.Test.YtelcnplcpboonaaGreatDoorPb18
import Derived.Lib.AppendZerosOnto
import Derived.Lib.SliceRun
import Derived.Test.YtelcnplcpboonaaGreatDoorPb19
open Go.Proofs.Tryz
namespace Go.Proofs.YtelcnplcpboonaaGreatDoor
open Go Go.RowKit
def F1(R:List Pl)(k:Nat):Nat->Q:=fun j=>if k<=j then q1 (q1e R j)else q0
theorem v7x{R:List Pl}{i:Nat}:upd (F1 R (i+1)) i (q1 (q1e R i))=F1 R i:=by
 funext j
 simp only[upd,F1];by_cases e:j=i
 ·subst e;simp
 ·by_cases h:i+1<=j
  ·rw[if_neg e,if_pos h,if_pos (by omega)]
  ·rw[if_neg e,if_neg h,if_neg (by omega)]
structure Tl(R:List Pl)(L M i:Nat)(F:Nat->Q):Prop where
 op:∀j,j<R.length->(F j).op=(q1e R j).nd.op
 tx:∀j,j<R.length->(F j).tx=(q1e R j).nd.tx
 n:∀j,j<R.length->(F j).n=(q1e R j).nd.n
 en:∀j,j<R.length->(F j).en=(q1e R j).en
 nx:∀j,j<R.length->(j=0\/∃p,p<i/\j0q R L M p j)->(F j).nx=(q1e R j).nx
 dp:∀j,j<R.length->(j=0\/∃p,p<i/\j0q R L M p j)->(F j).dp=(q1e R j).dp
 lg:∀j,j<R.length->j<i->(F j).lg=(q1e R j).lg
 l0:∀j,j<R.length->i<=j->(F j).lg=0
theorem Tl.tell{R:List Pl}{L M i j:Nat}{F:Nat->Q}{x y:Int}(h:Tl R L M i F)(hx:x=(q1e R j).nx)(hy:y=(q1e R j).dp):Tl R L M i (upd F j {F j with nx:=x,dp:=y}) where
 op k hk:=by by_cases e:k=j;subst e;rw[q0k];exact h.op k hk;rw[q0z e];exact h.op k hk
 tx k hk:=by by_cases e:k=j;subst e;rw[q0k];exact h.tx k hk;rw[q0z e];exact h.tx k hk
 n k hk:=by by_cases e:k=j;subst e;rw[q0k];exact h.n k hk;rw[q0z e];exact h.n k hk
 en k hk:=by by_cases e:k=j;subst e;rw[q0k];exact h.en k hk;rw[q0z e];exact h.en k hk
 nx k hk hp:=by by_cases e:k=j;subst e;rw[q0k];exact hx;rw[q0z e];exact h.nx k hk hp
 dp k hk hp:=by by_cases e:k=j;subst e;rw[q0k];exact hy;rw[q0z e];exact h.dp k hk hp
 lg k hk hp:=by by_cases e:k=j;subst e;rw[q0k];exact h.lg k hk hp;rw[q0z e];exact h.lg k hk hp
 l0 k hk hp:=by by_cases e:k=j;subst e;rw[q0k];exact h.l0 k hk hp;rw[q0z e];exact h.l0 k hk hp
theorem Tl.next{R:List Pl}{L M i:Nat}{F:Nat->Q}(h:Tl R L M i F)(hp:∀j,j<R.length->j0q R L M i j->(F j).nx=(q1e R j).nx/\(F j).dp=(q1e R j).dp)(hl:(F i).lg=(q1e R i).lg):Tl R L M (i+1) F where
 op:=h.op
 tx:=h.tx
 n:=h.n
 en:=h.en
 nx k hk hq:=by
  rcases hq with e|⟨p,B,A⟩
  ·exact h.nx k hk (.inl e)
  ·by_cases e:p=i
   ·subst e;exact(hp k hk A).1
   ·exact h.nx k hk (.inr ⟨p,by omega,A⟩)
 dp k hk hq:=by
  rcases hq with e|⟨p,B,A⟩
  ·exact h.dp k hk (.inl e)
  ·by_cases e:p=i
   ·subst e;exact(hp k hk A).2
   ·exact h.dp k hk (.inr ⟨p,by omega,A⟩)
 lg k hk hq:=by
  by_cases e:k=i
  ·subst e;exact hl
  ·exact h.lg k hk (by omega)
 l0 k hk hq:=h.l0 k hk (by omega)
theorem Tl.setLg{R:List Pl}{L M i:Nat}{F:Nat->Q}{x:Int}(h:Tl R L M i F):Tl R L M i F->∀k,k<R.length->(upd F i {F i with lg:=x} k).op=(F k).op/\(upd F i {F i with lg:=x} k).tx=(F k).tx/\(upd F i {F i with lg:=x} k).n=(F k).n/\(upd F i {F i with lg:=x} k).en=(F k).en/\(upd F i {F i with lg:=x} k).nx=(F k).nx/\(upd F i {F i with lg:=x} k).dp=(F k).dp:=by
 intro _ k _;by_cases e:k=i
 ·subst e;rw[q0k];exact⟨rfl,rfl,rfl,rfl,rfl,rfl⟩
 ·rw[q0z e];exact⟨rfl,rfl,rfl,rfl,rfl,rfl⟩
theorem Tl.nextLg{R:List Pl}{L M i:Nat}{F:Nat->Q}(h:Tl R L M i F)(hp:∀j,j<R.length->j0q R L M i j->(F j).nx=(q1e R j).nx/\(F j).dp=(q1e R j).dp):Tl R L M (i+1) (upd F i {F i with lg:=(q1e R i).lg}) where
 op k hk:=by rw[(h.setLg h k hk).1];exact h.op k hk
 tx k hk:=by rw[(h.setLg h k hk).2.1];exact h.tx k hk
 n k hk:=by rw[(h.setLg h k hk).2.2.1];exact h.n k hk
 en k hk:=by rw[(h.setLg h k hk).2.2.2.1];exact h.en k hk
 nx k hk hq:=by
  rw[(h.setLg h k hk).2.2.2.2.1];rcases hq with e|⟨p,B,A⟩
  ·exact h.nx k hk (.inl e)
  ·by_cases e:p=i
   ·subst e;exact(hp k hk A).1
   ·exact h.nx k hk (.inr ⟨p,by omega,A⟩)
 dp k hk hq:=by
  rw[(h.setLg h k hk).2.2.2.2.2];rcases hq with e|⟨p,B,A⟩
  ·exact h.dp k hk (.inl e)
  ·by_cases e:p=i
   ·subst e;exact(hp k hk A).2
   ·exact h.dp k hk (.inr ⟨p,by omega,A⟩)
 lg k hk hq:=by
  by_cases e:k=i
  ·subst e;rw[q0k]
  ·rw[q0z e];exact h.lg k hk (by omega)
 l0 k hk hq:=by rw[q0z (by omega)];exact h.l0 k hk (by omega)
theorem Tl.all{t:Tr}{F:Nat->Q}(ht:t.Wf)(h:Tl (q0a t) t.lf t.dsum (q0a t).length F):∀j,j<(q0a t).length->F j=q2 (q1e (q0a t) j):=by
 intro j A
 have C:j=0\/∃p,p<(q0a t).length/\j0q (q0a t) t.lf t.dsum p j:=by
  rcases Nat.eq_zero_or_pos j with e|e
  ·exact .inl e
  ·obtain⟨p,L,B⟩:=k0h ht e A;exact .inr ⟨p,by omega,B⟩
 have D:=h.op j A;have E:=h.tx j A;have G:=h.n j A;have H:=h.en j A;have I:=h.nx j A C;have J:=h.dp j A C;have K:=h.lg j A A;unfold q2;rw[<-D,<-E,<-G,<-H,<-I,<-J,<-K]
theorem Tl.start{t:Tr}:Tl (q0a t) t.lf t.dsum 0 (upd (F1 (q0a t) 0) 0 {F1 (q0a t) 0 0 with nx:=t.sz}):=by
 have A:∀j,F1 (q0a t) 0 j=q1 (q1e (q0a t) j):=fun j=>by simp[F1]
 have C:q1e (q0a t) 0=z5s t 0 t.sz 0 []:=by
  obtain⟨r,e⟩:=j6v t 0 t.sz 0 [];rw[q1e,List.getD,q0a,e];rfl
 have B:∀(P:Q->Prop)k,(k=0->P {F1 (q0a t) 0 0 with nx:=t.sz})->(k≠0->P (F1 (q0a t) 0 k))->P (upd (F1 (q0a t) 0) 0 {F1 (q0a t) 0 0 with nx:=t.sz} k):=by
  intro P k D E;by_cases e:k=0
  ·subst e;rw[q0k];exact D rfl
  ·rw[q0z e];exact E e
 refine⟨fun j _=>?_,fun j _=>?_,fun j _=>?_,fun j _=>?_,fun j _ hq=>?_,fun j _ hq=>?_,fun j _ hq=>?_,fun j _ _=>?_⟩
 ·refine B (fun q=>q.op=_) j (fun e=>?_) (fun _=>?_)
  ·subst e;rw[A];rfl
  ·rw[A];rfl
 ·refine B (fun q=>q.tx=_) j (fun e=>?_) (fun _=>?_)
  ·subst e;rw[A];rfl
  ·rw[A];rfl
 ·refine B (fun q=>q.n=_) j (fun e=>?_) (fun _=>?_)
  ·subst e;rw[A];rfl
  ·rw[A];rfl
 ·refine B (fun q=>q.en=_) j (fun e=>?_) (fun _=>?_)
  ·subst e;rw[A];rfl
  ·rw[A];rfl
 ·rcases hq with e|⟨p,G,_⟩
  ·subst e;rw[q0k,C];rfl
  ·omega
 ·rcases hq with e|⟨p,G,_⟩
  ·subst e;rw[q0k,A,C];rfl
  ·omega
 ·omega
 ·refine B (fun q=>q.lg=0) j (fun e=>?_) (fun _=>?_)
  ·rw[A];rfl
  ·rw[A];rfl
theorem v8s{R:List Pl}{L M i nx dp:Nat}{ks:List (Nat × Tr)}{t:Tr}(bp g:Nat)(F:Nat->Q)(w:World)(hR:R.length<=400)(hM:M<=3200)(h:Sp R L M i t nx dp ks)(hT:Tl R L M i F)(h0:i=0\/∃p,p<i/\j0q R L M p i)(c:bp≠g)
  (c0:w.cell? ⟨bp,0,none⟩=some (.slice (some ⟨g,0,none⟩) R.length R.length)) (hp:PwR w g R.length F):
  Calls prog 229 #[.pointer (some ⟨bp,0,none⟩),.int .i64 i] w fun e w'=>e=.returned (.tuple #[])/\(∃F',PwR w' g R.length F'/\Tl R L M i F'/\∀j,j<R.length->j0q R L M i j->(F' j).nx=(q1e R j).nx/\(F' j).dp=(q1e R j).dp)/\q0j w g w w':=by
 have d:=h.lt;have W:=h.at;have I:=hT.op i d;have s:=hT.n i d;have S:=hT.nx i d h0;have O:=hT.dp i d h0;rw[W]at I s S O;have v:=h.bd;cases t with
 | leaf x=>
  have B:(F i).op=x.op:=I
  have J:∀k:Int,k=6\/k=9\/k=7\/k=8->((F i).op==k)=false:=fun k hk=>beq_eq_false_iff_ne.2 (by
   rw[B]
   rcases q4t h.wf.1 h.wf.2 with e|e|e|e|e<;>omega)
  refine(v0v bp g R.length i F w d c0 hp (J 6 (by omega)) (J 9 (by omega)) (J 7 (by omega)) (J 8 (by omega))).mono ?_;rintro e q⟨rfl,U,V⟩;refine⟨rfl,⟨F,U,hT,fun j hj hpt=>?_⟩,V⟩;rcases hpt with⟨f,X,_,_,_,C,_⟩|⟨f,X,r,_,_,_,C,_⟩
  ·have:=C.at;rw[W]at this;simp[z5s]at this
  ·have:=C.at;rw[W]at this;simp[z5s]at this
 | one x a=>
  have B:(F i).op=x.op:=I;have l:(F i).n=x.n:=s;have D:(F i).nx=(nx:Int):=S;have A:(F i).dp=(dp:Int):=O;have C:=h.one;have y:0<=x.n/\x.n<=8:=by have:=q1s h.wf.1;omega
  have u:IntKind.i64.wrap ((F i).dp+(F i).n)=((dp+x.n.toNat:Nat):Int):=by
   rw[A,l,IntKind.wrap_i64];omega
  refine(v8t bp g R.length i F w hR C.lt c0 hp (by rw[B];exact z1g h.wf.2.1) _ u).mono ?_;rintro e q⟨rfl,U,V⟩;have K:(F i).nx=(q1e R (i+1)).nx:=by rw[D,C.at];rfl
  have N:((dp+x.n.toNat:Nat):Int)=(q1e R (i+1)).dp:=by rw[C.at];rfl
  refine⟨rfl,⟨_,U,hT.tell K N,fun j hj hpt=>?_⟩,V⟩
  have m:j=i+1:=by
   rcases hpt with⟨f,X,_,_,_,E,e⟩|⟨f,X,r,_,_,_,E,_⟩
   ·exact e
   ·have:=E.at;rw[W]at this;simp[z5s]at this
  subst m;rw[q0k];exact⟨K,N⟩
 | two x a b=>
  have B:(F i).op=x.op:=I;have D:(F i).nx=(nx:Int):=S;have A:(F i).dp=(dp:Int):=O;have G:=h.two2
  have H:∀j,j0q R L M i j->j=i+1\/j=i+1+a.sz:=fun j hpt=>by
   rcases hpt with⟨f,X,_,_,_,E,_⟩|⟨f,X,r,_,_,_,E,e⟩
   ·have:=E.at;rw[W]at this;simp[z5s]at this
   ·have:=E.at
    rw[W]at this;simp only[z5s,Pl.mk.injEq,Tr.two.injEq]at this;rw[this.2.2.2.2.2.1.2.1];exact e
  rcases q9q h.wf.2.1 with e|e
  ·have C:=h.both1 e;have P:(F (i+1)).en=((i+1+a.sz:Nat):Int):=by rw[hT.en _ C.lt,C.at];rfl
   refine(v8u bp g R.length i (i+1+a.sz) F w hR C.lt G.lt c c0 hp (by rw[B,e]) P).mono ?_;rintro e q⟨rfl,U,V⟩;have K:((i+1+a.sz:Nat):Int)=(q1e R (i+1)).nx:=by rw[C.at];rfl
   have N:(F i).dp=(q1e R (i+1)).dp:=by rw[A,C.at];rfl
   have Y:(F i).nx=(q1e R (i+1+a.sz)).nx:=by rw[D,G.at];rfl
   have Z:(F i).dp=(q1e R (i+1+a.sz)).dp:=by rw[A,G.at];rfl
   refine⟨rfl,⟨_,U,(hT.tell K N).tell Y Z,fun j hj hpt=>?_⟩,V⟩;have o:=k7c a;rcases H j hpt with rfl|rfl
   ·rw[q0z (by omega),q0k];exact⟨K,N⟩
   ·rw[q0k];exact⟨Y,Z⟩
  ·have C:=h.either1 (by omega);have P:(F (i+1)).en=((i+1+a.sz:Nat):Int):=by rw[hT.en _ C.lt,C.at];rfl
   refine(v0w bp g R.length i (i+1+a.sz) F w hR C.lt G.lt c c0 hp (by rw[B,e]) P).mono ?_;rintro e q⟨rfl,U,V⟩;have K:(F i).nx=(q1e R (i+1)).nx:=by rw[D,C.at];rfl
   have N:(F i).dp=(q1e R (i+1)).dp:=by rw[A,C.at];rfl
   have Y:(F i).nx=(q1e R (i+1+a.sz)).nx:=by rw[D,G.at];rfl
   have Z:(F i).dp=(q1e R (i+1+a.sz)).dp:=by rw[A,G.at];rfl
   refine⟨rfl,⟨_,U,(hT.tell K N).tell Y Z,fun j hj hpt=>?_⟩,V⟩;have o:=k7c a;rcases H j hpt with rfl|rfl
   ·rw[q0z (by omega),q0k];exact⟨K,N⟩
   ·rw[q0k];exact⟨Y,Z⟩
set_option maxRecDepth 100000
set_option maxHeartbeats 4000000
theorem j5c(n:Nat)(h1:0<n)(hn:n<=1000000)(w:World):
  Calls prog 283 #[.slice none 0 0,.int .i64 (n:Int)] w fun e w'=>∃c,e=.returned (.slice (some ⟨w,0,none⟩) 0 c)/\q8e w.heap.size (.slice (some ⟨w,0,none⟩) 0 c) [] w'/\Below w w w':=by
 obtain⟨J,M,E,I,C⟩:=info_parts v6z
 have B:∀ty,(Builtin.append_ #[117,3] ty #[.slice none 0 0,.int .i64 (n:Int)]).run prog w=
   .ok (.slice (some ⟨w,0,none⟩) n (grownCap w n 0 150)) (w.drew.alloc (.cells (#[]++Builtin.zeroCells (Value.agg #[.int .i64 0,.string ⟨#[]⟩,.int .i64 0]).cells n++Builtin.zeroCells (Value.agg #[.int .i64 0,.string ⟨#[]⟩,.int .i64 0]).cells (grownCap w n 0 150-n)) 150)):=fun ty=>by
  have D:(Builtin.firstCells J.size 0 (.slice none 0 0)).run prog w.drew=.ok ([]:List Value).toArray w.drew:=run_firstCells_none w.drew J.size 0 0 0;have h:=Lib.run_append_grow_zeros w 117 3 ty 150 J _ .i64 .i64 Tryz.underlying117 Tryz.underlying3 M E none 0 0 [] D n h1 (by omega) (by omega) (by omega) (by rw[C];omega) (growslice_fits (by omega) (by rw[C];omega));simp only[Nat.zero_add]at h;exact h
 have H:n<=grownCap w n 0 150:=grownCap_ge w _ _ _;have A:=grownCap_le_maxLen w n 0 150 (by unfold maxLen;omega);generalize grownCap w n 0 150=G at B H A;have L:G<=9223372036854775807:=by unfold maxLen at A;omega
 have K:Hid (q8e w.heap.size (.slice (some ⟨w,0,none⟩) 0 G) [] (w.drew.alloc (.cells (#[]++Builtin.zeroCells (Value.agg #[.int .i64 0,.string ⟨#[]⟩,.int .i64 0]).cells n++Builtin.zeroCells (Value.agg #[.int .i64 0,.string ⟨#[]⟩,.int .i64 0]).cells (G-n)) 150))):=by
  refine⟨rfl,.inr ⟨w.heap.size,G,_,rfl,Nat.le_refl _,heap_alloc_new w.drew _,Nat.zero_le _,A,?_,rfl⟩⟩;simp only[Array.size_append,size_zeroCells,Array.size_empty];show 0+n*3+(G-n)*3=G*3;omega
 have N:(0:Int)<(n:Int):=by omega
 generalize(#[]++Builtin.zeroCells (Value.agg #[.int .i64 0,.string ⟨#[]⟩,.int .i64 0]).cells n++Builtin.zeroCells (Value.agg #[.int .i64 0,.string ⟨#[]⟩,.int .i64 0]).cells (G-n))=Z at B K
 clear M E I C A;go_in;go_wp2_with(at_builtin;refine Lib.wpList_append_run _ rfl _ _ _ _ rfl _ _ rfl rfl _ _ (B _) ?_);go_ret;exact⟨G,rfl,K.o,Below.drew (Zb.alloc Zl _)⟩
def v7y(w:World)(a:Option Addr)(ps:List (List Nd)):Prop:=
 ∀i(h:i<ps.length),∃b o a' c',a=some ⟨b,o,none⟩/\b<w.heap.size/\w.cell? ⟨b,o+i,none⟩=some (.slice a' ps[i].length c')/\q2z w a' ps[i]/\(a'=none->ps[i].length=0/\c'=0)
theorem v7y.W{w w':World}{a:Option Addr}{ps:List (List Nd)}(h:v7y w a ps)(hb:Below w w w'):v7y w' a ps:=by
 intro i H;obtain⟨b,o,B,C,e,A,D,E,G⟩:=h i H;exact⟨b,o,B,C,e,Nat.lt_of_lt_of_le A hb.size,(hb.cell (p:=⟨b,_,none⟩) A).trans D,E.W hb,G⟩
theorem z5f{ps:List (List Nd)}{i:Nat}(h:i<ps.length):(ps.take (i+1)).flatten=(ps.take i).flatten++ps[i]:=by
 rw[List.take_succ_eq_append_getElem h,List.flatten_append];simp
theorem z2y(ps:List (List Nd))(i:Nat):(ps.take i).flatten.length<=ps.flatten.length:=by
 have h:ps.flatten=(ps.take i).flatten++(ps.drop i).flatten:=by rw[<-List.flatten_append,List.take_append_drop]
 rw[h,List.length_append];omega
structure y8b(w:World)(ps:List (List Nd))(i:Nat)(v:Value)(wr:World):Prop where
 le:i<=ps.length
 o:q8e w.heap.size v (ps.take i).flatten wr
 b:Below w w wr
theorem z3c(ps:List (List Nd))(a:Option Addr)(c:Nat)(w:World)(hP:v7y w a ps)(h0:0<ps.flatten.length)(hl:ps.flatten.length<=900000)(hp:ps.length<=10):
  Calls prog 270 #[.slice a ps.length c] w fun e w'=>∃A c',e=.returned (.slice A ps.flatten.length c')/\q8e w.heap.size (.slice A ps.flatten.length c') ps.flatten w'/\Below w w w':=by
 have z:Hid (v7y w a ps):=hP;have u:Hid (Calls prog 283 #[.slice none 0 0,.int .i64 (ps.flatten.length:Int)] w fun e w'=>∃c,e=.returned (.slice (some ⟨w,0,none⟩) 0 c)/\q8e w.heap.size (.slice (some ⟨w,0,none⟩) 0 c) [] w'/\Below w w w'):=j5c ps.flatten.length h0 (by omega) w;clear hP;generalize hN:ps.flatten.length=N at u h0 hl⊢;have P:Hid (ps.flatten.length=N):=hN;clear hN;go_in;go_wp2_with fail
 go_loopw [3,11] (fun s x wr=>w=wr/\∃i:Nat,i<=ps.length/\x=.int .i64 (i:Int)/\s=.int .i64 ((ps.take i).flatten.length:Int)) (fun _ x _=>ps.length-(intOf x).toNat)
 case atStart=>exact⟨rfl,0,Nat.zero_le _,rfl,rfl⟩
 case round=>
  obtain⟨rfl,i,hi,rfl,rfl⟩:=hrel;by_cases C:i<ps.length
  ·have K:(i:Int)<(ps.length:Int):=by omega
   obtain⟨b0,o0,Y,j,rfl,q,p,_,_⟩:=z.o i C;have B:=congrArg List.length (z5f C);rw[List.length_append]at B;have E:=z2y ps (i+1);rw[P.o]at E;have M:=(show Hid (_=_)from B);have V:(ps.take i).flatten.length+ps[i].length<=900000:=by omega
   clear B E;generalize ps[i].length=pn at M p V
   generalize(ps.take i).flatten.length=sn at M V⊢
   have Aa:¬(sn:Int)+(pn:Int)<0:=by omega
   go_wp2;refine⟨⟨trivial,i+1,C,by go_num,?_⟩,?_⟩
   ·rw[M.o];go_num
   ·simp[intOf];omega
  ·have K:¬(i:Int)<(ps.length:Int):=by omega
   have G:(ps.take i).flatten.length=N:=by rw[List.take_of_length_le (by omega)];exact P.o
   rw[G];clear G;go_wp2_with fail;refine u.o.mono ?_;rintro e w1⟨c1,rfl,S,b1⟩;have f:Hid (y8b w ps 0 (.slice (some ⟨w,0,none⟩) 0 c1) w1):=⟨Nat.zero_le _,S,b1⟩;clear S b1;go_wp2_with fail
   go_loopw [6,27] (fun v x w'=>∃(i:Nat)(A:Option Addr)(n c:Nat),x=.int .i64 (i:Int)/\v=.slice A n c/\n=(ps.take i).flatten.length/\y8b w ps i (.slice A n c) w') (fun _ x _=>ps.length-(intOf x).toNat)
   case atStart=>exact⟨0,_,_,_,rfl,rfl,rfl,f.o⟩
   case round=>
    obtain⟨i,A,n,l,rfl,rfl,L,O⟩:=hrel;have E:=z2y ps i;rw[P.o,<-L]at E;by_cases C:i<ps.length
    ·have K:(i:Int)<(ps.length:Int):=by omega
     obtain⟨b0,o0,Y,j,rfl,q,p,hT,J⟩:=z.o.W O.b i C;have B:=z5f C;have I:=z2y ps (i+1);rw[B,List.length_append,P.o,<-L]at I;have M:=(show Hid (_=_)from B);have Z:Hid (q8e w.heap.size (.slice A n l) (ps.take i).flatten wr):=O.o;have d:Hid (Below w w wr):=O.b;have X:=O.b.size;have HT:Hid (q2z wr Y ps[i]):=hT;have Q:Hid (Y=none->ps[i].length=0/\j=0):=J;have y:Hid ((ps.take i).flatten.length=n):=L.symm;have g:Hid (∃m,ps[i].length=m):=⟨_,rfl⟩;generalize U:ps[i].length=pn at p I Q;have R:Hid (ps[i].length=pn):=U;clear B hT J L O U g E;go_wp2_with(at_builtin;refine v8c rfl _ _ rfl w.heap.size _ (ps.take i).flatten rfl Z.o Y pn ps[i] R.o j rfl HT.o Q.o (n+pn) (by rw[y.o]) (by omega) X ?_);intro t c3 w3 H D
     have h:Hid (y8b w ps (i+1) (.slice t (n+pn) c3) w3):=by
      refine⟨C,?_,d.o.grown D X (fun k hk=>(World.ownsRow.lt Z.o k hk).1)⟩;rw[M.o];exact H
     clear H D;go_wp2;refine⟨⟨i+1,t,n+pn,c3,by go_num,rfl,?_,h.o⟩,?_⟩
     ·rw[M.o,List.length_append,y.o,R.o]
     ·simp[intOf];omega
    ·have K:¬(i:Int)<(ps.length:Int):=by omega
     have G:ps.take i=ps:=List.take_of_length_le (by omega);obtain⟨_,r,hb⟩:=O;rw[G]at r L;rw[P.o]at L;subst L;have Z:Hid (q8e w.heap.size (.slice A n l) ps.flatten wr):=r;have d:Hid (Below w w wr):=hb;clear r hb G;go_wp2;go_ret;exact⟨A,l,rfl,Z.o,d.o⟩
theorem j1i(w:World)(o p:Obj):Below w w ((w.alloc o).alloc p):=((Below.refl _ w).alloc Zl o).alloc (by rw[World.size_alloc];omega) p
theorem z0k(w:World)(o p:Obj):((w.alloc o).alloc p).heap[w.heap.size]?=some o:=by
 have A:((w.heap.push o).push p)[w.heap.size]?=some o:=by
  rw[Array.getElem?_push,if_neg (by simp),Array.getElem?_push,if_pos rfl]
 exact A
theorem q7w(w:World)(o p:Obj):((w.alloc o).alloc p).heap[w.heap.size+1]?=some p:=by
 have A:((w.heap.push o).push p)[w.heap.size+1]?=some p:=by
  rw[Array.getElem?_push,if_pos (by simp)]
 exact A
abbrev ndO(x:Nd):Obj:=.cells #[.int .i64 x.op,.string x.tx,.int .i64 x.n] 150 (0,0)
theorem k6e{x:Nd}{W:World}{k:Nat}(h:W.heap[k]?=some (ndO x)):q2z W (some ⟨k,0,none⟩) [x]:=by
 intro i B;have C:i=0:=by simp at B;exact B
 subst C;have A:k<W.heap.size:=(Array.getElem?_eq_some_iff.1 h).1;refine⟨k,0,rfl,A,?_,?_,?_⟩<;>rw[Lib.cell_of_heap h]<;>rfl
theorem v5z{x:Nd}{xs:List Nd}{A:Option Addr}{c:Nat}(w W:World)(hb:Below w w W)(h0:W.heap[w.heap.size]?=some (ndO x))(h1:W.heap[w.heap.size+1]?=some (.cells #[.slice (some ⟨w,0,none⟩) 1 1,.slice A xs.length c] 117 (0,0)))
  (hN:q2z w A xs) (E:A=none->xs.length=0/\c=0) (hl:xs.length<=100000):
  Calls prog 270 #[.slice (some ⟨w.heap.size+1,0,none⟩) 2 2] W fun e w'=>NdR w (x::xs) e w':=by
 have D:w.heap.size+1<W.heap.size:=(Array.getElem?_eq_some_iff.1 h1).1;have B:∀i,W.cell? ⟨w.heap.size+1,i,none⟩=#[Value.slice (some ⟨w,0,none⟩) 1 1,.slice A xs.length c][i]?:=fun i=>by simp[World.cell?,h1]
 have M:v7y W (some ⟨w.heap.size+1,0,none⟩) [[x],xs]:=by
  intro i N;have L:i=0\/i=1:=by simp at N;omega
  rcases L with rfl|rfl
  ·exact⟨w.heap.size+1,0,some ⟨w,0,none⟩,1,rfl,D,B 0,k6e h0,fun e=>by cases e⟩
  ·exact⟨w.heap.size+1,0,A,c,rfl,D,B 1,hN.W hb,E⟩
 have C:[[x],xs].flatten=x::xs:=by simp
 have I:=z3c [[x],xs] (some ⟨w.heap.size+1,0,none⟩) 2 W M (by rw[C];simp) (by rw[C,List.length_cons];omega) (by simp);rw[C]at I;refine I.mono ?_;rintro e O⟨J,K,rfl,H,G⟩;exact⟨J,K,rfl,H.down hb.size,q0g hb Zl G⟩
theorem v0x{x:Nd}{xs ys:List Nd}{A A':Option Addr}{c c':Nat}(w W:World)(hb:Below w w W)(h0:W.heap[w.heap.size]?=some (ndO x))(h1:W.heap[w.heap.size+1]?=some (.cells #[.slice (some ⟨w,0,none⟩) 1 1,.slice A xs.length c,.slice A' ys.length c'] 117 (0,0)))
  (hN:q2z w A xs) (G:A=none->xs.length=0/\c=0) (hM:q2z w A' ys) (E:A'=none->ys.length=0/\c'=0) (hl:xs.length+ys.length<=100000):
  Calls prog 270 #[.slice (some ⟨w.heap.size+1,0,none⟩) 3 3] W fun e w'=>NdR w (x::(xs++ys)) e w':=by
 have D:w.heap.size+1<W.heap.size:=(Array.getElem?_eq_some_iff.1 h1).1;have B:∀i,W.cell? ⟨w.heap.size+1,i,none⟩=#[Value.slice (some ⟨w,0,none⟩) 1 1,.slice A xs.length c,.slice A' ys.length c'][i]?:=fun i=>by simp[World.cell?,h1]
 have N:v7y W (some ⟨w.heap.size+1,0,none⟩) [[x],xs,ys]:=by
  intro i O;have M:i=0\/i=1\/i=2:=by simp at O;omega
  rcases M with rfl|rfl|rfl
  ·exact⟨w.heap.size+1,0,some ⟨w,0,none⟩,1,rfl,D,B 0,k6e h0,fun e=>by cases e⟩
  ·exact⟨w.heap.size+1,0,A,c,rfl,D,B 1,hN.W hb,G⟩
  ·exact⟨w.heap.size+1,0,A',c',rfl,D,B 2,hM.W hb,E⟩
 have C:[[x],xs,ys].flatten=x::(xs++ys):=by simp
 have J:=z3c [[x],xs,ys] (some ⟨w.heap.size+1,0,none⟩) 3 W N (by rw[C];simp) (by rw[C,List.length_cons,List.length_append];omega) (by simp);rw[C]at J;refine J.mono ?_;rintro e P⟨K,L,rfl,I,H⟩;exact⟨K,L,rfl,I.down hb.size,q0g hb Zl H⟩
theorem q1q(s:ByteArray)(w:World):Calls prog 248 #[.string s] w fun e w'=>NdR w [⟨1,s,0⟩] e w':=by
 have B:=hid (q8e.one w ⟨1,s,0⟩);have A:Hid (∀O:Obj,Below w w (w.alloc O)):=fun O=>(Below.refl _ w).alloc Zl O
 go_in;go_wp2;go_ret;exact⟨_,1,rfl,B.o,A.o _⟩
theorem z0n(w:World):Calls prog 251 #[] w fun e w'=>NdR w [⟨2,⟨#[]⟩,0⟩] e w':=by
 have B:=hid (q8e.one w ⟨2,⟨#[]⟩,0⟩);have A:Hid (∀O:Obj,Below w w (w.alloc O)):=fun O=>(Below.refl _ w).alloc Zl O
 go_in;go_wp2;go_ret;exact⟨_,1,rfl,B.o,A.o _⟩
theorem z9v(w:World):Calls prog 284 #[] w fun e w'=>NdR w [⟨3,⟨#[]⟩,0⟩] e w':=by
 have B:=hid (q8e.one w ⟨3,⟨#[]⟩,0⟩);have A:Hid (∀O:Obj,Below w w (w.alloc O)):=fun O=>(Below.refl _ w).alloc Zl O
 go_in;go_wp2;go_ret;exact⟨_,1,rfl,B.o,A.o _⟩
theorem q7x{xs:List Nd}{v:Value}(w:World)(hx:NdV w v xs)(hl:xs.length<=100000):Calls prog 250 #[v] w fun e w'=>NdR w (⟨7,⟨#[]⟩,2⟩::xs) e w':=by
 obtain⟨A,c,rfl,E,B⟩:=hx;have D:=hid (fun W C h2 h3=>v5z (x:=⟨7,⟨#[]⟩,2⟩) (c:=c) w W C h2 h3 E B hl);clear E B hl;generalize xs.length=n at D⊢;go_in;go_wp2_with fail;refine(D.o _ (j1i w _ _) (z0k w _ _) (q7w w _ _)).mono ?_;rintro e I C;have G:=hid C;obtain⟨H,rfl,_,_⟩:=C.val;clear C;go_wp2;go_ret;exact G.o
theorem z0o{xs:List Nd}{v:Value}(w:World)(hx:NdV w v xs)(hl:xs.length<=100000):Calls prog 249 #[v] w fun e w'=>NdR w (⟨8,⟨#[]⟩,0⟩::xs) e w':=by
 obtain⟨A,c,rfl,E,B⟩:=hx;have D:=hid (fun W C h2 h3=>v5z (x:=⟨8,⟨#[]⟩,0⟩) (c:=c) w W C h2 h3 E B hl);clear E B hl;generalize xs.length=n at D⊢;go_in;go_wp2_with fail;refine(D.o _ (j1i w _ _) (z0k w _ _) (q7w w _ _)).mono ?_;rintro e I C;have G:=hid C;obtain⟨H,rfl,_,_⟩:=C.val;clear C;go_wp2;go_ret;exact G.o
theorem q1b{xs ys:List Nd}{v u:Value}(w:World)(hx:NdV w v xs)(hy:NdV w u ys)(hl:xs.length+ys.length<=100000):Calls prog 246 #[v,u] w fun e w'=>NdR w (⟨6,⟨#[]⟩,0⟩::(xs++ys)) e w':=by
 obtain⟨A,c,rfl,H,C⟩:=hx;obtain⟨J,c',rfl,G,B⟩:=hy;have E:=hid (fun W D h2 h3=>v0x (x:=⟨6,⟨#[]⟩,0⟩) (c:=c) (c':=c') w W D h2 h3 H C G B hl);clear H C G B hl;generalize xs.length=n at E⊢;generalize ys.length=m at E⊢;go_in;go_wp2_with fail;refine(E.o _ (j1i w _ _) (z0k w _ _) (q7w w _ _)).mono ?_;rintro e L D;have I:=hid D;obtain⟨K,rfl,_,_⟩:=D.val;clear D;go_wp2;go_ret;exact I.o
structure Ly(w0:World)(b:Nat)(ds:List Td)(w:World)(A:Option Addr)(c:Nat):Prop where
 x:w.heap[b]?=some (.cells #[.slice A ds.length c] 301 (0,0))
 le:ds.length<=c
 td:Tds w0 A ds
 bl:Below w0 w0 w
 lt:w0.heap.size<=b
def LyE(w0:World)(b:Nat)(ds:List Td)(w:World):Prop:=∃A c,Ly w0 b ds w A c
theorem Ly.in{w0:World}{b:Nat}{ds:List Td}{w:World}{A:Option Addr}{c:Nat}(h:Ly w0 b ds w A c):b<w.heap.size:=(Array.getElem?_eq_some_iff.1 h.x).1
theorem LyE.grew{w0:World}{b:Nat}{ds:List Td}{w w':World}(h:LyE w0 b ds w)(hb:Below w w w'):LyE w0 b ds w':=by
 obtain⟨A,c,h⟩:=h;exact⟨A,c,(hb.block b h.in).trans h.x,h.le,h.td,q0g h.bl Zl hb,h.lt⟩
structure Lk(w0:World)(b:Nat)(w:World)(rest:List Td)(wk:World):Prop where
 bt:But w b w wk
 ly:LyE w0 b rest wk
 lt:b<w.heap.size
theorem Lk.step{w0:World}{b:Nat}{w:World}{rest:List Td}{wk w':World}(h:Lk w0 b w rest wk)(hb:Below wk wk w'):Lk w0 b w rest w':=
 ⟨h.bt.trans (But.of (hb.mono h.bt.size)),h.ly.grew hb,h.lt⟩
theorem Lk.in{w0:World}{b:Nat}{w:World}{rest:List Td}{wk:World}(h:Lk w0 b w rest wk):b<wk.heap.size:=Nat.lt_of_lt_of_le h.lt h.bt.size
def NdB(b:Nat)(w:World)(v:Value)(xs:List Nd):Prop:=∃A c B,v=.slice A xs.length c/\b<B/\q8e B (.slice A xs.length c) xs w
theorem NdB.but{b:Nat}{w w':World}{v:Value}{xs:List Nd}(h:NdB b w v xs)(hb:But w b w w'):NdB b w' v xs:=by
 obtain⟨A,c,B,e,C,D⟩:=h;exact⟨A,c,B,e,C,D.kept fun g h1 h2=>hb.block g h2 (by omega)⟩
theorem NdB.bel{b:Nat}{w w':World}{v:Value}{xs:List Nd}(h:NdB b w v xs)(hb:Below w w w'):NdB b w' v xs:=h.but (.of hb)
theorem NdB.val{b:Nat}{w:World}{v:Value}{xs:List Nd}(h:NdB b w v xs):NdV w v xs:=by
 obtain⟨A,c,B,rfl,D,C⟩:=h;exact C.val
theorem NdR.valB{w:World}{xs:List Nd}{e:Ending}{w':World}{b:Nat}(h:NdR w xs e w')(hb:b<w.heap.size):∃v,e=.returned v/\NdB b w' v xs/\Below w w w':=by
 obtain⟨A,c,e,B,C⟩:=h;exact⟨_,e,⟨A,c,_,rfl,hb,B⟩,C⟩
def NdG(w0:World)(b:Nat)(w:World)(xs:List Nd)(rest:List Td)(e:Ending)(w':World):Prop:=∃A c,e=.returned (.slice A xs.length c)/\q8e w.heap.size (.slice A xs.length c) xs w'/\Lk w0 b w rest w'
theorem NdR.gof{w0:World}{b:Nat}{w wk:World}{xs:List Nd}{rest:List Td}{e:Ending}{w':World}(h:NdR wk xs e w')(hk:Lk w0 b w rest wk):NdG w0 b w xs rest e w':=by
 obtain⟨A,c,e,B,C⟩:=h;exact⟨A,c,e,B.down hk.bt.size,hk.step C⟩
theorem NdG.val{w0:World}{b:Nat}{w:World}{xs:List Nd}{rest:List Td}{e:Ending}{w':World}(h:NdG w0 b w xs rest e w'):∃v,e=.returned v/\NdB b w' v xs/\Lk w0 b w rest w':=by
 obtain⟨A,c,e,C,B⟩:=h;exact⟨_,e,⟨A,c,_,rfl,B.lt,C⟩,B⟩
theorem Lk.then{w0:World}{b:Nat}{w wk w':World}{r1 r2:List Td}(h:Lk w0 b w r1 wk)(k:Lk w0 b wk r2 w'):Lk w0 b w r2 w':=⟨h.bt.trans (k.bt.mono h.bt.size),k.ly,h.lt⟩
theorem NdG.then{w0:World}{b:Nat}{w wk w':World}{r1 r2:List Td}{xs:List Nd}{e:Ending}(h:Lk w0 b w r1 wk)(k:NdG w0 b wk xs r2 e w'):NdG w0 b w xs r2 e w':=by
 obtain⟨A,c,e,B,C⟩:=k;exact⟨A,c,e,B.down h.bt.size,h.then C⟩
theorem v8i{w:World}{k:Nat}{a a':Value}{T:TypeId}(h:w.heap[k]?=some (.cells #[a] T (0,0))):(w.setCell ⟨k,0,none⟩ a').heap[k]?=some (.cells #[a'] T (0,0)):=by
 simp[World.setCell,Array.getElem?_modify,h]
theorem q3j{w0:World}{b:Nat}{x:Td}{ds:List Td}{w:World}(h:LyE w0 b (x::ds) w):
  Calls prog 245 #[.pointer (some ⟨b,0,none⟩)] w fun e w'=>e=.returned (tdV x)/\Lk w0 b w ds w':=by
 obtain⟨A,c,h⟩:=h;obtain⟨C,J,rfl,B,K,L,M⟩:=h.td 0 (by simp);obtain⟨G,D,E⟩:=j8d h.td h.le;simp only[List.getElem_cons_zero,Nat.zero_mul,Nat.add_zero]at K L M;obtain⟨I,_⟩:=q0t h.bl;have a:w.cell? ⟨C,J,none⟩=some (.int .i64 x.op):=(I _ _ B).trans K;have d:w.cell? ⟨C,J+1,none⟩=some (.string x.tx):=(I _ _ B).trans L;have f:w.cell? ⟨C,J+2,none⟩=some (.int .i64 x.n):=(I _ _ B).trans M;have N:b<w.heap.size:=h.in;have Z:C<w.heap.size:=Nat.lt_of_lt_of_le B h.bl.size;have U:w.cell? ⟨b,0,none⟩=some (.slice (some ⟨C,J,none⟩) (x::ds).length c):=by rw[Lib.cell_of_heap h.x];rfl
 have g:w.frozen? ⟨b,0,none⟩=false:=Lib.frozen_of_heap h.x 0;have X:¬C=b:=by have:=h.lt;omega
 have H:=hid h;have S:Hid (Tds w0 G ds):=E;have O:=h.le;generalize Q:(x::ds).length=n at U D O;have V:0<n:=by rw[<-Q];simp
 clear h E K L M I Q;generalize P:ds.length=m at D;have R:Hid (ds.length=m):=P;clear P;go_in;go_wp2;refine bodyPost_ret (v:=tdV x) (by simp[results,Tryz.results245,go_sem]) rfl ?_;have h:=H.o
 have Y:LyE w0 b ds (w.setCell ⟨b,0,none⟩ (.slice G m (c-1))):=by
  refine⟨G,c-1,?_,?_,S.o,h.bl.setCell (p:=⟨b,0,none⟩) h.lt _,h.lt⟩
  ·rw[R.o];exact v8i h.x
  ·have:=h.le;simp only[List.length_cons]at this;omega
 have W:Lk w0 b w ds (w.setCell ⟨b,0,none⟩ (.slice G m (c-1))):=⟨(But.refl _ _ _).setCell (p:=⟨b,0,none⟩) (.inl rfl) _,Y,N⟩;exact⟨rfl,W.step (j1i _ _ _)⟩
theorem v5n(n:Nat)(ws:List ByteArray)(hn:ws.length=n)(a:Option Addr)(A:Nat)(w:World)(h0:ws≠[])(hF:Few ws)(hW:Wds w a ws):
  Calls prog 223 #[.slice a n A] w fun e w'=>e=.returned (.int .i64 (ln ws))/\w=w':=by
 subst hn;exact j9j ws a A w h0 hF hW
structure Lst(wd:Nat)(ws:List ByteArray)(bL bF k:Nat)(w:World):Prop where
 ne:bL≠bF
 rl:k1o w bL (ws.length+1)
 rf:k1o w bF ws.length
 cl:∀j,k<=j->j<=ws.length->w.cell? ⟨bL,j,none⟩=some (.int .i64 ((best wd (ws.drop j):Nat):Int))
 cf:∀j,k<=j->j<ws.length->w.cell? ⟨bF,j,none⟩=some (.int .i64 ((agF wd (ws.drop j):Nat):Int))
theorem Lst.kept{wd:Nat}{ws:List ByteArray}{bL bF k:Nat}{w w':World}(h:Lst wd ws bL bF k w)(h1:w'.heap[bL]?=w.heap[bL]?)(h2:w'.heap[bF]?=w.heap[bF]?):Lst wd ws bL bF k w' where
 ne:=h.ne
 rl:=h.rl.kept h1
 rf:=h.rf.kept h2
 cl:=fun j a b=>(World.cell?_of_block (w:=w) (a:=⟨bL,j,none⟩) h1).trans (h.cl j a b)
 cf:=fun j a b=>(World.cell?_of_block (w:=w) (a:=⟨bF,j,none⟩) h2).trans (h.cf j a b)
theorem Lst.made(wd:Nat)(ws:List ByteArray)(w:World):
  Lst wd ws w.heap.size (w.heap.size+1) ws.length ((w.alloc (.cells (madeCells #[.int .i64 0] (ws.length+1)) 3)).alloc (.cells (madeCells #[.int .i64 0] ws.length) 3)):=by
 have A:((w.alloc (.cells (madeCells #[.int .i64 0] (ws.length+1)) 3)).alloc (.cells (madeCells #[.int .i64 0] ws.length) 3)).heap[w.heap.size]?=some (.cells (madeCells #[.int .i64 0] (ws.length+1)) 3 (0,0)):=
  (Below.heap_alloc _ _ _ (by simp)).trans (heap_alloc_new w _)
 have B:((w.alloc (.cells (madeCells #[.int .i64 0] (ws.length+1)) 3)).alloc (.cells (madeCells #[.int .i64 0] ws.length) 3)).heap[w.heap.size+1]?=some (.cells (madeCells #[.int .i64 0] ws.length) 3 (0,0)):=by
  have:=heap_alloc_new (w.alloc (.cells (madeCells #[.int .i64 0] (ws.length+1)) 3)) (.cells (madeCells #[.int .i64 0] ws.length) 3)
  simpa using this
 refine⟨by omega,⟨_,_,A,size_madeCells _ _⟩,⟨_,_,B,size_madeCells _ _⟩,fun j a b=>?_,fun j a b=>by omega⟩;obtain rfl:j=ws.length:=by omega
 have:best wd (ws.drop ws.length)=0:=by rw[List.drop_length];rfl
 rw[this];simp only[World.cell?,A];exact j5t _ (by omega)
structure Mid(wd:Nat)(ws:List ByteArray)(bL bF i m:Nat)(w:World):Prop where
 l:Lst wd ws bL bF (i+1) w
 c:1<=m->w.cell? ⟨bL,i,none⟩=some (.int .i64 ((z4l (fOf wd (ws.drop i)) m:Nat):Int))/\w.cell? ⟨bF,i,none⟩=some (.int .i64 ((j9x (fOf wd (ws.drop i)) m:Nat):Int))
theorem Mid.kept{wd:Nat}{ws:List ByteArray}{bL bF i m:Nat}{w w':World}(h:Mid wd ws bL bF i m w)(h1:w'.heap[bL]?=w.heap[bL]?)(h2:w'.heap[bF]?=w.heap[bF]?):Mid wd ws bL bF i m w' where
 l:=h.l.kept h1 h2
 c:=fun hm=>⟨(World.cell?_of_block (w:=w) (a:=⟨bL,i,none⟩) h1).trans (h.c hm).1,(World.cell?_of_block (w:=w) (a:=⟨bF,i,none⟩) h2).trans (h.c hm).2⟩
theorem Mid.start{wd:Nat}{ws:List ByteArray}{bL bF i:Nat}{w:World}(h:Lst wd ws bL bF (i+1) w):Mid wd ws bL bF i 0 w:=⟨h,fun hm=>by omega⟩
theorem Mid.skip{wd:Nat}{ws:List ByteArray}{bL bF i m:Nat}{w:World}(h:Mid wd ws bL bF i m w)(h1:¬(m=0\/fOf wd (ws.drop i) (m+1)<=z4l (fOf wd (ws.drop i)) m)):Mid wd ws bL bF i (m+1) w:=by
 refine⟨h.l,fun _=>?_⟩;rw[z4l,j9x,if_neg h1,if_neg h1];exact h.c (by omega)
theorem Mid.put{wd:Nat}{ws:List ByteArray}{bL bF i m:Nat}{w:World}(h:Mid wd ws bL bF i m w)(hi:i<ws.length)(h1:m=0\/fOf wd (ws.drop i) (m+1)<=z4l (fOf wd (ws.drop i)) m):
  Mid wd ws bL bF i (m+1) ((w.setCell ⟨bL,i,none⟩ (.int .i64 ((fOf wd (ws.drop i) (m+1):Nat):Int))).setCell ⟨bF,i,none⟩ (.int .i64 ((m:Int)+1))):=by
 have ne:=h.l.ne;refine⟨⟨ne,h.l.rl.set.set,h.l.rf.set.set,fun j a b=>?_,fun j a b=>?_⟩,fun _=>?_⟩
 ·exact(cso (.inl (Ne.symm ne))).trans ((cso (.inr (by omega))).trans (h.l.cl j a b))
 ·exact(cso (.inr (by omega))).trans ((cso (.inl ne)).trans (h.l.cf j a b))
 ·rw[z4l,j9x,if_pos h1,if_pos h1];obtain⟨C,A⟩:=h.l.rl.cell (i:=i) (by omega);obtain⟨D,B⟩:=h.l.rf.cell (i:=i) hi;exact⟨(cso (.inl (Ne.symm ne))).trans (css A),css ((cso (.inl ne)).trans B)⟩
theorem Mid.done{wd:Nat}{ws:List ByteArray}{bL bF i m:Nat}{w:World}(h:Mid wd ws bL bF i m w)(hi:i<ws.length)(hm:m=ws.length-i):Lst wd ws bL bF i w:=by
 have A:ws.drop i≠[]:=fun e=>by
  have:=congrArg List.length e
  rw[List.length_drop,List.length_nil]at this;omega
 obtain⟨B,C⟩:=h.c (by omega);refine⟨h.l.ne,h.l.rl,h.l.rf,fun j a b=>?_,fun j a b=>?_⟩
 ·by_cases e:j=i
  ·subst e;rw[j1m wd A,List.length_drop,<-hm];exact B
  ·exact h.l.cl j (by omega) b
 ·by_cases e:j=i
  ·subst e;rw[agF,List.length_drop,<-hm];exact C
  ·exact h.l.cf j (by omega) b
theorem y4h(wd:Nat)(ws:List ByteArray)(i k:Nat):fOf wd (ws.drop i) k=bd (ln ((ws.drop i).take k)) wd (k==ws.length-i)+best wd (ws.drop (i+k)):=by
 rw[fOf,List.drop_drop,List.length_drop]
end Go.Proofs.YtelcnplcpboonaaGreatDoor
