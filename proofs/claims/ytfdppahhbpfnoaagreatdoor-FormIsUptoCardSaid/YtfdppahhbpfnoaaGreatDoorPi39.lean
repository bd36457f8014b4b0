import Derived.Test.YtfdppahhbpfnoaaGreatDoorPi35
import Derived.Test.YtfdppahhbpfnoaaGreatDoorPi29
import Derived.Recover
open Go.Proofs.Tryz
namespace Go.Proofs.YtfdppahhbpfnoaaGreatDoor
open Go Go.RowKit
def F1(R:List Pl)(k:Nat):Nat->Q:=fun j=>if k<=j then q1 (q1o R j)else q0
theorem v8r{R:List Pl}{i:Nat}:upd (F1 R (i+1)) i (q1 (q1o R i))=F1 R i:=by
 funext j
 simp only[upd,F1];by_cases e:j=i
 ·subst e;simp
 ·by_cases h:i+1<=j
  ·rw[if_neg e,if_pos h,if_pos (by omega)]
  ·rw[if_neg e,if_neg h,if_neg (by omega)]
structure Tl(R:List Pl)(L M i:Nat)(F:Nat->Q):Prop where
 op:∀j,j<R.length->(F j).op=(q1o R j).nd.op
 tx:∀j,j<R.length->(F j).tx=(q1o R j).nd.tx
 n:∀j,j<R.length->(F j).n=(q1o R j).nd.n
 en:∀j,j<R.length->(F j).en=(q1o R j).en
 nx:∀j,j<R.length->(j=0\/∃p,p<i/\j1m R L M p j)->(F j).nx=(q1o R j).nx
 dp:∀j,j<R.length->(j=0\/∃p,p<i/\j1m R L M p j)->(F j).dp=(q1o R j).dp
 lg:∀j,j<R.length->j<i->(F j).lg=(q1o R j).lg
 l0:∀j,j<R.length->i<=j->(F j).lg=0
theorem Tl.tell{R:List Pl}{L M i j:Nat}{F:Nat->Q}{x y:Int}(h:Tl R L M i F)(hx:x=(q1o R j).nx)(hy:y=(q1o R j).dp):Tl R L M i (upd F j {F j with nx:=x,dp:=y}) where
 op k hk:=by by_cases e:k=j;subst e;rw[q0m];exact h.op k hk;rw[q1j e];exact h.op k hk
 tx k hk:=by by_cases e:k=j;subst e;rw[q0m];exact h.tx k hk;rw[q1j e];exact h.tx k hk
 n k hk:=by by_cases e:k=j;subst e;rw[q0m];exact h.n k hk;rw[q1j e];exact h.n k hk
 en k hk:=by by_cases e:k=j;subst e;rw[q0m];exact h.en k hk;rw[q1j e];exact h.en k hk
 nx k hk hp:=by by_cases e:k=j;subst e;rw[q0m];exact hx;rw[q1j e];exact h.nx k hk hp
 dp k hk hp:=by by_cases e:k=j;subst e;rw[q0m];exact hy;rw[q1j e];exact h.dp k hk hp
 lg k hk hp:=by by_cases e:k=j;subst e;rw[q0m];exact h.lg k hk hp;rw[q1j e];exact h.lg k hk hp
 l0 k hk hp:=by by_cases e:k=j;subst e;rw[q0m];exact h.l0 k hk hp;rw[q1j e];exact h.l0 k hk hp
theorem Tl.next{R:List Pl}{L M i:Nat}{F:Nat->Q}(h:Tl R L M i F)(hp:∀j,j<R.length->j1m R L M i j->(F j).nx=(q1o R j).nx/\(F j).dp=(q1o R j).dp)(hl:(F i).lg=(q1o R i).lg):Tl R L M (i+1) F where
 op:=h.op
 tx:=h.tx
 n:=h.n
 en:=h.en
 nx k hk hq:=by
  rcases hq with e|⟨p,B,A⟩
  ·exact h.nx k hk (.inl e)
  ·by_cases e:p=i
   ·subst e;exact(hp k hk A).1
   ·exact h.nx k hk (.inr ⟨p,by omega,A⟩)
 dp k hk hq:=by
  rcases hq with e|⟨p,B,A⟩
  ·exact h.dp k hk (.inl e)
  ·by_cases e:p=i
   ·subst e;exact(hp k hk A).2
   ·exact h.dp k hk (.inr ⟨p,by omega,A⟩)
 lg k hk hq:=by
  by_cases e:k=i
  ·subst e;exact hl
  ·exact h.lg k hk (by omega)
 l0 k hk hq:=h.l0 k hk (by omega)
theorem Tl.setLg{R:List Pl}{L M i:Nat}{F:Nat->Q}{x:Int}(h:Tl R L M i F):Tl R L M i F->∀k,k<R.length->(upd F i {F i with lg:=x} k).op=(F k).op/\(upd F i {F i with lg:=x} k).tx=(F k).tx/\(upd F i {F i with lg:=x} k).n=(F k).n/\(upd F i {F i with lg:=x} k).en=(F k).en/\(upd F i {F i with lg:=x} k).nx=(F k).nx/\(upd F i {F i with lg:=x} k).dp=(F k).dp:=by
 intro _ k _;by_cases e:k=i
 ·subst e;rw[q0m];exact⟨rfl,rfl,rfl,rfl,rfl,rfl⟩
 ·rw[q1j e];exact⟨rfl,rfl,rfl,rfl,rfl,rfl⟩
theorem Tl.nextLg{R:List Pl}{L M i:Nat}{F:Nat->Q}(h:Tl R L M i F)(hp:∀j,j<R.length->j1m R L M i j->(F j).nx=(q1o R j).nx/\(F j).dp=(q1o R j).dp):Tl R L M (i+1) (upd F i {F i with lg:=(q1o R i).lg}) where
 op k hk:=by rw[(h.setLg h k hk).1];exact h.op k hk
 tx k hk:=by rw[(h.setLg h k hk).2.1];exact h.tx k hk
 n k hk:=by rw[(h.setLg h k hk).2.2.1];exact h.n k hk
 en k hk:=by rw[(h.setLg h k hk).2.2.2.1];exact h.en k hk
 nx k hk hq:=by
  rw[(h.setLg h k hk).2.2.2.2.1];rcases hq with e|⟨p,B,A⟩
  ·exact h.nx k hk (.inl e)
  ·by_cases e:p=i
   ·subst e;exact(hp k hk A).1
   ·exact h.nx k hk (.inr ⟨p,by omega,A⟩)
 dp k hk hq:=by
  rw[(h.setLg h k hk).2.2.2.2.2];rcases hq with e|⟨p,B,A⟩
  ·exact h.dp k hk (.inl e)
  ·by_cases e:p=i
   ·subst e;exact(hp k hk A).2
   ·exact h.dp k hk (.inr ⟨p,by omega,A⟩)
 lg k hk hq:=by
  by_cases e:k=i
  ·subst e;rw[q0m]
  ·rw[q1j e];exact h.lg k hk (by omega)
 l0 k hk hq:=by rw[q1j (by omega)];exact h.l0 k hk (by omega)
theorem Tl.all{t:Tr}{F:Nat->Q}(ht:t.Wf)(h:Tl (q0a t) t.lf t.dsum (q0a t).length F):∀j,j<(q0a t).length->F j=q2 (q1o (q0a t) j):=by
 intro j A
 have C:j=0\/∃p,p<(q0a t).length/\j1m (q0a t) t.lf t.dsum p j:=by
  rcases Nat.eq_zero_or_pos j with e|e
  ·exact .inl e
  ·obtain⟨p,L,B⟩:=k2c ht e A;exact .inr ⟨p,by omega,B⟩
 have D:=h.op j A;have E:=h.tx j A;have G:=h.n j A;have H:=h.en j A;have I:=h.nx j A C;have J:=h.dp j A C;have K:=h.lg j A A;unfold q2;rw[<-D,<-E,<-G,<-H,<-I,<-J,<-K]
theorem Tl.start{t:Tr}:Tl (q0a t) t.lf t.dsum 0 (upd (F1 (q0a t) 0) 0 {F1 (q0a t) 0 0 with nx:=t.sz}):=by
 have A:∀j,F1 (q0a t) 0 j=q1 (q1o (q0a t) j):=fun j=>by simp[F1]
 have C:q1o (q0a t) 0=z6u t 0 t.sz 0 []:=by
  obtain⟨r,e⟩:=j8q t 0 t.sz 0 [];rw[q1o,List.getD,q0a,e];rfl
 have B:∀(P:Q->Prop)k,(k=0->P {F1 (q0a t) 0 0 with nx:=t.sz})->(k≠0->P (F1 (q0a t) 0 k))->P (upd (F1 (q0a t) 0) 0 {F1 (q0a t) 0 0 with nx:=t.sz} k):=by
  intro P k D E;by_cases e:k=0
  ·subst e;rw[q0m];exact D rfl
  ·rw[q1j e];exact E e
 refine⟨fun j _=>?_,fun j _=>?_,fun j _=>?_,fun j _=>?_,fun j _ hq=>?_,fun j _ hq=>?_,fun j _ hq=>?_,fun j _ _=>?_⟩
 ·refine B (fun q=>q.op=_) j (fun e=>?_) (fun _=>?_)
  ·subst e;rw[A];rfl
  ·rw[A];rfl
 ·refine B (fun q=>q.tx=_) j (fun e=>?_) (fun _=>?_)
  ·subst e;rw[A];rfl
  ·rw[A];rfl
 ·refine B (fun q=>q.n=_) j (fun e=>?_) (fun _=>?_)
  ·subst e;rw[A];rfl
  ·rw[A];rfl
 ·refine B (fun q=>q.en=_) j (fun e=>?_) (fun _=>?_)
  ·subst e;rw[A];rfl
  ·rw[A];rfl
 ·rcases hq with e|⟨p,G,_⟩
  ·subst e;rw[q0m,C];rfl
  ·omega
 ·rcases hq with e|⟨p,G,_⟩
  ·subst e;rw[q0m,A,C];rfl
  ·omega
 ·omega
 ·refine B (fun q=>q.lg=0) j (fun e=>?_) (fun _=>?_)
  ·rw[A];rfl
  ·rw[A];rfl
theorem v9l{R:List Pl}{L M i nx dp:Nat}{ks:List (Nat × Tr)}{t:Tr}(bp g:Nat)(F:Nat->Q)(w:World)(hR:R.length<=400)(hM:M<=3200)(h:Sp R L M i t nx dp ks)(hT:Tl R L M i F)(h0:i=0\/∃p,p<i/\j1m R L M p i)(c:bp≠g)
  (c0:w.cell? ⟨bp,0,none⟩=some (.slice (some ⟨g,0,none⟩) R.length R.length)) (hp:PwR w g R.length F):
  Calls prog 161 #[.pointer (some ⟨bp,0,none⟩),.int .i64 i] w fun e w'=>e=.returned (.tuple #[])/\(∃F',PwR w' g R.length F'/\Tl R L M i F'/\∀j,j<R.length->j1m R L M i j->(F' j).nx=(q1o R j).nx/\(F' j).dp=(q1o R j).dp)/\q0v w g w w':=by
 have d:=h.lt;have W:=h.at;have I:=hT.op i d;have s:=hT.n i d;have S:=hT.nx i d h0;have O:=hT.dp i d h0;rw[W]at I s S O;have v:=h.bd;cases t with
 | leaf x=>
  have B:(F i).op=x.op:=I
  have J:∀k:Int,k=6\/k=9\/k=7\/k=8->((F i).op==k)=false:=fun k hk=>beq_eq_false_iff_ne.2 (by
   rw[B]
   rcases q3y h.wf.1 h.wf.2 with e|e|e|e|e<;>omega)
  refine(v1v bp g R.length i F w d c0 hp (J 6 (by omega)) (J 9 (by omega)) (J 7 (by omega)) (J 8 (by omega))).mono ?_;rintro e q⟨rfl,U,V⟩;refine⟨rfl,⟨F,U,hT,fun j hj hpt=>?_⟩,V⟩;rcases hpt with⟨f,X,_,_,_,C,_⟩|⟨f,X,r,_,_,_,C,_⟩
  ·have:=C.at;rw[W]at this;simp[z6u]at this
  ·have:=C.at;rw[W]at this;simp[z6u]at this
 | one x a=>
  have B:(F i).op=x.op:=I;have l:(F i).n=x.n:=s;have D:(F i).nx=(nx:Int):=S;have A:(F i).dp=(dp:Int):=O;have C:=h.one;have y:0<=x.n/\x.n<=8:=by have:=q2a h.wf.1;omega
  have u:IntKind.i64.wrap ((F i).dp+(F i).n)=((dp+x.n.toNat:Nat):Int):=by
   rw[A,l,IntKind.wrap_i64];omega
  refine(v9m bp g R.length i F w hR C.lt c0 hp (by rw[B];exact q8d h.wf.2.1) _ u).mono ?_;rintro e q⟨rfl,U,V⟩;have K:(F i).nx=(q1o R (i+1)).nx:=by rw[D,C.at];rfl
  have N:((dp+x.n.toNat:Nat):Int)=(q1o R (i+1)).dp:=by rw[C.at];rfl
  refine⟨rfl,⟨_,U,hT.tell K N,fun j hj hpt=>?_⟩,V⟩
  have m:j=i+1:=by
   rcases hpt with⟨f,X,_,_,_,E,e⟩|⟨f,X,r,_,_,_,E,_⟩
   ·exact e
   ·have:=E.at;rw[W]at this;simp[z6u]at this
  subst m;rw[q0m];exact⟨K,N⟩
 | two x a b=>
  have B:(F i).op=x.op:=I;have D:(F i).nx=(nx:Int):=S;have A:(F i).dp=(dp:Int):=O;have G:=h.two2
  have H:∀j,j1m R L M i j->j=i+1\/j=i+1+a.sz:=fun j hpt=>by
   rcases hpt with⟨f,X,_,_,_,E,_⟩|⟨f,X,r,_,_,_,E,e⟩
   ·have:=E.at;rw[W]at this;simp[z6u]at this
   ·have:=E.at
    rw[W]at this;simp only[z6u,Pl.mk.injEq,Tr.two.injEq]at this;rw[this.2.2.2.2.2.1.2.1];exact e
  rcases q7p h.wf.2.1 with e|e
  ·have C:=h.both1 e;have P:(F (i+1)).en=((i+1+a.sz:Nat):Int):=by rw[hT.en _ C.lt,C.at];rfl
   refine(v9n bp g R.length i (i+1+a.sz) F w hR C.lt G.lt c c0 hp (by rw[B,e]) P).mono ?_;rintro e q⟨rfl,U,V⟩;have K:((i+1+a.sz:Nat):Int)=(q1o R (i+1)).nx:=by rw[C.at];rfl
   have N:(F i).dp=(q1o R (i+1)).dp:=by rw[A,C.at];rfl
   have Y:(F i).nx=(q1o R (i+1+a.sz)).nx:=by rw[D,G.at];rfl
   have Z:(F i).dp=(q1o R (i+1+a.sz)).dp:=by rw[A,G.at];rfl
   refine⟨rfl,⟨_,U,(hT.tell K N).tell Y Z,fun j hj hpt=>?_⟩,V⟩;have o:=k7v a;rcases H j hpt with rfl|rfl
   ·rw[q1j (by omega),q0m];exact⟨K,N⟩
   ·rw[q0m];exact⟨Y,Z⟩
  ·have C:=h.either1 (by omega);have P:(F (i+1)).en=((i+1+a.sz:Nat):Int):=by rw[hT.en _ C.lt,C.at];rfl
   refine(v1w bp g R.length i (i+1+a.sz) F w hR C.lt G.lt c c0 hp (by rw[B,e]) P).mono ?_;rintro e q⟨rfl,U,V⟩;have K:(F i).nx=(q1o R (i+1)).nx:=by rw[D,C.at];rfl
   have N:(F i).dp=(q1o R (i+1)).dp:=by rw[A,C.at];rfl
   have Y:(F i).nx=(q1o R (i+1+a.sz)).nx:=by rw[D,G.at];rfl
   have Z:(F i).dp=(q1o R (i+1+a.sz)).dp:=by rw[A,G.at];rfl
   refine⟨rfl,⟨_,U,(hT.tell K N).tell Y Z,fun j hj hpt=>?_⟩,V⟩;have o:=k7v a;rcases H j hpt with rfl|rfl
   ·rw[q1j (by omega),q0m];exact⟨K,N⟩
   ·rw[q0m];exact⟨Y,Z⟩
abbrev q5r:Array Value:=#[.int .i64 0,.string ⟨#[]⟩,.int .i64 0,.int .i64 0,.int .i64 0,.int .i64 0,.int .i64 0]
theorem j8p:(prog.info? 222).map (fun i=>(i.zero,i.size,i.bytes))=some (some (.agg q5r),7,64):=by kernel_rfl
theorem z8r{z:Array Value}{n k:Nat}(h:k<n):(madeCells z n)[k]?=some (z[k % z.size]!):=by
 simp[madeCells,h]
theorem y1a{w:World}{g n:Nat}(h:w.heap[g]?=some (.cells (madeCells q5r (n*7)) 222 (0,0))):PwR w g n (fun _=>q0) where
 get j hj:=by
  have A:∀f,f<7->w.cell? ⟨g,j*7+f,none⟩=some (q5r[f]!):=fun f hf=>by
   simp only[World.cell?,h];rw[z8r (by omega),show q5r.size=7 from rfl,show(j*7+f) % 7=f by omega];rfl
  exact⟨A 0 (by omega),A 1 (by omega),A 2 (by omega),A 3 (by omega),A 4 (by omega),A 5 (by omega),A 6 (by omega)⟩
 row:=⟨_,_,h⟩
theorem j2q(n:Nat)(hn:n<=400)(W:World):(Instr.makeSlice 164 (.int .i64 (n:Int)) (.int .i64 (n:Int))).run prog W=.ok (.slice (some ⟨W,0,none⟩) n n) (W.alloc (.cells (madeCells q5r (n*7)) 222)):=by
 obtain⟨i,B,D,C,A⟩:=info_parts j8p
 have:=run_make (P:=prog) W 164 222 i _ Tryz.underlying164 B D .i64 .i64 n n (by omega) (by omega) (by rw[A];omega) (by omega)
 rw[C,Int.toNat_natCast]at this;exact this
theorem v1m{R:List Pl}{L M i nx dp:Nat}{ks:List (Nat × Tr)}{t:Tr}(bp g:Nat)(F:Nat->Q)(w:World)(hR:R.length<=400)(h:Sp R L M i t nx dp ks)(I:(F i).op=(q1o R i).nd.op)(D:∀j,i<j->j<R.length->(F j).en=(q1o R j).en)
  (c0:w.cell? ⟨bp,0,none⟩=some (.slice (some ⟨g,0,none⟩) R.length R.length)) (hp:PwR w g R.length F):
  Calls prog 160 #[.pointer (some ⟨bp,0,none⟩),.int .i64 i] w fun e w'=>e=.returned (.int .i64 (q1o R i).en)/\∃q,w'=w.drewN q:=by
 have H:(i:Int)<(R.length:Nat):=by have:=h.lt;omega
 have E:=(hp.get i h.lt).c0;rw[I]at E;have K:=h.at;rw[K]at E⊢;cases t with
 | leaf x=>
  have A:∀k:Int,k=6\/k=9\/k=7\/k=8->(x.op==k)=false:=fun k hk=>beq_eq_false_iff_ne.2 (by
   rcases q3y h.wf.1 h.wf.2 with e|e|e|e|e<;>omega)
  exact j2k bp g R.length i x.op w hR H c0 E (A 6 (by omega)) (A 9 (by omega)) (A 7 (by omega)) (A 8 (by omega))
 | one x a=>
  have B:=h.one;have G:=(hp.get (i+1) B.lt).c3;rw[D (i+1) (by omega) B.lt,B.at]at G
  have e:(z6u (Tr.one x a) i nx dp ks).en=(z6u a (i+1) nx (dp+x.n.toNat) ks).en:=by
   show i+(Tr.one x a).sz=i+1+a.sz;rw[k2m];omega
  rw[e];exact v1n bp g R.length i x.op _ w hR H (by have:=B.lt;omega) c0 E G (q8d h.wf.2.1)
 | two x a b=>
  obtain⟨O,N,B⟩:=h.two1;have C:=h.two2;have G:=(hp.get (i+1) B.lt).c3;rw[D (i+1) (by omega) B.lt,B.at]at G;have J:=(hp.get (i+1+a.sz) C.lt).c3;rw[D (i+1+a.sz) (by omega) C.lt,C.at]at J
  have e:(z6u (Tr.two x a b) i nx dp ks).en=(z6u b (i+1+a.sz) nx dp ks).en:=by
   show i+(Tr.two x a b).sz=i+1+a.sz+b.sz;rw[z4y];omega
  rw[e];exact v1o bp g R.length i (i+1+a.sz) x.op _ w hR H (by have:=B.lt;omega) (by have:=C.lt;omega) c0 E G J (q7p h.wf.2.1)
structure NP(w0 w:World)(wd n:Nat):Prop where
 c0:w.cell? ⟨w0.heap.size+1+1,0,none⟩=some (.slice (some ⟨w0.heap.size+1,0,none⟩) n n)
 c1:w.cell? ⟨w0.heap.size+1+1,1,none⟩=some (.int .i64 wd)
 r0:w.cell? ⟨w0,0,none⟩=some (.slice none 0 0)
 r1:w.cell? ⟨w0,1,none⟩=some (.int .i64 0)
 f0:q7u w w0.heap.size
 bw:Below w0 w0 w
theorem NP.belX{w0 w w':World}{wd n B:Nat}(h:NP w0 w wd n)(hb:q0v B (w0.heap.size+1) w w')(hB:w0.heap.size+1+1+1<=B):NP w0 w' wd n where
 c0:=(hb.cell (p:=⟨w0.heap.size+1+1,0,none⟩) (by simp;omega) (by simp)).trans h.c0
 c1:=(hb.cell (p:=⟨w0.heap.size+1+1,1,none⟩) (by simp;omega) (by simp)).trans h.c1
 r0:=(hb.cell (p:=⟨w0,0,none⟩) (by simp;omega) (by simp)).trans h.r0
 r1:=(hb.cell (p:=⟨w0,1,none⟩) (by simp;omega) (by simp)).trans h.r1
 f0:=h.f0.kept (hb.block _ (by omega) (by omega))
 bw:=h.bw.trans ((hb.mono (B':=w0.heap.size) (by omega)).W (by omega))
theorem NP.same{w0 w w':World}{wd n:Nat}(h:NP w0 w wd n)(e1:w'.heap=w.heap)(e2:w'.os=w.os)(e3:w'.tape=w.tape)(e4:w'.output=w.output):NP w0 w' wd n:=
 h.belX (B:=w0.heap.size+1+1+1) ⟨e2,e3,e4,by rw[e1];exact Nat.le_refl _,fun k _ _=>by rw[e1]⟩ (by omega)
theorem NP.lt{w0 w:World}{wd n:Nat}(h:NP w0 w wd n):w0.heap.size+1+1<w.heap.size:=World.block_lt_of_cell? w ⟨w0.heap.size+1+1,0,none⟩ h.c0
theorem v5b{t t':Tr}{i nx dp:Nat}{ks:List (Nat × Tr)}{ds:List Nd}(hd:ds=t.N)(h:Sp (q0a t) t.lf t.dsum i t' nx dp ks):∃r,ds.drop i=t'.N++r:=by
 obtain⟨A,e⟩:=h.pl;refine⟨A.map (·.nd),?_⟩;have B:(q0a t).map (·.nd)=ds:=by rw[hd];exact z2d t _ _ _ _
 rw[<-B,<-List.map_drop,e,List.map_append,z2d]
theorem y2u{w:World}{B g o:Nat}{v:Value}:q0v B g w (w.setCell ⟨g,o,none⟩ v):=(q0v.refl B g w).setCell (p:=⟨g,o,none⟩) (.inl rfl) v
theorem v4b(w0:World)(wd n:Nat):NP w0 (((w0.alloc (.cells #[.slice none 0 0,.int .i64 0] 166)).alloc (.cells (madeCells q5r (n*7)) 222)).alloc (.cells #[.slice (some ⟨w0.heap.size+1,0,none⟩) n n,.int .i64 wd] 166)) wd n/\PwR (((w0.alloc (.cells #[.slice none 0 0,.int .i64 0] 166)).alloc (.cells (madeCells q5r (n*7)) 222)).alloc (.cells #[.slice (some ⟨w0.heap.size+1,0,none⟩) n n,.int .i64 wd] 166)) (w0.heap.size+1) n (fun _=>q0):=by
 have D:=heap_alloc_new w0 (.cells #[.slice none 0 0,.int .i64 0] 166);have B:=heap_alloc_new (w0.alloc (.cells #[.slice none 0 0,.int .i64 0] 166)) (.cells (madeCells q5r (n*7)) 222);have E:(w0.alloc (.cells #[.slice none 0 0,.int .i64 0] 166)).heap.size=w0.heap.size+1:=by simp
 rw[E]at B
 have A:(((w0.alloc (.cells #[.slice none 0 0,.int .i64 0] 166)).alloc (.cells (madeCells q5r (n*7)) 222)).alloc (.cells #[.slice (some ⟨w0.heap.size+1,0,none⟩) n n,.int .i64 wd] 166)).heap[w0.heap.size]?=some (.cells #[.slice none 0 0,.int .i64 0] 166 (0,0)):=
  (Below.heap_alloc _ _ _ (by simp;omega)).trans ((Below.heap_alloc _ _ _ (by simp)).trans D)
 have C:(((w0.alloc (.cells #[.slice none 0 0,.int .i64 0] 166)).alloc (.cells (madeCells q5r (n*7)) 222)).alloc (.cells #[.slice (some ⟨w0.heap.size+1,0,none⟩) n n,.int .i64 wd] 166)).heap[w0.heap.size+1]?=some (.cells (madeCells q5r (n*7)) 222 (0,0)):=
  (Below.heap_alloc _ _ _ (by simp)).trans B
 exact⟨⟨by simp[go_sem],by simp[go_sem],by simp[World.cell?,A],by simp[World.cell?,A],⟨_,_,A⟩,(((Below.refl _ w0).alloc Zl _).alloc (by simp) _).alloc (by simp;omega) _⟩,y1a C⟩
set_option maxRecDepth 100000
set_option maxHeartbeats 8000000
theorem k0j(ds:List Nd)(t:Tr)(hd:ds=t.N)(ht:t.Wf)(hl:ds.length<=400)(a:Option Addr)(cap s wd:Nat)(A8:ds.length<=cap)(w:World)(hN:q1i s w a ds)(hs:s<w.heap.size):
  Calls prog 108 #[.slice a ds.length cap,.int .i64 wd] w fun e w'=>e=.returned (.agg #[.slice (some ⟨w.heap.size+1,0,none⟩) ds.length ds.length,.int .i64 wd])/\PwR w' (w.heap.size+1) ds.length (fun j=>q2 (q1o (q0a t) j))/\Below w w w':=by
 have Al:(q0a t).length=ds.length:=by rw[q2y,hd];rfl
 have Y:0<ds.length:=by rw[hd];exact t.pos
 have hm:∀W:World,(Instr.makeSlice 164 (.int .i64 (ds.length:Int)) (.int .i64 (ds.length:Int))).run prog W=.ok (.slice (some ⟨W,0,none⟩) ds.length ds.length) (W.alloc (.cells (madeCells q5r (ds.length*7)) 222)):=j2q ds.length hl;have Ah:Hid (∀W:World,NP W (((W.alloc (.cells #[.slice none 0 0,.int .i64 0] 166)).alloc (.cells (madeCells q5r (ds.length*7)) 222)).alloc (.cells #[.slice (some ⟨W.heap.size+1,0,none⟩) ds.length ds.length,.int .i64 wd] 166)) wd ds.length/\PwR (((W.alloc (.cells #[.slice none 0 0,.int .i64 0] 166)).alloc (.cells (madeCells q5r (ds.length*7)) 222)).alloc (.cells #[.slice (some ⟨W.heap.size+1,0,none⟩) ds.length ds.length,.int .i64 wd] 166)) (W.heap.size+1) ds.length (fun _=>q0)):=fun W=>v4b W wd ds.length
 have HD:Hid (ds=t.N):=hd;have HN:Hid (q1i s w a ds):=hN;have A:Hid ((q0a t).length=ds.length):=Al;clear hd hN Al
 have ea:∃o,a=some ⟨s,o,none⟩:=by
  obtain⟨o,e,_⟩:=HN.o 0 Y;exact⟨o,e⟩
 obtain⟨o,rfl⟩:=ea
 have Af:Hid (∀(W:World)i(h:i<ds.length),Below w w W->W.cell? ⟨s,o+i*3,none⟩=some (.int .i64 ds[i].op)/\W.cell? ⟨s,o+i*3+1,none⟩=some (.string ds[i].tx)/\W.cell? ⟨s,o+i*3+2,none⟩=some (.int .i64 ds[i].n)):=fun W i h hW=>by
  obtain⟨o',e,d⟩:=(HN.o.kept (hW.block s hs)) i h;simp only[Option.some.injEq,Addr.mk.injEq,and_true,true_and]at e;subst e;exact d
 have Ac:Hid (∀i(h:i<ds.length),(q1o (q0a t) i).nd=ds[i]):=fun i h=>by
  have e1:(q0a t).map (·.nd)=ds:=by rw[HD.o];exact z2d t _ _ _ _
  have S:i<(q0a t).length:=by rw[A.o];exact h
  have e2:((q0a t).map (·.nd))[i]?=some ds[i]:=by rw[e1];exact List.getElem?_eq_getElem h
  rw[List.getElem?_map,List.getElem?_eq_getElem S]at e2;rw[q1o,List.getD,List.getElem?_eq_getElem S];simpa using e2
 go_in;go_wp2_with fail
 go_loopw [6] (fun i wr=>NP w wr wd ds.length/\∃k:Nat,k<=ds.length/\i=.int .i64 ((k:Int)-1)/\PwR wr (w.heap.size+1) ds.length (F1 (q0a t) k)) (fun i _=>(intOf i+1).toNat)
 case atStart=>
  refine⟨(Ah.o w).1,ds.length,Nat.le_refl _,rfl,(Ah.o w).2.congr fun j hj=>?_⟩;simp only[F1];rw[if_neg (by omega)]
 case round=>
  obtain⟨O,k,hk,rfl,L⟩:=hrel;have b:Hid (NP w wr wd ds.length):=O;have Q:Hid (PwR wr (w.heap.size+1) ds.length (F1 (q0a t) k)):=L;have l:=O.c0;clear O L;by_cases A3:k=0
  ·subst A3;have Bb:¬((0:Int)<=((0:Nat):Int)-1):=by omega
   have e4:wr.cell? ⟨w.heap.size+1,4,none⟩=some (.int .i64 (F1 (q0a t) 0 0).nx):=by have:=(Q.o.get 0 Y).c4;simpa using this
   have f4:wr.frozen? ⟨w.heap.size+1,4,none⟩=false:=Q.o.row.frozen;have A7:(0:Int)<(ds.length:Int):=by omega
   have I:Hid (PwR (wr.setCell ⟨w.heap.size+1,4,none⟩ (.int .i64 (ds.length:Int))) (w.heap.size+1) ds.length (upd (F1 (q0a t) 0) 0 {F1 (q0a t) 0 0 with nx:=(ds.length:Int)})):=by
    have:=Q.o.putNx Y (ds.length:Int)
    rw[Nat.zero_mul,Nat.zero_add]at this;exact this
   have K:Hid (Tl (q0a t) t.lf t.dsum 0 (upd (F1 (q0a t) 0) 0 {F1 (q0a t) 0 0 with nx:=(ds.length:Int)})):=by
    have:=Tl.start (t:=t)
    rw[<-q2y,A.o]at this;exact this
   have D:Hid (NP w (wr.setCell ⟨w.heap.size+1,4,none⟩ (.int .i64 (ds.length:Int))) wd ds.length):=b.o.belX (B:=w.heap.size+1+1+1) y2u Zl;go_wp2_with fail;generalize wr.setCell ⟨w.heap.size+1,4,none⟩ (.int .i64 (ds.length:Int))=w5 at *;clear l e4 f4 b Q
   go_loopw [44] (fun i wq=>NP w wq wd ds.length/\∃k:Nat,k<=ds.length/\i=.int .i64 k/\∃F,PwR wq (w.heap.size+1) ds.length F/\Tl (q0a t) t.lf t.dsum k F) (fun i _=>ds.length-(intOf i).toNat)
   case atStart=>exact⟨D.o,0,Nat.zero_le _,rfl,_,I.o,K.o⟩
   case round=>
    clear D I K;obtain⟨O,k,hk,rfl,F,L,hT⟩:=hrel;have b:Hid (NP w wr wd ds.length):=O;by_cases H:k<ds.length
    ·have Aa:k<(q0a t).length:=by rw[A.o];exact H
     obtain⟨g,nx,dp,ks,P⟩:=j9f ht Aa
     have h0:k=0\/∃p,p<k/\j1m (q0a t) t.lf t.dsum p k:=by
      rcases Nat.eq_zero_or_pos k with e|e
      ·exact .inl e
      ·exact .inr (k2c ht e Aa)
     have hM:t.dsum<=3200:=by have:=q9o t;rw[<-HD.o]at this;omega
     have z:=v9l (w.heap.size+1+1) (w.heap.size+1) F wr (by rw[A.o];exact hl) hM P hT h0 (by omega) (by rw[A.o];exact O.c0) (by rw[A.o];exact L);rw[A.o]at z;obtain⟨r,Ao⟩:=v5b HD.o P;have Ad:=(show Hid _ from z);have G:Hid (Sp (q0a t) t.lf t.dsum k g nx dp ks):=P;have Ae:Hid (ds.drop k=g.N++r):=Ao;clear O L hT z h0 P Ao Aa;have Ba:(k:Int)<(ds.length:Int):=by omega
     have A6:(0:Int)<=(k:Int):=by omega
     go_wp2_with fail;refine Calls.mono Ad.o ?_;rintro e E⟨rfl,⟨Z,At,Am,Au⟩,An⟩;have D:Hid (NP w E wd ds.length):=b.o.belX An (by have:=b.o.lt;omega);have I:Hid (PwR E (w.heap.size+1) ds.length Z):=At;have K:Hid (Tl (q0a t) t.lf t.dsum k Z):=Am;have Ag:Hid (∀j,j<ds.length->j1m (q0a t) t.lf t.dsum k j->(Z j).nx=(q1o (q0a t) j).nx/\(Z j).dp=(q1o (q0a t) j).dp):=Au;clear At Am Au An b Ad;have d0:=(Af.o E k H D.o.bw).1;have hx:ds[k]=g.root:=by rw[<-Ac.o k H,G.o.at];rfl
     rw[hx]at d0;clear hx;by_cases y:g.root.op=8
     ·cases g with
      | leaf x=>
       have c:x.op=8:=y;rcases q3y G.o.wf.1 G.o.wf.2 with e|e|e|e|e<;>omega
      | two x a' b'=>
       have c:x.op=8:=y;rcases q7p G.o.wf.2.1 with e|e<;>omega
      | one x a'=>
       rw[y]at d0;have l:=D.o.c0;obtain⟨_,_,_,g3,_,_,g6⟩:=I.o.get k H;have z6:E.frozen? ⟨w.heap.size+1,k*7+6,none⟩=false:=I.o.row.frozen;have Ap:(Z k).en=((k+(Tr.one x a').N.length:Nat):Int):=by rw[K.o.en k (by rw[A.o];exact H),G.o.at];rfl
       rw[Ap]at g3
       have V:(q1o (q0a t) k).lg=lgF a'.flat:=by
        rw[G.o.at];show Tr.lg (.one x a')=_;have c:x.op=8:=y;simp[Tr.lg,c]
       have Ar:k+(Tr.one x a').N.length<=ds.length:=by
        have:=congrArg List.length Ae.o
        rw[List.length_drop,List.length_append]at this;omega
       have Bj:=(Tr.one x a').pos;have X:q1p E (some ⟨s,o+k*3,none⟩) (Tr.one x a').N:=((HN.o.kept (D.o.bw.block s hs)).part Ae.o).nods (by have:=D.o.bw.size;omega);generalize hj:k+(Tr.one x a').N.length=j at g3 Ar;have Ab:(Tr.one x a').N.length=j-k:=by omega
       have m:Hid (Calls prog 162 #[.slice (some ⟨s,o+k*3,none⟩) (j-k) (cap-k)] E.drew fun e w'=>e=.returned (.int .i64 (lgF a'.flat))/\Below E.drew.heap.size E.drew w'):=by
        have:=j2p (Tr.one x a').N (Tr.one x a') rfl G.o.wf (by omega) (some ⟨s,o+k*3,none⟩) (cap-k) (by omega) E.drew (X.W (Below.drew (Below.refl _ E)))
        rw[Ab]at this;exact this
       have Ay:Hid ((q1o (q0a t) k).lg=lgF a'.flat):=V;have h1:(k:Int)<=(j:Int):=by omega
       have Bi:(0:Int)<=(j:Int):=by omega
       have Bg:(k:Int)<(cap:Int):=by omega
       have Bd:¬(cap-k=0):=by omega
       have Be:¬(cap=k):=by omega
       have Bh:((j:Int)-(k:Int)).toNat=j-k:=by omega
       have A9:((cap:Int)-(k:Int)).toNat=cap-k:=by omega
       have h2:(j:Int)<=(cap:Int):=by omega
       have h3:(j:Int)<=(ds.length:Int):=by omega
       clear X Ab Ap V hj;have A1:=D.o.lt;have Av:Hid (∀C,Below E.drew.heap.size E.drew C->C.cell? ⟨w.heap.size+1+1,0,none⟩=some (.slice (some ⟨w.heap.size+1,0,none⟩) ds.length ds.length)):=fun C hb=>(hb.cell (p:=⟨w.heap.size+1+1,0,none⟩) A1).trans l
       have Aw:Hid (∀C,Below E.drew.heap.size E.drew C->C.cell? ⟨w.heap.size+1,k*7+3,none⟩=some (.int .i64 (j:Int))):=fun C hb=>(hb.cell (p:=⟨w.heap.size+1,k*7+3,none⟩) (by show w.heap.size+1<E.heap.size;omega)).trans g3
       have Ax:Hid (∀C,Below E.drew.heap.size E.drew C->PwR C (w.heap.size+1) ds.length Z/\NP w C wd ds.length):=fun C hb=>⟨I.o.kept (hb.block _ (by show w.heap.size+1<E.heap.size;omega)),D.o.belX (B:=E.heap.size) (q0v.of ((Below.drew (Below.refl _ E)).trans hb)) (by omega)⟩
       go_wp2_with fail
       go_region_held3 (fun w'=>w'.cell? ⟨w.heap.size+1+1,0,none⟩=some (.slice (some ⟨w.heap.size+1,0,none⟩) ds.length ds.length)/\w'.cell? ⟨w.heap.size+1,k*7+3,none⟩=some (.int .i64 (j:Int)))
        (first|exact⟨l,g3⟩|exact⟨Ai,Aj⟩|exact⟨(cso (by omega)).trans Ai,(cso (by omega)).trans Aj⟩)
        ((go_at_call 162;refine m.o.mono ?_;rintro e C⟨rfl,M⟩;have Ai:=Av.o C M;have Aj:=Aw.o C M;obtain⟨f,As⟩:=Ax.o C M;have Bc:=(f.get k H).c6;have Bk:C.frozen? ⟨w.heap.size+1,k*7+6,none⟩=false:=f.row.frozen;have J:Hid (PwR C (w.heap.size+1) ds.length Z):=f;have U:Hid (NP w C wd ds.length):=As;clear f As M))
       all_goals
        go_wp2
        go_roundw
        case rel=>exact⟨(U.o.belX (B:=w.heap.size+1+1+1) y2u Zl).same rfl rfl rfl rfl,k+1,by omega,by go_num,_,(J.o.putLg H (lgF a'.flat)).kept rfl,by rw[<-Ay.o];exact K.o.nextLg (by rw[A.o];exact Ag.o)⟩
        case measure=>simp[intOf];omega
     ·have c:(g.root.op==8)=false:=beq_eq_false_iff_ne.2 y
      have V:(Z k).lg=(q1o (q0a t) k).lg:=by
       rw[K.o.l0 k (by rw[A.o];exact H) Zl,G.o.at];show 0=g.lg;cases g with
       | leaf x=>rfl
       | two x a' b'=>rfl
       | one x a'=>
        have Ak:¬x.op=8:=y;simp[Tr.lg,Ak]
      have m:Hid ((Z k).lg=(q1o (q0a t) k).lg):=V;clear V y;go_wp2
      go_roundw
      case rel=>exact⟨D.o,k+1,by omega,by go_num,Z,I.o,K.o.next (by rw[A.o];exact Ag.o) m.o⟩
      case measure=>simp[intOf];omega
    ·have Aq:k=ds.length:=by omega
     have hF:=Tl.all ht (by rw[A.o,<-Aq];exact hT);have Q:Hid (PwR wr (w.heap.size+1) ds.length (fun j=>q2 (q1o (q0a t) j))):=L.congr (by rw[<-A.o];exact hF);have l:=O.c0;have c1:=O.c1;have r0:=O.r0;have r1:=O.r1;have f0:wr.frozen? ⟨w,0,none⟩=false:=O.f0.frozen;have f1:wr.frozen? ⟨w,1,none⟩=false:=O.f0.frozen;have Ab:¬((k:Int)<(ds.length:Int)):=by omega
     clear O L hT hF Aq;go_wp2;refine bodyPost_ret (v:=.agg #[.slice (some ⟨w.heap.size+1,0,none⟩) ds.length ds.length,.int .i64 wd]) (by simp[results,Tryz.results108,go_sem,r0,r1]) rfl ?_;have A5:∀v0 v1,((wr.setCell ⟨w,0,none⟩ v0).setCell ⟨w,1,none⟩ v1).heap[w.heap.size+1]?=wr.heap[w.heap.size+1]?:=fun v0 v1=>(Below.heap_setCell _ _ _ _ (by simp)).trans (Below.heap_setCell _ _ _ _ (by simp))
     exact⟨rfl,Q.o.kept (A5 _ _),b.o.bw.trans (((Below.refl _ wr).setCell (p:=⟨w,0,none⟩) Zl _).setCell (p:=⟨w,1,none⟩) Zl _)⟩
  ·obtain⟨i,rfl⟩:∃i,k=i+1:=⟨k-1,by omega⟩;have A4:(((i+1:Nat):Int)-1)=(i:Int):=by omega
   rw[A4];have S:i<ds.length:=by omega
   obtain⟨n0,n1,n2⟩:=Af.o wr i S b.o.bw;have HX:=Ac.o i S;generalize ds[i]=x at n0 n1 n2 HX;have u:Hid ((q1o (q0a t) i).nd=x):=HX;clear HX;obtain⟨g0,g1,g2,_,_,_,_⟩:=Q.o.get i S;have z0:wr.frozen? ⟨w.heap.size+1,i*7,none⟩=false:=Q.o.row.frozen;have z1:wr.frozen? ⟨w.heap.size+1,i*7+1,none⟩=false:=Q.o.row.frozen;have z2:wr.frozen? ⟨w.heap.size+1,i*7+2,none⟩=false:=Q.o.row.frozen;have A6:(0:Int)<=(i:Int):=by omega
   have Bf:(i:Int)<(ds.length:Int):=by omega
   have J:Hid (PwR (((wr.setCell ⟨w.heap.size+1,i*7,none⟩ (.int .i64 x.op)).setCell ⟨w.heap.size+1,i*7+1,none⟩ (.string x.tx)).setCell ⟨w.heap.size+1,i*7+2,none⟩ (.int .i64 x.n)) (w.heap.size+1) ds.length (upd (F1 (q0a t) (i+1)) i ⟨x.op,x.tx,x.n,0,0,0,0⟩)):=by
    have h:=((Q.o.putOp S x.op).putTx S x.tx).putN S x.n;rw[z9s,z9s,q0m,q0m]at h;have e:F1 (q0a t) (i+1) i=q0:=by simp only[F1];rw[if_neg (by omega)]
    rw[e]at h;exact h
   have U:Hid (NP w (((wr.setCell ⟨w.heap.size+1,i*7,none⟩ (.int .i64 x.op)).setCell ⟨w.heap.size+1,i*7+1,none⟩ (.string x.tx)).setCell ⟨w.heap.size+1,i*7+2,none⟩ (.int .i64 x.n)) wd ds.length):=b.o.belX (B:=w.heap.size+1+1+1) ((y2u.trans y2u).trans y2u) Zl;clear Q b;go_wp2_with fail
   go_region_held3 (fun w'=>w'.cell? ⟨w.heap.size+1+1,0,none⟩=some (.slice (some ⟨w.heap.size+1,0,none⟩) ds.length ds.length)/\w'.cell? ⟨s,o+i*3,none⟩=some (.int .i64 x.op)/\w'.cell? ⟨s,o+i*3+1,none⟩=some (.string x.tx)/\w'.cell? ⟨s,o+i*3+2,none⟩=some (.int .i64 x.n))
    (first|exact⟨l,n0,n1,n2⟩|exact⟨(cso (by omega)).trans ((cso (by omega)).trans ((cso (by omega)).trans l)),(cso (by omega)).trans ((cso (by omega)).trans ((cso (by omega)).trans n0)),(cso (by omega)).trans ((cso (by omega)).trans ((cso (by omega)).trans n1)),(cso (by omega)).trans ((cso (by omega)).trans ((cso (by omega)).trans n2))⟩) (fail)
   all_goals
    go_wp2_with fail;clear l n0 n1 n2 g0 g1 g2 z0 z1 z2
    generalize((wr.setCell ⟨w.heap.size+1,i*7,none⟩ (.int .i64 x.op)).setCell ⟨w.heap.size+1,i*7+1,none⟩ (.string x.tx)).setCell ⟨w.heap.size+1,i*7+2,none⟩ (.int .i64 x.n)=C at *
    have c3:=U.o.c0;have k3:=(J.o.get i S).c3;rw[q0m]at k3;have z3:C.frozen? ⟨w.heap.size+1,i*7+3,none⟩=false:=J.o.row.frozen
    have HB:Hid (Calls prog 160 #[.pointer (some ⟨w.heap.size+1+1,0,none⟩),.int .i64 i] C.drew.drew fun e w'=>e=.returned (.int .i64 (q1o (q0a t) i).en)/\∃q,w'=C.drew.drew.drewN q):=by
     have A2:i<(q0a t).length:=by rw[A.o];exact S
     obtain⟨g,nx,dp,ks,P⟩:=j9f ht A2;refine v1m (w.heap.size+1+1) (w.heap.size+1) _ C.drew.drew (by rw[A.o];exact hl) P ?_ (fun j hj hjl=>?_) (by rw[A.o];exact c3) (by rw[A.o];exact J.o.kept rfl)
     ·rw[q0m,u.o]
     ·rw[q1j (by omega)];simp only[F1];rw[if_pos (by omega)];rfl
    have HF:Hid (upd (upd (F1 (q0a t) (i+1)) i ⟨x.op,x.tx,x.n,0,0,0,0⟩) i ⟨x.op,x.tx,x.n,(q1o (q0a t) i).en,0,0,0⟩=F1 (q0a t) i):=by
     show _=_
     have:=v8r (R:=q0a t) (i:=i)
     rw[q1,u.o]at this;rw[z9s];exact this
    have Az:Hid (PwR (C.setCell ⟨w.heap.size+1,i*7+3,none⟩ (.int .i64 (q1o (q0a t) i).en)) (w.heap.size+1) ds.length (F1 (q0a t) i)):=by
     have:=J.o.putEn S (q1o (q0a t) i).en
     rw[q0m,HF.o]at this;exact this
    have A0:Hid (NP w (C.setCell ⟨w.heap.size+1,i*7+3,none⟩ (.int .i64 (q1o (q0a t) i).en)) wd ds.length):=U.o.belX (B:=w.heap.size+1+1+1) y2u Zl;clear U J HF u
    generalize((q1o (q0a t) i).en:Int)=en at *
    go_region_held3 (fun w'=>w'.cell? ⟨w.heap.size+1+1,0,none⟩=some (.slice (some ⟨w.heap.size+1,0,none⟩) ds.length ds.length))
     (first|exact c3|exact(cso (by omega)).trans c3) ((go_at_call 160;refine HB.o.mono ?_;rintro e w4⟨rfl,q,rfl⟩))
    all_goals
     go_wp2
     go_roundw
     case rel=>exact⟨A0.o.same rfl rfl rfl rfl,i,by omega,by go_num,Az.o.kept rfl⟩
     case measure=>simp[intOf]
structure ChB(w wx:World)(i c:Nat)(q:Q):Prop where
 a0:wx.cell? ⟨w,0,none⟩=some (.int .i64 i)
 a1:wx.cell? ⟨w,1,none⟩=some (.int .i64 c)
 r0:wx.cell? ⟨w.heap.size+1,0,none⟩=some (.int .i64 0)
 r1:wx.cell? ⟨w.heap.size+1,1,none⟩=some (.int .i64 0)
 r2:wx.cell? ⟨w.heap.size+1,2,none⟩=some (.int .i64 0)
 r3:wx.cell? ⟨w.heap.size+1,3,none⟩=some (.int .i64 0)
 r4:wx.cell? ⟨w.heap.size+1,4,none⟩=some (.int .i64 0)
 fr:q7u wx (w.heap.size+1)
 q0:wx.cell? ⟨w.heap.size+1+1,0,none⟩=some (.int .i64 q.op)
 q1:wx.cell? ⟨w.heap.size+1+1,1,none⟩=some (.string q.tx)
 q2:wx.cell? ⟨w.heap.size+1+1,2,none⟩=some (.int .i64 q.n)
 q3:wx.cell? ⟨w.heap.size+1+1,3,none⟩=some (.int .i64 q.en)
 q4:wx.cell? ⟨w.heap.size+1+1,4,none⟩=some (.int .i64 q.nx)
 q5:wx.cell? ⟨w.heap.size+1+1,5,none⟩=some (.int .i64 q.dp)
 q6:wx.cell? ⟨w.heap.size+1+1,6,none⟩=some (.int .i64 q.lg)
 lt:w.heap.size+1+1<wx.heap.size
theorem ChB.kept{w wx wy:World}{i c mb:Nat}{q:Q}(h:ChB w wx i c q)(hb:q0v wx mb wx wy)(hm:mb<w.heap.size):ChB w wy i c q:=by
 have A:∀b o v,b≠mb->wx.cell? ⟨b,o,none⟩=some v->wy.cell? ⟨b,o,none⟩=some v:=fun b o v he hv=>(hb.cell (p:=⟨b,o,none⟩) (World.block_lt_of_cell? wx ⟨b,o,none⟩ hv) he).trans hv
 exact⟨A _ _ _ (by omega) h.a0,A _ _ _ (by omega) h.a1,A _ _ _ (by omega) h.r0,A _ _ _ (by omega) h.r1,A _ _ _ (by omega) h.r2,A _ _ _ (by omega) h.r3,A _ _ _ (by omega) h.r4,h.fr.kept (hb.block _ h.fr.lt (by omega)),
  A _ _ _ (by omega) h.q0,A _ _ _ (by omega) h.q1,A _ _ _ (by omega) h.q2,A _ _ _ (by omega) h.q3,A _ _ _ (by omega) h.q4,A _ _ _ (by omega) h.q5,A _ _ _ (by omega) h.q6,Nat.lt_of_lt_of_le h.lt hb.size⟩
theorem j3b{sb g mb wd i c:Nat}{R:List Pl}{S:Nat->Nat->Bool}{w w1:World}(h:Sk1 sb g mb wd i c R S w w1)(q:Q):ChB w (w1.alloc (q5v q)).drew i c q:=by
 have A:=heap_alloc_new w1 (q5v q);rw[h.sz]at A;have B:∀o v,(w1.alloc (q5v q)).cell? ⟨w.heap.size+1+1,o,none⟩=v->(w1.alloc (q5v q)).drew.cell? ⟨w.heap.size+1+1,o,none⟩=v:=fun _ _ h=>h
 refine⟨ka h.a0 _,ka h.a1 _,ka h.r0 _,ka h.r1 _,ka h.r2 _,ka h.r3 _,ka h.r4 _,h.fr.kept (Below.heap_alloc _ _ _ h.fr.lt),B _ _ ?_,B _ _ ?_,B _ _ ?_,B _ _ ?_,B _ _ ?_,B _ _ ?_,B _ _ ?_,?_⟩
 ·simp[World.cell?,A,q5v]
 ·simp[World.cell?,A,q5v]
 ·simp[World.cell?,A,q5v]
 ·simp[World.cell?,A,q5v]
 ·simp[World.cell?,A,q5v]
 ·simp[World.cell?,A,q5v]
 ·simp[World.cell?,A,q5v]
 ·show w.heap.size+1+1<(w1.alloc (q5v q)).heap.size;simp[h.sz]
theorem k5n(a c d:Addr)(w:World):CallsD prog 79 #[.pointer (some a),.pointer (some c),.pointer (some d)] .returning w fun e u' w'=>e=.returned (.tuple #[])/\u'=.returning/\Below w w w':=by
 have A:∀W:World,(Instr.typeAssert .nilIface 20 137 true).run prog W=.ok (.tuple #[.agg #[.int .i64 0],.bool false]) W:=fun W=>by kernel_rfl
 refine callsD_of_wpS func79 rfl fun c₀ cs hu=>?_
 apply wpS_seq;apply wpS_region;simp[wpOpsS,go_sem,recoverD,hu,ntmps79,Exit.thenS];refine wpS_of_wp ?_;change Code.wp _ _ _ {tmps:=#[.pointer (some a),.pointer (some c),.pointer (some d),.nilIface,undef,undef,.nilIface,undef,undef,undef,undef,undef,undef,undef,undef,undef,undef,undef,undef],defers:=[]} _;go_wp2;refine⟨rfl,.returning,?_,_,results_none rfl _ _ _,rfl,rfl,q4b w _⟩;cases c₀;simp_all
theorem z5m(ba bc bd:Nat)(k:Nat)(w:World)(va vc vd:Value)(ha:w.cell? ⟨ba,0,none⟩=some va)(hc:w.cell? ⟨bc,0,none⟩=some vc)(hd:w.cell? ⟨bd,0,none⟩=some vd)(fa:w.frozen? ⟨ba,0,none⟩=false)(fc:w.frozen? ⟨bc,0,none⟩=false)(fd:w.frozen? ⟨bd,0,none⟩=false)(la:ba<w.heap.size)(lc:bc<w.heap.size)(ld:bd<w.heap.size)(n1:¬ba=bc)(n2:¬ba=bd)(n3:¬bc=bd):
  CallsD prog 79 #[.pointer (some ⟨ba,0,none⟩),.pointer (some ⟨bc,0,none⟩),.pointer (some ⟨bd,0,none⟩)] (.panicking [q4u k]) w fun e u' w'=>e=.returned (.tuple #[])/\u'=.panicking [{v:=.iface 137 (.agg #[.int .i64 (k:Int)]),recovered:=true}]/\w'.cell? ⟨ba,0,none⟩=some (.slice none 0 0)/\w'.cell? ⟨bc,0,none⟩=some (.int .i64 (k:Int))/\w'.cell? ⟨bd,0,none⟩=some (.iface 23 (.int .i64 5))/\∀B,B<=ba->B<=bc->B<=bd->Below B w w':=by
 have E:∀W:World,(Instr.typeAssert (.iface 137 (.agg #[.int .i64 (k:Int)])) 20 137 true).run prog W=.ok (.tuple #[.agg #[.int .i64 (k:Int)],.bool true]) W:=fun W=>by kernel_rfl
 refine callsD_of_wpS func79 rfl fun c₀ cs hu=>?_
 apply wpS_seq;apply wpS_region;simp[wpOpsS,go_sem,recoverD,hu,ntmps79,Exit.thenS];refine wpS_of_wp ?_;change Code.wp _ _ _ {tmps:=#[.pointer (some ⟨ba,0,none⟩),.pointer (some ⟨bc,0,none⟩),.pointer (some ⟨bd,0,none⟩),.iface 137 (.agg #[.int .i64 (k:Int)]),undef,undef,.iface 137 (.agg #[.int .i64 (k:Int)]),undef,undef,undef,undef,undef,undef,undef,undef,undef,undef,undef,undef],defers:=[]} _;go_wp2_with fail
 go_region
 all_goals go_wp2
 generalize C:((w.setCell ⟨ba,0,none⟩ (.slice none 0 0)).setCell ⟨bc,0,none⟩ (.int .i64 (k:Int))).setCell ⟨bd,0,none⟩ (.iface 23 (.int .i64 5))=W;have K:W.heap.size=w.heap.size:=by rw[<-C,World.size_setCell,World.size_setCell,World.size_setCell]
 have G:W.cell? ⟨ba,0,none⟩=some (.slice none 0 0):=by
  rw[<-C];exact(cso (.inl (Ne.symm n2))).trans ((cso (.inl (Ne.symm n1))).trans (css ha))
 have H:W.cell? ⟨bc,0,none⟩=some (.int .i64 (k:Int)):=by
  rw[<-C];exact(cso (.inl (Ne.symm n3))).trans (css ((cso (.inl n1)).trans hc))
 have I:W.cell? ⟨bd,0,none⟩=some (.iface 23 (.int .i64 5)):=by
  rw[<-C];exact css ((cso (.inl n3)).trans ((cso (.inl n2)).trans hd))
 have J:∀B,B<=ba->B<=bc->B<=bd->Below B w W:=fun B h1 h2 h3=>by
  rw[<-C];exact(((Below.refl B w).setCell (p:=⟨ba,0,none⟩) h1 _).setCell (p:=⟨bc,0,none⟩) h2 _).setCell (p:=⟨bd,0,none⟩) h3 _
 clear C;have D:=k3b W (.cells #[.int .i64 (k:Int)] 137);obtain⟨A,_⟩:=q1y D;refine⟨rfl,_,rfl,_,results_none rfl _ _ _,rfl,rfl,(A _ _ (by omega)).trans G,(A _ _ (by omega)).trans H,(A _ _ (by omega)).trans I,fun B h1 h2 h3=>(J B h1 h2 h3).trans (D.mono (by omega))⟩
end Go.Proofs.YtfdppahhbpfnoaaGreatDoor
