import Derived.Test.YtchdplceopegoaaGreatDoorPi09
import Derived.Laws.AppendOwn
import Derived.Laws.AppendOwnNone
import Derived.Test.YtchdplceopegoaaGreatDoorRep
open Go.Proofs.Tryz
open Nat (le_add_right le_refl lt_or_ge zero_le)
namespace Go.Proofs.YtchdplceopegoaaGreatDoor
open Go Go.RowKit
set_option maxRecDepth 100000
set_option maxHeartbeats 4000000
theorem z0q{R:List Pl}{L M i nx dp wd c:Nat}{ks:List (Nat × Tr)}{t:Tr}(sb g mb:Nat)(As:Sp R L M i t nx dp ks)(Av:((q2 (q1r R i)).lg==-1)=false)(Ar:z2n (q2 (q1r R i)).op=true)(Ap:z6k sb g mb wd R i c 0)(Aq:z6k sb g mb wd R i c 1)(Ag:(tkC R wd i c 0).o<=1000000/\(tkC R wd i c 0).l<=1000000)(Ah:(tkC R wd i c 1).o<=1000000/\(tkC R wd i c 1).l<=1000000)(k:Nat)(hk:k=0/\decide (q2x ((tkC R wd i c 1).o,(tkC R wd i c 1).l) ((tkC R wd i c 0).o,(tkC R wd i c 0).l))=false\/k=1/\decide (q2x ((tkC R wd i c 1).o,(tkC R wd i c 1).l) ((tkC R wd i c 0).o,(tkC R wd i c 0).l))=true)(w:World)(S:Nat->Nat->Bool)(h:Inv sb g mb wd R w S):
  Calls prog 164 #[.pointer sb,.agg #[i,c]] w fun e w'=>e=.returned (cvV (tkC R wd i c k))/\Left sb g mb wd R S (i+1) (tkC R wd i c k).np (tkC R wd i c k).nc w w':=by
 have H:Hid (Inv sb g mb wd R w S):=h;have P:=h.lt;have hi:i<R.length:=As.lt;have Au:(i:Int)<(R.length:Int):=by omega
 have Aw:(0:Int)<=(i:Int):=by omega
 have HQ:Hid (∀W,q6j W sb g wd R->z4h W g i (q2 (q1r R i))):=fun W hW=>hW.pr.get i hi
 have Al:Hid (z6k sb g mb wd R i c 0):=Ap;have Am:Hid (z6k sb g mb wd R i c 1):=Aq;rw[cvV];generalize q2 (q1r R i)=q at *;go_in;go_wp2_with fail;have Ai:Sk1 sb g mb wd i c R S w ((w.alloc (.cells #[i,c] 216)).alloc (.cells #[.int .i64 0,.int .i64 0,.int .i64 0,.int .i64 0,.int .i64 0] 218)):=z7w (nq:=0) H.o
 generalize(w.alloc (.cells #[i,c] 216)).alloc (.cells #[.int .i64 0,.int .i64 0,.int .i64 0,.int .i64 0,.int .i64 0] 218)=w1 at *
 have d:Hid (Sk1 sb g mb wd i c R S w w1):=Ai;have Ax:=Ai.sz
 have Af:∀W:World,W=w1.drew\/(∃O,W=(w1.alloc O).drew)->W.cell? sb=some (.slice g R.length R.length)/\W.cell? w.heap.size=some ↑i/\W.cell? (g,i*7)=some ↑q.op/\W.cell? (g,i*7+1)=some (.string q.tx)/\W.cell? (g,i*7+2)=some ↑q.n/\W.cell? (g,i*7+3)=some ↑q.en/\W.cell? (g,i*7+4)=some ↑q.nx/\W.cell? (g,i*7+5)=some ↑q.dp/\W.cell? (g,i*7+6)=some ↑q.lg:=by
  intro W hW
  have r:q6j W sb g wd R/\W.cell? w.heap.size=some ↑i:=by
   rcases hW with rfl|⟨O,rfl⟩
   ·exact⟨d.o.inv.pl.kept rfl rfl,d.o.a0⟩
   ·exact⟨(d.o.inv.pl.alloc O).kept rfl rfl,ka d.o.a0 O⟩
  obtain⟨d0,d1,d2,d3,d4,d5,d6⟩:=HQ.o W r.1;exact⟨r.1.c0,r.2,d0,d1,d2,d3,d4,d5,d6⟩
 have An:=Af w1.drew (.inl rfl);have Ao:=fun O=>Af (w1.alloc O).drew (.inr ⟨O,rfl⟩)
 have Z:Hid (ChB w (w1.alloc (q6d q)).drew i c q):=j5v d.o q;have Aj:Hid (Inv sb g mb wd R (w1.alloc (q6d q)).drew S):=(d.o.inv.alloc _).kept fun _ _=>rfl
 have z:Hid (q0n w mb w (w1.alloc (q6d q)).drew):=(q0n.of (d.o.bw.alloc d.o.bw.size _)).drew
 go_region_held3 (fun w'=>w'.cell? sb=some (.slice g R.length R.length)/\w'.cell? w.heap.size=some ↑i/\w'.cell? (g,i*7)=some ↑q.op/\w'.cell? (g,i*7+1)=some (.string q.tx)/\w'.cell? (g,i*7+2)=some ↑q.n/\w'.cell? (g,i*7+3)=some ↑q.en/\w'.cell? (g,i*7+4)=some ↑q.nx/\w'.cell? (g,i*7+5)=some ↑q.dp/\w'.cell? (g,i*7+6)=some ↑q.lg)
  (first|with_reducible exact An|with_reducible exact Ao _) (fail)
 all_goals
  generalize(w1.alloc (.cells #[q.op,.string q.tx,q.n,q.en,q.nx,q.dp,q.lg] 248)).drew=w2 at *
  have a0:=Z.o.a0;have a1:=Z.o.a1;have q6:=Z.o.q6;go_wp2_with fail;refine(Al.o w2 S Aj.o).mono ?_;rintro e A⟨rfl,D,f,hI,x,u,s⟩;rw[cvV];have I:=Z.o.kept D P.2.2;have Y:Hid (q0n w mb w A):=z.o.trans (D.mono z.o.size);have y:Hid (Inv sb g mb wd R A f/\(∀a b,S a b=true->f a b=true)/\(∀a b,f a b=true->S a b=true\/i+1<=a)/\((tkC R wd i c 0).np<R.length->f (tkC R wd i c 0).np (tkC R wd i c 0).nc=true)):=⟨hI,x,u,s⟩;have u0:=fun O=>ka I.q0 O
  have u1:=fun O=>ka I.q1 O
  have u2:=fun O=>ka I.q2 O
  have u3:=fun O=>ka I.q3 O
  have u4:=fun O=>ka I.q4 O
  have u5:=fun O=>ka I.q5 O
  have u6:=fun O=>ka I.q6 O
  have Ac:Hid (ChB w A i c q):=I;go_wp2_with fail;refine(z0n q.op q.tx q.n q.en q.nx q.dp q.lg _).mono ?_;rintro e X⟨rfl,G⟩;rw[Ar];have Q:A.heap.size<X.heap.size:=by have:=G.size;simp at this;omega
  have U:Hid (ChB w X i c q):=(Ac.o.kept (mb:=mb) (q0n.of ((Below.refl _ A).alloc Zl _)) P.2.2).kept (q0n.of G) P.2.2;have Ak:Hid (Inv sb g mb wd R X f):=(y.o.1.alloc _).W G;have Aa:Hid (q0n w mb w X):=(Y.o.alloc (by have:=Y.o.size;omega) _).trans (q0n.of (G.mono (by have:=Y.o.size;simp;omega)));have s0:X.cell? A.heap.size=some ((tkC R wd i c 0).o):=(G.cell (p:=A.heap.size) (by simp)).trans (by simp[go_sem]);have s1:X.cell? (A.heap.size,1)=some ((tkC R wd i c 0).l):=(G.cell (p:=(A.heap.size,1)) (by simp)).trans (by simp[go_sem]);have s2:X.cell? (A.heap.size,2)=some ((tkC R wd i c 0).ch):=(G.cell (p:=(A.heap.size,2)) (by simp)).trans (by simp[go_sem]);have s3:X.cell? (A.heap.size,3)=some ((tkC R wd i c 0).np):=(G.cell (p:=(A.heap.size,3)) (by simp)).trans (by simp[go_sem]);have s4:X.cell? (A.heap.size,4)=some ((tkC R wd i c 0).nc):=(G.cell (p:=(A.heap.size,4)) (by simp)).trans (by simp[go_sem]);have a0:=U.o.a0;have a1:=U.o.a1;go_wp2_with fail;refine(Am.o X f Ak.o).mono ?_;rintro e E⟨rfl,D,m,hI,x,u,s⟩;rw[cvV];have Ad:Hid (ChB w E i c q):=U.o.kept D P.2.2;have j:Hid (q0n w mb w E):=Aa.o.trans (D.mono Aa.o.size);have V:A.heap.size≠mb:=by have:=Y.o.size;omega
  have z0:E.cell? A.heap.size=some ((tkC R wd i c 0).o):=(D.cell (p:=A.heap.size) Q V).trans s0;have z1:E.cell? (A.heap.size,1)=some ((tkC R wd i c 0).l):=(D.cell (p:=(A.heap.size,1)) Q V).trans s1;have z2:E.cell? (A.heap.size,2)=some ((tkC R wd i c 0).ch):=(D.cell (p:=(A.heap.size,2)) Q V).trans s2;have z3:E.cell? (A.heap.size,3)=some ((tkC R wd i c 0).np):=(D.cell (p:=(A.heap.size,3)) Q V).trans s3;have z4:E.cell? (A.heap.size,4)=some ((tkC R wd i c 0).nc):=(D.cell (p:=(A.heap.size,4)) Q V).trans s4;have v0:=fun O=>ka z0 O
  have v1:=fun O=>ka z1 O
  have K:Hid (Inv sb g mb wd R E m/\(∀a b,f a b=true->m a b=true)/\(∀a b,m a b=true->f a b=true\/i+1<=a)/\((tkC R wd i c 1).np<R.length->m (tkC R wd i c 1).np (tkC R wd i c 1).nc=true)):=⟨hI,x,u,s⟩;have At:A.heap.size<E.heap.size:=Nat.lt_of_lt_of_le Q D.size;go_wp2_with fail;refine(j5g (tkC R wd i c 1).o (tkC R wd i c 1).l (tkC R wd i c 0).o (tkC R wd i c 0).l Ah.1 Ah.2 Ag.1 Ag.2 _).mono ?_;rintro e J⟨rfl,C⟩;have B:=(Ad.o.kept (mb:=mb) (q0n.of ((Below.refl _ E).alloc Zl _)) P.2.2).kept (q0n.of C) P.2.2;have Ae:Hid (Inv sb g mb wd R J m):=(K.o.1.alloc _).W C;have Ab:Hid (q0n w mb w J):=(j.o.alloc (by have:=j.o.size;omega) _).trans (q0n.of (C.mono (by have:=j.o.size;simp;omega)));have r0:=B.r0;have r1:=B.r1;have r2:=B.r2;have r3:=B.r3;have r4:=B.r4;have y0:J.frozen? ↑(w.heap.size+1)=false:=B.fr.frozen;have y1:J.frozen? (w.heap.size+1,1)=false:=B.fr.frozen;have y2:J.frozen? (w.heap.size+1,2)=false:=B.fr.frozen;have y3:J.frozen? (w.heap.size+1,3)=false:=B.fr.frozen;have y4:J.frozen? (w.heap.size+1,4)=false:=B.fr.frozen;rcases hk with⟨rfl,N⟩|⟨rfl,N⟩
  ·rw[N];have x0:J.cell? A.heap.size=some ((tkC R wd i c 0).o):=(C.cell (p:=A.heap.size) (by simp;omega)).trans (ka z0 _);have x1:J.cell? (A.heap.size,1)=some ((tkC R wd i c 0).l):=(C.cell (p:=(A.heap.size,1)) (by simp;omega)).trans (ka z1 _);have x2:J.cell? (A.heap.size,2)=some ((tkC R wd i c 0).ch):=(C.cell (p:=(A.heap.size,2)) (by simp;omega)).trans (ka z2 _);have x3:J.cell? (A.heap.size,3)=some ((tkC R wd i c 0).np):=(C.cell (p:=(A.heap.size,3)) (by simp;omega)).trans (ka z3 _);have x4:J.cell? (A.heap.size,4)=some ((tkC R wd i c 0).nc):=(C.cell (p:=(A.heap.size,4)) (by simp;omega)).trans (ka z4 _);go_wp2;refine bodyPost_ret (v:=.agg #[(tkC R wd i c 0).o,(tkC R wd i c 0).l,(tkC R wd i c 0).ch,(tkC R wd i c 0).np,(tkC R wd i c 0).nc]) (by simp[results,Tryz.results164,go_sem,r0,r1,r2,r3,r4]) rfl ⟨rfl,k5g Ab.o (by omega) _ _ _ _ _,m,Ae.o.set5 (by omega) (by omega) (by omega) _ _ _ _ _,fun a b hab=>K.o.2.1 a b (y.o.2.1 a b hab),fun a b hab=>?_,fun h=>K.o.2.1 _ _ (y.o.2.2.2 h)⟩;rcases K.o.2.2.1 a b hab with h|h
   ·exact y.o.2.2.1 a b h
   ·exact .inr h
  ·rw[N];have x0:J.cell? E.heap.size=some ((tkC R wd i c 1).o):=(C.cell (p:=E.heap.size) (by simp)).trans (by simp[go_sem]);have x1:J.cell? (E.heap.size,1)=some ((tkC R wd i c 1).l):=(C.cell (p:=(E.heap.size,1)) (by simp)).trans (by simp[go_sem]);have x2:J.cell? (E.heap.size,2)=some ((tkC R wd i c 1).ch):=(C.cell (p:=(E.heap.size,2)) (by simp)).trans (by simp[go_sem]);have x3:J.cell? (E.heap.size,3)=some ((tkC R wd i c 1).np):=(C.cell (p:=(E.heap.size,3)) (by simp)).trans (by simp[go_sem]);have x4:J.cell? (E.heap.size,4)=some ((tkC R wd i c 1).nc):=(C.cell (p:=(E.heap.size,4)) (by simp)).trans (by simp[go_sem]);go_wp2;refine bodyPost_ret (v:=.agg #[(tkC R wd i c 1).o,(tkC R wd i c 1).l,(tkC R wd i c 1).ch,(tkC R wd i c 1).np,(tkC R wd i c 1).nc]) (by simp[results,Tryz.results164,go_sem,r0,r1,r2,r3,r4]) rfl ⟨rfl,k5g Ab.o (by omega) _ _ _ _ _,m,Ae.o.set5 (by omega) (by omega) (by omega) _ _ _ _ _,fun a b hab=>K.o.2.1 a b (y.o.2.1 a b hab),fun a b hab=>?_,fun h=>K.o.2.2.2 h⟩;rcases K.o.2.2.1 a b hab with h|h
   ·exact y.o.2.2.1 a b h
   ·exact .inr h
theorem v7x{t:Tr}{wd:Nat}(sb g mb:Nat)(ht:t.Wf)(hn:t.sz<=400)(hw:wd<=100):∀m i c,(q0a t).length-i<=m->i<=(q0a t).length->c<=wd->j4k sb g mb wd (q0a t) i c:=by
 have X:=z0a t;have V:t.lf*(21+t.dsum)<=400000:=y4u X hn;have Q:t.lf<=400:=by unfold Tr.sz at hn;omega
 have R:t.dsum<=3200:=by unfold Tr.sz at hn;omega
 have a:(q0a t).length<=400:=by rw[q2y];exact hn
 intro m
 induction m with
 | zero=>intro i c f j s;exact k9y sb g mb wd i c _ (by omega)
 | succ m ih=>
  intro i c f j P;by_cases d:i<(q0a t).length
  ·obtain⟨Y,z,r,y,A⟩:=v1y ht d;refine v7y sb g mb wd i c _ d a hw P ?_;have L:=A.at
   have b:∀ch,∃k:Cv,k=(if(q3p (q0a t) wd i c ch).np<(q0a t).length then crs (q0a t) wd (q3p (q0a t) wd i c ch).np (q3p (q0a t) wd i c ch).nc else zCv)/\k.o=(vv (q0a t) wd (q3p (q0a t) wd i c ch).np (q3p (q0a t) wd i c ch).nc).1.1/\k.l=(vv (q0a t) wd (q3p (q0a t) wd i c ch).np (q3p (q0a t) wd i c ch).nc).1.2/\k.o<=400000/\k.l<=400000:=fun ch=>by
    have G:=j8y (ch:=ch) A P hw Q R;refine⟨_,rfl,?_⟩;by_cases W:(q3p (q0a t) wd i c ch).np<(q0a t).length
    ·rw[if_pos W];obtain⟨t2,q,e,p,H⟩:=v1y ht W;have n:=(j6b H G.cl).1;have U:=g2x (wd:=wd) (c:=(q3p (q0a t) wd i c ch).nc) H V;rw[n]at U⊢;exact⟨rfl,rfl,U⟩
    ·rw[if_neg W,y1z (by omega)];exact⟨rfl,rfl,by simp[zCv],by simp[zCv]⟩
   have K:∀ch,(ch=0\/ch=1)->(Y.lg=-1->ch=1)->z6k sb g mb wd (q0a t) i c ch:=fun ch h01 hh=>by
    have G:=j8y (ch:=ch) A P hw Q R
    have:=G.lo
    exact v8r sb g mb a A P hw Q R h01 hh (ih _ _ (by omega) G.hi G.cl) (b ch)
   have D:∀ch,(tkC (q0a t) wd i c ch).o<=1000000/\(tkC (q0a t) wd i c ch).l<=1000000:=fun ch=>by
    have G:=j8y (ch:=ch) A P hw Q R;obtain⟨k,_,U,u,v,x⟩:=b ch
    have:=G.bo
    have:=G.bl
    simp only[tkC,j6e];omega
   have Z:(q2 (q1r (q0a t) i)).lg=Y.lg:=by rw[L];rfl
   intro w S h;by_cases C:Y.lg=-1
   ·have I:crs (q0a t) wd i c=tkC (q0a t) wd i c 1:=by rw[crs,if_pos (show(q1r (q0a t) i).lg=-1 by rw[L];exact C)]
    rw[I];exact k5k sb g mb A (by rw[Z];exact C) (K 1 (.inr rfl) fun _=>rfl) w S h
   ·have N:((q2 (q1r (q0a t) i)).lg==-1)=false:=beq_eq_false_iff_ne.2 (by rw[Z];exact C);have J:=K 0 (.inl rfl) fun h=>absurd h C
    have O:=K 1 (.inr rfl) fun _=>rfl
    have M:¬(q1r (q0a t) i).lg=-1:=by rw[L];exact C
    cases B:z2n (q1r (q0a t) i).nd.op with
    | false=>
     have I:crs (q0a t) wd i c=tkC (q0a t) wd i c 0:=by rw[crs,if_neg M,if_pos B]
     rw[I];exact k1w sb g mb A N B J w S h
    | true=>
     by_cases E:q2x ((tkC (q0a t) wd i c 1).o,(tkC (q0a t) wd i c 1).l) ((tkC (q0a t) wd i c 0).o,(tkC (q0a t) wd i c 0).l)
     ·have I:crs (q0a t) wd i c=tkC (q0a t) wd i c 1:=by rw[crs,if_neg M,if_neg (by rw[B];simp),if_pos E]
      rw[I];exact z0q sb g mb A N B J O (D 0) (D 1) 1 (.inr ⟨rfl,decide_eq_true E⟩) w S h
     ·have I:crs (q0a t) wd i c=tkC (q0a t) wd i c 0:=by rw[crs,if_neg M,if_neg (by rw[B];simp),if_neg E]
      rw[I];exact z0q sb g mb A N B J O (D 0) (D 1) 0 (.inl ⟨rfl,decide_eq_false E⟩) w S h
  ·exact k9y sb g mb wd i c _ (by omega)
def z3p(be bf i:Nat)(e f:Value)(w w':World):Prop:=
 w'.os=w.os/\w'.tape=w.tape/\w'.output=w.output/\w'.heap=((w.setCell ⟨be,i,none⟩ e).setCell ⟨bf,i,none⟩ f).heap
theorem j3u{i n:Nat}(hn:n<=400)(hi:(i:Int)<n):IntKind.i64.wrap ((i:Int)+1)=(i:Int)+1:=by
 rw[IntKind.wrap_i64];omega
set_option maxHeartbeats 16000000
theorem q8y(oq:Int)(ho:oq=1\/oq=2\/oq=3\/oq=5)(bp be bf s o n cap i:Nat)(w:World)(hn:n<=400)(hi:(i:Int)<n)(h1:bp≠be)(h2:bp≠bf)(h3:be≠bf)(h4:s≠be)(h5:s≠bf)
  (c0:w.cell? bp=some (.slice (some ↑(s,o)) n cap)) (c1:w.cell? (bp,1)=some (.slice be n n)) (c2:w.cell? (bp,2)=some (.slice bf n n))
  (d1:w.cell? ⟨s,o+i*3,none⟩=some (.int .i64 oq))
  (y1 y2:Value) (e5:w.cell? (be,i)=some y1) (e6:w.cell? (bf,i)=some y2) (z1:w.frozen? (be,i)=false) (z2:w.frozen? (bf,i)=false):
  Calls prog 226 #[.pointer (some ⟨bp,0,none⟩),.int .i64 i] w fun e w'=>e=.returned (.tuple #[])/\z3p be bf i (.int .i64 ((i:Int)+1)) (.bool true) w w':=by
 have E:y6k oq:=.mk;rcases ho with rfl|rfl|rfl|rfl
 all_goals
  have D:=j3u hn hi;have B:(0:Int)<=(i:Int)+1:=by omega
  have A:(0:Int)<=(i:Int):=by omega
  have C:((i:Int)+1).toNat=i+1:=by omega
  go_in;go_wp2_with fail
  go_region_held3 (fun w'=>w'.cell? ⟨bp,0,none⟩=some (.slice (some ⟨s,o,none⟩) n cap)/\w'.cell? ⟨bp,1,none⟩=some (.slice (some ⟨be,0,none⟩) n n)/\w'.cell? ⟨bp,2,none⟩=some (.slice (some ⟨bf,0,none⟩) n n)/\w'.cell? ⟨s,o+i*3,none⟩=some (.int .i64 ↑E))
   (first|exact⟨c0,c1,c2,d1⟩|exact⟨(cso (by omega)).trans c0,(cso (by omega)).trans c1,(cso (by omega)).trans c2,(cso (by omega)).trans d1⟩|exact⟨(cso (by omega)).trans ((cso (by omega)).trans c0),(cso (by omega)).trans ((cso (by omega)).trans c1),(cso (by omega)).trans ((cso (by omega)).trans c2),(cso (by omega)).trans ((cso (by omega)).trans d1)⟩) (fail)
  all_goals
   go_wp2
   go_end0
   exact⟨rfl,rfl,rfl,rfl,rfl⟩
theorem y4b(bp be bf s o n cap i:Nat)(w:World)(hn:n<=400)(hi:(i:Int)<n)(h1:bp≠be)(h2:bp≠bf)(h3:be≠bf)(h4:s≠be)(h5:s≠bf)
  (c0:w.cell? bp=some (.slice (some ↑(s,o)) n cap)) (c1:w.cell? (bp,1)=some (.slice be n n)) (c2:w.cell? (bp,2)=some (.slice bf n n))
  (d1:w.cell? (s,o+i*3)=some (.int .i64 4))
  (y1 y2:Value) (e5:w.cell? (be,i)=some y1) (e6:w.cell? (bf,i)=some y2) (z1:w.frozen? (be,i)=false) (z2:w.frozen? (bf,i)=false):
  Calls prog 226 #[.pointer (some ⟨bp,0,none⟩),.int .i64 i] w fun e w'=>e=.returned (.tuple #[])/\z3p be bf i (.int .i64 ((i:Int)+1)) (.bool false) w w':=by
 have D:=j3u hn hi;have B:(0:Int)<=(i:Int)+1:=by omega
 have A:(0:Int)<=(i:Int):=by omega
 have C:((i:Int)+1).toNat=i+1:=by omega
 go_in;go_wp2_with fail
 go_region_held3 (fun w'=>w'.cell? ⟨bp,0,none⟩=some (.slice (some ⟨s,o,none⟩) n cap)/\w'.cell? ⟨bp,1,none⟩=some (.slice (some ⟨be,0,none⟩) n n)/\w'.cell? ⟨bp,2,none⟩=some (.slice (some ⟨bf,0,none⟩) n n)/\w'.cell? ⟨s,o+i*3,none⟩=some (.int .i64 4))
  (first|exact⟨c0,c1,c2,d1⟩|exact⟨(cso (by omega)).trans c0,(cso (by omega)).trans c1,(cso (by omega)).trans c2,(cso (by omega)).trans d1⟩|exact⟨(cso (by omega)).trans ((cso (by omega)).trans c0),(cso (by omega)).trans ((cso (by omega)).trans c1),(cso (by omega)).trans ((cso (by omega)).trans c2),(cso (by omega)).trans ((cso (by omega)).trans d1)⟩) (fail)
 all_goals
  go_wp2
  go_end0
  exact⟨rfl,rfl,rfl,rfl,rfl⟩
theorem k8x(oq:Int)(ho:oq=7\/oq=8)(bp be bf s o n cap i:Nat)(x1:Int)(f1:Bool)(w:World)(hn:n<=400)(hi:(i:Int)<n)(A:(i:Int)+1<n)(h1:bp≠be)(h2:bp≠bf)(h3:be≠bf)(h4:s≠be)(h5:s≠bf)
  (c0:w.cell? bp=some (.slice (some ↑(s,o)) n cap)) (c1:w.cell? (bp,1)=some (.slice be n n)) (c2:w.cell? (bp,2)=some (.slice bf n n))
  (d1:w.cell? (s,o+i*3)=some ↑oq)
  (e1:w.cell? (be,i+1)=some ↑x1)
  (e3:w.cell? (bf,i+1)=some (.bool f1))
  (y1 y2:Value) (e5:w.cell? (be,i)=some y1) (e6:w.cell? (bf,i)=some y2) (z1:w.frozen? (be,i)=false) (z2:w.frozen? (bf,i)=false):
  Calls prog 226 #[.pointer bp,i] w fun e w'=>e=.returned (.tuple #[])/\z3p be bf i x1 (.bool f1) w w':=by
 have G:y6k oq:=.mk;rcases ho with rfl|rfl
 all_goals
  have E:=j3u hn hi;have C:(0:Int)<=(i:Int)+1:=by omega
  have B:(0:Int)<=(i:Int):=by omega
  have D:((i:Int)+1).toNat=i+1:=by omega
  go_in;go_wp2_with fail
  go_region_held3 (fun w'=>w'.cell? bp=some (.slice (some ↑(s,o)) n cap)/\w'.cell? (bp,1)=some (.slice be n n)/\w'.cell? (bp,2)=some (.slice bf n n)/\w'.cell? (s,o+i*3)=some (.int .i64 ↑G)/\w'.cell? (be,i+1)=some ↑x1/\w'.cell? (bf,i+1)=some (.bool f1))
   (first|exact⟨c0,c1,c2,d1,e1,e3⟩|exact⟨(cso (by omega)).trans c0,(cso (by omega)).trans c1,(cso (by omega)).trans c2,(cso (by omega)).trans d1,(cso (by omega)).trans e1,(cso (by omega)).trans e3⟩|exact⟨(cso (by omega)).trans ((cso (by omega)).trans c0),(cso (by omega)).trans ((cso (by omega)).trans c1),(cso (by omega)).trans ((cso (by omega)).trans c2),(cso (by omega)).trans ((cso (by omega)).trans d1),(cso (by omega)).trans ((cso (by omega)).trans e1),(cso (by omega)).trans ((cso (by omega)).trans e3)⟩) (fail)
  all_goals
   go_wp2
   go_end0
   exact⟨rfl,rfl,rfl,rfl,rfl⟩
theorem v6k(bp be bf s o n cap i j:Nat)(x2:Int)(f2:Bool)(w:World)(hn:n<=400)(hi:(i:Int)<n)(A:(i:Int)+1<n)(hj:(j:Int)<n)(B:i+1<j)(h1:bp≠be)(h2:bp≠bf)(h3:be≠bf)(h4:s≠be)(h5:s≠bf)
  (c0:w.cell? bp=some (.slice (some ↑(s,o)) n cap)) (c1:w.cell? (bp,1)=some (.slice be n n)) (c2:w.cell? (bp,2)=some (.slice bf n n))
  (d1:w.cell? (s,o+i*3)=some (.int .i64 6))
  (e1:w.cell? (be,i+1)=some ↑(j:Int))
  (e2:w.cell? (be,j)=some ↑x2)
  (e3:w.cell? (bf,i+1)=some (.bool true))
  (e4:w.cell? (bf,j)=some (.bool f2))
  (y1 y2:Value) (e5:w.cell? (be,i)=some y1) (e6:w.cell? (bf,i)=some y2) (z1:w.frozen? (be,i)=false) (z2:w.frozen? (bf,i)=false):
  Calls prog 226 #[.pointer bp,i] w fun e w'=>e=.returned (.tuple #[])/\z3p be bf i x2 (.bool f2) w w':=by
 have H:=j3u hn hi;have D:(0:Int)<=(i:Int)+1:=by omega
 have C:(0:Int)<=(i:Int):=by omega
 have G:((i:Int)+1).toNat=i+1:=by omega
 have E:(0:Int)<=(j:Int):=by omega
 go_in;go_wp2_with fail
 go_region_held3 (fun w'=>w'.cell? bp=some (.slice (some ↑(s,o)) n cap)/\w'.cell? (bp,1)=some (.slice be n n)/\w'.cell? (bp,2)=some (.slice bf n n)/\w'.cell? (s,o+i*3)=some (.int .i64 6)/\w'.cell? (be,i+1)=some ↑(j:Int)/\w'.cell? (be,j)=some ↑x2/\w'.cell? (bf,i+1)=some (.bool true)/\w'.cell? (bf,j)=some (.bool f2))
  (first|exact⟨c0,c1,c2,d1,e1,e2,e3,e4⟩|exact⟨(cso (by omega)).trans c0,(cso (by omega)).trans c1,(cso (by omega)).trans c2,(cso (by omega)).trans d1,(cso (by omega)).trans e1,(cso (by omega)).trans e2,(cso (by omega)).trans e3,(cso (by omega)).trans e4⟩|exact⟨(cso (by omega)).trans ((cso (by omega)).trans c0),(cso (by omega)).trans ((cso (by omega)).trans c1),(cso (by omega)).trans ((cso (by omega)).trans c2),(cso (by omega)).trans ((cso (by omega)).trans d1),(cso (by omega)).trans ((cso (by omega)).trans e1),(cso (by omega)).trans ((cso (by omega)).trans e2),(cso (by omega)).trans ((cso (by omega)).trans e3),(cso (by omega)).trans ((cso (by omega)).trans e4)⟩) (fail)
 all_goals
  go_wp2
  go_end0
  exact⟨rfl,rfl,rfl,rfl,rfl⟩
theorem v6j(bp be bf s o n cap i j:Nat)(x2:Int)(f2:Bool)(w:World)(hn:n<=400)(hi:(i:Int)<n)(A:(i:Int)+1<n)(hj:(j:Int)<n)(_hij:i+1<j)(h1:bp≠be)(h2:bp≠bf)(h3:be≠bf)(h4:s≠be)(h5:s≠bf)
  (c0:w.cell? bp=some (.slice (some ↑(s,o)) n cap)) (c1:w.cell? (bp,1)=some (.slice be n n)) (c2:w.cell? (bp,2)=some (.slice bf n n))
  (d1:w.cell? (s,o+i*3)=some (.int .i64 6))
  (e1:w.cell? (be,i+1)=some ↑(j:Int))
  (e2:w.cell? (be,j)=some ↑x2)
  (e3:w.cell? (bf,i+1)=some (.bool false))
  (_e4:w.cell? (bf,j)=some (.bool f2))
  (y1 y2:Value) (e5:w.cell? (be,i)=some y1) (e6:w.cell? (bf,i)=some y2) (z1:w.frozen? (be,i)=false) (z2:w.frozen? (bf,i)=false):
  Calls prog 226 #[.pointer bp,i] w fun e w'=>e=.returned (.tuple #[])/\z3p be bf i x2 (.bool false) w w':=by
 have G:=j3u hn hi;have C:(0:Int)<=(i:Int)+1:=by omega
 have B:(0:Int)<=(i:Int):=by omega
 have E:((i:Int)+1).toNat=i+1:=by omega
 have D:(0:Int)<=(j:Int):=by omega
 have H:=(cso (W:=w) (v:=x2) (b:=be) (o:=i) (by omega)).trans c0;have I:=(cso (W:=w) (v:=x2) (b:=be) (o:=i) (by omega)).trans c1;have J:=(cso (W:=w) (v:=x2) (b:=be) (o:=i) (by omega)).trans c2;have K:=(cso (W:=w) (v:=x2) (b:=be) (o:=i) (by omega)).trans e3;have L:=(cso (W:=w) (v:=x2) (b:=be) (o:=i) (by omega)).trans e6;have M:=(csf (W:=w) (v:=x2) (a:=(be,i))).trans z2;go_in;go_wp2_with fail
 go_region
 all_goals
  go_wp2
  go_end0
  exact⟨rfl,rfl,rfl,rfl,rfl⟩
theorem y4c(bp be bf s o n cap i j:Nat)(x2:Int)(f1:Bool)(w:World)(hn:n<=400)(hi:(i:Int)<n)(A:(i:Int)+1<n)(hj:(j:Int)<n)(B:i+1<j)(h1:bp≠be)(h2:bp≠bf)(h3:be≠bf)(h4:s≠be)(h5:s≠bf)
  (c0:w.cell? bp=some (.slice (some ↑(s,o)) n cap)) (c1:w.cell? (bp,1)=some (.slice be n n)) (c2:w.cell? (bp,2)=some (.slice bf n n))
  (d1:w.cell? (s,o+i*3)=some (.int .i64 9))
  (e1:w.cell? (be,i+1)=some ↑(j:Int))
  (e2:w.cell? (be,j)=some ↑x2)
  (e3:w.cell? (bf,i+1)=some (.bool f1))
  (y1 y2:Value) (e5:w.cell? (be,i)=some y1) (e6:w.cell? (bf,i)=some y2) (z1:w.frozen? (be,i)=false) (z2:w.frozen? (bf,i)=false):
  Calls prog 226 #[.pointer bp,i] w fun e w'=>e=.returned (.tuple #[])/\z3p be bf i x2 (.bool f1) w w':=by
 have H:=j3u hn hi;have D:(0:Int)<=(i:Int)+1:=by omega
 have C:(0:Int)<=(i:Int):=by omega
 have G:((i:Int)+1).toNat=i+1:=by omega
 have E:(0:Int)<=(j:Int):=by omega
 go_in;go_wp2_with fail
 go_region_held3 (fun w'=>w'.cell? bp=some (.slice (some ↑(s,o)) n cap)/\w'.cell? (bp,1)=some (.slice be n n)/\w'.cell? (bp,2)=some (.slice bf n n)/\w'.cell? (s,o+i*3)=some (.int .i64 9)/\w'.cell? (be,i+1)=some ↑(j:Int)/\w'.cell? (be,j)=some ↑x2/\w'.cell? (bf,i+1)=some (.bool f1))
  (first|exact⟨c0,c1,c2,d1,e1,e2,e3⟩|exact⟨(cso (by omega)).trans c0,(cso (by omega)).trans c1,(cso (by omega)).trans c2,(cso (by omega)).trans d1,(cso (by omega)).trans e1,(cso (by omega)).trans e2,(cso (by omega)).trans e3⟩|exact⟨(cso (by omega)).trans ((cso (by omega)).trans c0),(cso (by omega)).trans ((cso (by omega)).trans c1),(cso (by omega)).trans ((cso (by omega)).trans c2),(cso (by omega)).trans ((cso (by omega)).trans d1),(cso (by omega)).trans ((cso (by omega)).trans e1),(cso (by omega)).trans ((cso (by omega)).trans e2),(cso (by omega)).trans ((cso (by omega)).trans e3)⟩) (fail)
 all_goals
  go_wp2
  go_end0
  exact⟨rfl,rfl,rfl,rfl,rfl⟩
def Row(w:World)(b n:Nat):Prop:=∃cs T,w.heap[b]?=some (.cells cs T (0,0))/\cs.size=n
theorem Row.lt{w:World}{b n:Nat}(h:Row w b n):b<w.heap.size:=by
 obtain⟨B,T,h,_⟩:=h;rcases lt_or_ge b w.heap.size with A|A
 ·exact A
 ·simp[Array.getElem?_eq_none A]at h
theorem Row.cell{w:World}{b n i:Nat}(h:Row w b n)(hi:i<n):∃y,w.cell? (b,i)=some y:=by
 obtain⟨A,T,h,B⟩:=h;refine⟨A[i],?_⟩;simp[World.cell?,h]
theorem Row.frozen{w:World}{b n i:Nat}(h:Row w b n):w.frozen? (b,i)=false:=by
 obtain⟨A,T,h,B⟩:=h;simp[World.frozen?,h]
theorem Row.kept{w w':World}{b n:Nat}(h:Row w b n)(hb:w'.heap[b]?=w.heap[b]?):Row w' b n:=by
 obtain⟨A,T,h,B⟩:=h;exact⟨A,T,hb.trans h,B⟩
theorem Row.set{w:World}{b n c i:Nat}{v:Value}(h:Row w b n):Row (w.setCell (c,i) v) b n:=by
 by_cases e:c=b
 ·subst e;obtain⟨A,T,h,B⟩:=h;exact⟨A.setIfInBounds i v,T,by simp[World.setCell,Array.getElem?_modify,h],by simpa using B⟩
 ·exact h.kept (Below.heap_setCell _ _ _ _ (Ne.symm e))
section
variable {be bf i:Nat} {e f:Value} {w w':World}
theorem z3p.block(h:z3p be bf i e f w w')(k:Nat)(h1:k≠be)(h2:k≠bf):w'.heap[k]?=w.heap[k]?:=by
 rw[h.2.2.2,Below.heap_setCell _ _ _ _ h2,Below.heap_setCell _ _ _ _ h1]
theorem z3p.cells(h:z3p be bf i e f w w')(b o:Nat):w'.cell? ⟨b,o,none⟩=((w.setCell ⟨be,i,none⟩ e).setCell ⟨bf,i,none⟩ f).cell? ⟨b,o,none⟩:=World.cell?_of_block (a:=⟨b,o,none⟩) (by rw[h.2.2.2])
theorem z3p.other(h:z3p be bf i e f w w')(b o:Nat)(h1:be≠b\/i≠o)(h2:bf≠b\/i≠o):w'.cell? ⟨b,o,none⟩=w.cell? ⟨b,o,none⟩:=(h.cells b o).trans ((cso h2).trans (cso h1))
theorem z3p.cellE(h:z3p be bf i e f w w')(hb:be≠bf){y:Value}(hy:w.cell? ⟨be,i,none⟩=some y):w'.cell? ⟨be,i,none⟩=some e:=(h.cells be i).trans ((cso (by omega)).trans (css hy))
theorem z3p.cellF(h:z3p be bf i e f w w')(hb:be≠bf){y:Value}(hy:w.cell? ⟨bf,i,none⟩=some y):w'.cell? ⟨bf,i,none⟩=some f:=(h.cells bf i).trans (css ((cso (by omega)).trans hy))
theorem z3p.size(h:z3p be bf i e f w w'):w'.heap.size=w.heap.size:=by rw[h.2.2.2];simp[World.setCell]
theorem z3p.W(h:z3p be bf i e f w w'){B:Nat}(h1:B<=be)(h2:B<=bf):Below B w w':=
 ⟨h.1,h.2.1,h.2.2.1,Nat.le_of_eq h.size.symm,fun k hk=>h.block k (by omega) (by omega)⟩
theorem z3p.row{b n:Nat}(h:z3p be bf i e f w w')(hr:Row w b n):Row w' b n:=by
 refine(Row.set (c:=bf) (i:=i) (v:=f) (Row.set (c:=be) (i:=i) (v:=e) hr)).kept ?_;rw[h.2.2.2]
end
def q9i(w:World)(be bf:Nat)(ds:List Nd)(k:Nat):Prop:=
 ∀i(t:Tr)(r:List Nd),k<=i->t.Wf->ds.drop i=t.N++r->w.cell? ⟨be,i,none⟩=some (.int .i64 ((i+t.N.length:Nat):Int))/\w.cell? ⟨bf,i,none⟩=some (.bool t.isFlat)
theorem q9i.kept{w w':World}{be bf:Nat}{ds:List Nd}{k:Nat}(h:q9i w be bf ds k)(h1:w'.heap[be]?=w.heap[be]?)(h2:w'.heap[bf]?=w.heap[bf]?):q9i w' be bf ds k:=by
 intro i t r D E C;obtain⟨A,B⟩:=h i t r D E C;exact⟨(World.cell?_of_block (w:=w) (a:=(be,i)) h1).trans A,(World.cell?_of_block (w:=w) (a:=(bf,i)) h2).trans B⟩
theorem q9i.end{w:World}{be bf:Nat}{ds:List Nd}:q9i w be bf ds ds.length:=by
 intro i t r C D A;rw[List.drop_eq_nil_of_le C]at A
 have:=t.pos
 have B:=congrArg List.length A;rw[List.length_append,List.length_nil]at B;omega
theorem q9i.step{w w':World}{be bf:Nat}{ds:List Nd}{i:Nat}{t:Tr}{r:List Nd}{y1 y2:Value}(h:q9i w be bf ds (i+1))(ht:t.Wf)(hd:ds.drop i=t.N++r)(hb:be≠bf)(e1:w.cell? (be,i)=some y1)(e2:w.cell? (bf,i)=some y2)
  (hp:z3p be bf i ((i+t.N.length:Nat):Int) (.bool t.isFlat) w w'):q9i w' be bf ds i:=by
 intro j D C I B A;by_cases H:j=i
 ·subst H;obtain⟨rfl,_⟩:=q8g t D r C ht B (hd.symm.trans A);exact⟨hp.cellE hb e1,hp.cellF hb e2⟩
 ·obtain⟨E,G⟩:=h j D C (by omega) B A;exact⟨(hp.other be j (by omega) (by omega)).trans E,(hp.other bf j (by omega) (by omega)).trans G⟩
theorem q1z{ds A:List Nd}{i:Nat}{x:Nd}(h:ds.drop i=x::A):∃hi:i<ds.length,ds[i]=x/\ds.drop (i+1)=A:=by
 have hi:i<ds.length:=by
  rcases lt_or_ge i ds.length with B|B
  ·exact B
  ·rw[List.drop_eq_nil_of_le B]at h;cases h
 rw[List.drop_eq_getElem_cons hi,List.cons.injEq]at h;exact⟨hi,h⟩
theorem z9e{ds A r:List Nd}{i:Nat}(h:ds.drop i=A++r):ds.drop (i+A.length)=r:=by
 rw[<-List.drop_drop,h,List.drop_left]
theorem q9v{ds:List Nd}{i:Nat}{t:Tr}{r:List Nd}(h:ds.drop i=t.N++r):i<ds.length:=by
 rcases lt_or_ge i ds.length with A|A
 ·exact A
 ·have B:=congrArg List.length h
  have:=t.pos
  rw[List.drop_eq_nil_of_le A,List.length_append,List.length_nil]at B;omega
theorem j8c(bp be bf s cap i:Nat)(ds:List Nd)(a:Option Addr)(t:Tr)(r:List Nd)(w:World)(ht:t.Wf)(hd:ds.drop i=t.N++r)(hl:ds.length<=400)(hN:q1j s w a ds)(h1:bp≠be)(h2:bp≠bf)(h3:be≠bf)(h4:s≠be)(h5:s≠bf)
  (c0:w.cell? bp=some (.slice a ds.length cap)) (c1:w.cell? (bp,1)=some (.slice be ds.length ds.length)) (c2:w.cell? (bp,2)=some (.slice bf ds.length ds.length))
  (hE:Row w be ds.length) (hF:Row w bf ds.length) (hK:q9i w be bf ds (i+1)):
  Calls prog 226 #[.pointer bp,i] w fun e w'=>e=.returned (.tuple #[])/\z3p be bf i ((i+t.N.length:Nat):Int) (.bool t.isFlat) w w':=by
 have U:=q9v hd;obtain⟨I,G⟩:=hE.cell U;obtain⟨J,H⟩:=hF.cell U;have K:w.frozen? (be,i)=false:=hE.frozen;have L:w.frozen? (bf,i)=false:=hF.frozen;obtain⟨o,Z,B,_,_⟩:=hN i U;subst Z;have C:(i:Int)<ds.length:=by omega
 cases t with
 | leaf x=>
  obtain⟨_,R,_⟩:=q1z (x:=x) (A:=r) hd;have Q:((i+(Tr.leaf x).N.length:Nat):Int)=(i:Int)+1:=rfl;rw[Q];rw[R]at B;rcases q4a ht.1 ht.2 with e|e|e|e|e
  ·have D:(Tr.leaf x).isFlat=true:=by simp[Tr.isFlat,Tr.flat,e]
   rw[D];rw[e]at B;exact q8y 1 (.inl rfl) bp be bf s o _ cap i w hl C h1 h2 h3 h4 h5 c0 c1 c2 B I J G H K L
  ·have D:(Tr.leaf x).isFlat=true:=by simp[Tr.isFlat,Tr.flat,e]
   rw[D];rw[e]at B;exact q8y 2 (.inr (.inl rfl)) bp be bf s o _ cap i w hl C h1 h2 h3 h4 h5 c0 c1 c2 B I J G H K L
  ·have D:(Tr.leaf x).isFlat=true:=by simp[Tr.isFlat,Tr.flat,e]
   rw[D];rw[e]at B;exact q8y 3 (.inr (.inr (.inl rfl))) bp be bf s o _ cap i w hl C h1 h2 h3 h4 h5 c0 c1 c2 B I J G H K L
  ·have D:(Tr.leaf x).isFlat=false:=by simp[Tr.isFlat,Tr.flat,e]
   rw[D];rw[e]at B;exact y4b bp be bf s o _ cap i w hl C h1 h2 h3 h4 h5 c0 c1 c2 B I J G H K L
  ·have D:(Tr.leaf x).isFlat=true:=by simp[Tr.isFlat,Tr.flat,e]
   rw[D];rw[e]at B;exact q8y 5 (.inr (.inr (.inr rfl))) bp be bf s o _ cap i w hl C h1 h2 h3 h4 h5 c0 c1 c2 B I J G H K L
 | one x a'=>
  obtain⟨_,R,E⟩:=q1z (x:=x) (A:=a'.N++r) hd;have V:=q9v E;obtain⟨P,O⟩:=hK (i+1) a' r Zl ht.2.2 E;have Q:((i+(Tr.one x a').N.length:Nat):Int)=((i+1+a'.N.length:Nat):Int):=by simp only[Tr.N,List.length_cons];congr 1;omega
  have D:(Tr.one x a').isFlat=a'.isFlat:=rfl;rw[Q,D];rw[R]at B;rcases q8h ht.2.1 with e|e
  ·rw[e]at B;exact k8x 7 (.inl rfl) bp be bf s o _ cap i _ _ w hl C (by omega) h1 h2 h3 h4 h5 c0 c1 c2 B P O I J G H K L
  ·rw[e]at B;exact k8x 8 (.inr rfl) bp be bf s o _ cap i _ _ w hl C (by omega) h1 h2 h3 h4 h5 c0 c1 c2 B P O I J G H K L
 | two x a' b'=>
  obtain⟨_,R,S⟩:=q1z (x:=x) (A:=a'.N++b'.N++r) hd;have E:ds.drop (i+1)=a'.N++(b'.N++r):=by rw[S,List.append_assoc]
  have M:=z9e E;have V:=q9v E;have b:=q9v M;have c:=a'.pos;obtain⟨P,O⟩:=hK (i+1) a' _ Zl ht.2.2.1 E;obtain⟨W,Y⟩:=hK _ b' r (by omega) ht.2.2.2 M;have Q:((i+(Tr.two x a' b').N.length:Nat):Int)=((i+1+a'.N.length+b'.N.length:Nat):Int):=by simp only[Tr.N,List.length_cons,List.length_append];congr 1;omega
  rw[Q];rw[R]at B;rcases q7t ht.2.1 with e|e
  ·have D:(Tr.two x a' b').isFlat=(a'.isFlat&&b'.isFlat):=(j8n e).2;rw[D];rw[e]at B;cases X:a'.isFlat with
   | true=>
    rw[X]at O;exact v6k bp be bf s o _ cap i _ _ _ w hl C (by omega) (by omega) (by omega) h1 h2 h3 h4 h5 c0 c1 c2 B P W O Y I J G H K L
   | false=>
    rw[X]at O;exact v6j bp be bf s o _ cap i _ _ _ w hl C (by omega) (by omega) (by omega) h1 h2 h3 h4 h5 c0 c1 c2 B P W O Y I J G H K L
  ·have D:(Tr.two x a' b').isFlat=a'.isFlat:=by simp[Tr.isFlat,Tr.flat,e]
   rw[D];rw[e]at B;exact y4c bp be bf s o _ cap i _ _ _ w hl C (by omega) (by omega) (by omega) h1 h2 h3 h4 h5 c0 c1 c2 B P W O I J G H K L
theorem k5z:(prog.info? 3).map (fun i=>(i.zero,i.size,i.bytes))=some (some (.int .i64 0),1,8):=by kernel_rfl
theorem v4q:(prog.info? 4).map (fun i=>(i.zero,i.size,i.bytes))=some (some (.bool false),1,1):=by kernel_rfl
structure z8l(w0:World)(s bp be bf:Nat)(a:Option Addr)(cap:Nat)(ds:List Nd)(w:World):Prop where
 b1:w0.heap.size<=bp
 b2:w0.heap.size+1<=be
 b3:w0.heap.size+1<=bf
 n1:bp≠be
 n2:bp≠bf
 n3:be≠bf
 c0:w.cell? ⟨bp,0,none⟩=some (.slice a ds.length cap)
 c1:w.cell? ⟨bp,1,none⟩=some (.slice (some ⟨be,0,none⟩) ds.length ds.length)
 c2:w.cell? ⟨bp,2,none⟩=some (.slice (some ⟨bf,0,none⟩) ds.length ds.length)
 re:Row w be ds.length
 rf:Row w bf ds.length
 rb:w.heap[w0.heap.size]?=some (.cells #[.slice none 0 0,.slice none 0 0,.slice none 0 0] 280 (0,0))
 bw:Below w0 w0 w
 nd:q1j s w a ds
theorem z8l.put{w0 w w':World}{s bp be bf cap i:Nat}{a:Option Addr}{ds:List Nd}{e f:Value}(h:z8l w0 s bp be bf a cap ds w)(hs:s<w0.heap.size)(hp:z3p be bf i e f w w'):z8l w0 s bp be bf a cap ds w' where
 b1:=h.b1
 b2:=h.b2
 b3:=h.b3
 n1:=h.n1
 n2:=h.n2
 n3:=h.n3
 c0:=(hp.other bp 0 (.inl h.n1.symm) (.inl h.n2.symm)).trans h.c0
 c1:=(hp.other bp 1 (.inl h.n1.symm) (.inl h.n2.symm)).trans h.c1
 c2:=(hp.other bp 2 (.inl h.n1.symm) (.inl h.n2.symm)).trans h.c2
 re:=hp.row h.re
 rf:=hp.row h.rf
 rb:=(hp.block _ (by have:=h.b2;omega) (by have:=h.b3;omega)).trans h.rb
 bw:=h.bw.trans (hp.W (by have:=h.b2;omega) (by have:=h.b3;omega))
 nd:=h.nd.kept (hp.block s (by have:=h.b2;omega) (by have:=h.b3;omega))
def q0j(ws:List Int):List Value:=ws.map (.int .i64)
theorem z3e(ws:List Int):(q0j ws).length=ws.length*1:=by simp[q0j]
theorem k2k(ws:List Int):∀u∈q0j ws,u.oneCell'=true:=by
 intro u A;obtain⟨x,_,rfl⟩:=List.mem_map.1 A;rfl
theorem z3d(a b:List Int):q0j (a++b)=q0j a++q0j b:=by simp[q0j]
theorem g3h(b o k:Nat):(⟨b,o,none⟩:Addr).add k=⟨b,o+k,none⟩:=by
 unfold Addr.add
 split
 ·rename_i h;subst h;rfl
 ·rfl
theorem j7m{B:Nat}{w:World}{ad:Addr}{ws:List Int}(h:q2s B w (some ad) ws):∀j u,(q0j ws)[j]?=some u->w.cell? (ad.add j)=some u:=by
 intro j u C;have A:j<ws.length:=by have:=(List.getElem?_eq_some_iff.1 C).1;simpa[q0j]using this
 obtain⟨b,o,e,_,c⟩:=h j A;simp only[Option.some.injEq]at e;subst e;rw[g3h]
 have:u=.int .i64 ws[j]:=by simp[q0j,A]at C;exact C.symm
 rw[this];exact c
theorem k9s{B:Nat}{w:World}{a:Option Addr}{n cap m:Nat}{ws:List Int}(h:w.ownsRow B 3 1 (.slice a n cap) m (q0j ws)):m=ws.length/\n=ws.length/\ws.length<=cap/\q9s w a ws/\(a=none->ws=[]/\cap=0):=by
 have I:m=ws.length:=by have:=h.1;rw[z3e]at this;omega
 rcases h.2 with⟨C,O⟩|⟨g,c,K,C,_,J,L,_,M,A⟩
 ·simp only[Value.slice.injEq]at C;obtain⟨rfl,rfl,rfl⟩:=C;have N:ws=[]:=List.eq_nil_of_length_eq_zero (by omega);subst N;exact⟨I,rfl,le_refl _,fun i E=>by simp at E,fun _=>⟨rfl,rfl⟩⟩
 ·simp only[Value.slice.injEq]at C;obtain⟨rfl,rfl,rfl⟩:=C;refine⟨I,I,by omega,?_,fun h=>by cases h⟩;intro i E
  have H:g<w.heap.size:=by
   rcases lt_or_ge g w.heap.size with D|D
   ·exact D
   ·simp[Array.getElem?_eq_none D]at J
  refine⟨g,0,rfl,H,?_⟩;have G:(q0j ws)[i]?=some (.int .i64 ws[i]):=by simp[q0j,E]
  rw[<-A]at G;rw[List.getElem?_take_of_lt (by omega)]at G;rw[Nat.zero_add];simp only[World.cell?,J];simpa using G
theorem z1y{w:World}{G:Array Oper}{rest:List Oper}{o:Oper}{a:Act}{Q:Exit->Act->World->Prop}(D:o.guard=none)(s x:Operand)
  (ho:o.op=.call {callee:=.builtin .append,args:=#[s,x],argTypes:=#[63,63]})
  (A:Nat) (v:Value) (n:Nat) (xs:List Int) (hs:a.eval s=v) (B:w.ownsRow A 3 1 v n (q0j xs))
  (wa:Option Addr) (ws:List Int) (wc:Nat) (hx:a.eval x=.slice wa ws.length wc) (hI:q9s w wa ws) (E:wa=none->ws=[]/\wc=0)
  (hb:n+ws.length<=1000000) (C:A<=w.heap.size)
  (h:∀v' w',w'.ownsRow A 3 1 v' (n+ws.length) (q0j (xs++ws))->w.grownBy w' v.ownBlock->wpList prog G Q rest (a.put o.dst v') w'):wpList prog G Q (o::rest) a w:=by
 obtain⟨M,L,H,I,J⟩:=info_parts k5z;cases wa with
 | none=>
  obtain⟨rfl,rfl⟩:=E rfl;refine wpList_append_own_none D s x 63 ho A 3 M 1 Tryz.underlying63 L v n (q0j xs) hs B hx ?_;refine h v w ?_ ⟨rfl,rfl,rfl,le_refl _,fun _ _ _=>rfl⟩;rw[List.append_nil];exact B
 | some ad=>
  refine wpList_append_own w D s x 63 ho A 3 M _ 1 8 Tryz.underlying63 L H I J rfl (by decide) v n (q0j xs) hs B ad ws.length wc (q0j ws) hx (z3e ws) (j7m hI) (k2k ws) (by unfold maxLen;omega) (by omega) C ?_;intro v' w' K N _;rw[<-z3d]at K;exact h v' w' K N
theorem z1h{w:World}{B e A n k:Nat}{v:Value}{xs:List Value}(h:w.ownsRow B e A v n xs)(hk:v.ownBlock=some k):k<w.heap.size/\∃cur,w.heap[k]?=some (.cells cur e (0,0)):=by
 rcases h.2 with⟨rfl,_⟩|⟨g,c,cur,rfl,_,C,_⟩
 ·simp[Value.ownBlock]at hk
 ·simp only[Value.ownBlock,Option.some.injEq]at hk;subst hk;exact⟨(Array.getElem?_eq_some_iff.1 C).1,cur,C⟩
theorem y1m{w:World}{B e A n k:Nat}{v:Value}{xs:List Value}(h:w.ownsRow B e A v n xs)(hk:v.ownBlock=some k):B<=k:=by
 rcases h.2 with⟨rfl,_⟩|⟨g,c,C,rfl,D,_⟩
 ·simp[Value.ownBlock]at hk
 ·simp only[Value.ownBlock,Option.some.injEq]at hk;subst hk;exact D
theorem z1g{w w':World}{B e A n:Nat}{v:Value}{xs:List Value}(h:w.ownsRow B e A v n xs)(hk:∀k,v.ownBlock=some k->w'.heap[k]?=w.heap[k]?):w'.ownsRow B e A v n xs:=by
 refine⟨h.1,?_⟩;rcases h.2 with E|⟨g,c,D,rfl,G,H,C⟩
 ·exact .inl E
 ·exact .inr ⟨g,c,D,rfl,G,(hk g rfl).trans H,C⟩
structure ChR(sb g mb wd:Nat)(R:List Pl)(S:Nat->Nat->Bool)(w wr:World)(v3:Value)(b4 p c:Nat)(us:List Int):Prop where
 own:wr.ownsRow w.heap.size 3 1 v3 us.length (q0j us)
 box:wr.heap[b4]?=some (.cells #[.int .i64 p,.int .i64 c] 216 (0,0))
 lo:w.heap.size<=b4
 pl:p<=R.length
 cl:c<=wd
 inS:p<R.length->S p c=true
 way:us++(vv R wd p c).2=(vv R wd 0 0).2
 len:us.length<=p
 inv:Inv sb g mb wd R wr S
 bw:Below w w wr
section
variable {sb g mb wd b4 p c:Nat} {R:List Pl} {S:Nat→Nat→Bool} {w wr wx:World} {v3:Value} {us:List Int}
theorem ChR.c0(h:ChR sb g mb wd R S w wr v3 b4 p c us):wr.cell? ⟨b4,0,none⟩=some (.int .i64 p):=by simp[World.cell?,h.box]
theorem ChR.c1(h:ChR sb g mb wd R S w wr v3 b4 p c us):wr.cell? ⟨b4,1,none⟩=some (.int .i64 c):=by simp[World.cell?,h.box]
theorem ChR.lt(h:ChR sb g mb wd R S w wr v3 b4 p c us):b4<wr.heap.size:=World.block_lt_of_cell? wr ⟨b4,0,none⟩ h.c0
theorem ChR.form(h:ChR sb g mb wd R S w wr v3 b4 p c us):∃a cap,v3=.slice a us.length cap:=by
 rcases h.own.2 with⟨A,C⟩|⟨g,c,B,A,_⟩
 ·exact⟨none,0,by rw[A,C]⟩
 ·exact⟨_,c,A⟩
theorem ChR.apart(h:ChR sb g mb wd R S w wr v3 b4 p c us){k:Nat}(hk:v3.ownBlock=some k):k≠b4:=by
 intro e;subst e;obtain⟨_,B,A⟩:=z1h h.own hk;rw[h.box]at A;cases A
theorem ChR.W(h:ChR sb g mb wd R S w wr v3 b4 p c us)(hb:Below wr wr wx):ChR sb g mb wd R S w wx v3 b4 p c us:=
 ⟨z1g h.own fun k hk=>hb.block k (z1h h.own hk).1,(hb.block _ h.lt).trans h.box,h.lo,h.pl,h.cl,h.inS,h.way,h.len,h.inv.W hb,h.bw.trans (hb.mono h.bw.size)⟩
end
def chM(n:Nat)(v:Value)(wr:World):Nat:=match v with
 | .pointer (some a)=>(match wr.cell? a with|some (.int _ p)=>n-p.toNat|_=>0)
 | _=>0
theorem k8a{n b p:Nat}{wr:World}(h:wr.cell? b=some ↑(p:Int)):chM n (.pointer b) wr=n-p:=by
 simp[chM,h]
theorem v4z{sb g mb wd p c L M nx dp:Nat}{R:List Pl}{S:Nat->Nat->Bool}{w W:World}{v:Value}{us A:List Int}{ks:List (Nat × Tr)}{t:Tr}(G:Sp R L M p t nx dp ks)(hc:c<=wd)(hw:wd<=100)(hL:L<=400)(hM:M<=3200)(D:us++(vv R wd p c).2=(vv R wd 0 0).2)(O:us.length<=p)(hS:S p c=true)
  (H:A=us++(if z2n t.root.op=true then [((crs R wd p c).ch:Int)]else [])) (C:W.ownsRow w.heap.size 3 1 v A.length (q0j A)) (B:Inv sb g mb wd R W S) (E:Below w w W):
  ChR sb g mb wd R S w (W.alloc (.cells #[(crs R wd p c).np,(crs R wd p c).nc] 216)) v W.heap.size (crs R wd p c).np (crs R wd p c).nc A/\p<(crs R wd p c).np:=by
 obtain⟨Q,ch,_,N⟩:=j6b G hc;have K:=j8y (ch:=ch) G hc hw hL hM;have I:(crs R wd p c).np=(q3p R wd p c ch).np:=by rw[N];rfl
 have P:(crs R wd p c).nc=(q3p R wd p c ch).nc:=by rw[N];rfl
 have J:=K.lo;refine⟨⟨z1g C fun k hk=>Below.heap_alloc _ _ _ (z1h C hk).1,heap_alloc_new W _,E.size,by rw[I];exact K.hi,by rw[P];exact K.cl,fun hl=>(B.cl p c hS).2.2 hl,?_,?_,B.alloc _,E.alloc E.size _⟩,by rw[I];exact J⟩
 ·rw[Q]at D;rw[H,List.append_assoc];exact D
 ·rw[H,I]
  split<;>simp<;>omega
theorem k1p{t:Tr}{wd:Nat}(sb g mb:Nat)(ht:t.Wf)(hn:t.sz<=400)(hw:wd<=100)(w:World)(S:Nat->Nat->Bool)(h:Inv sb g mb wd (q0a t) w S)(h0:S 0 0=true):
  Calls prog 127 #[.pointer (some ⟨sb,0,none⟩)] w fun e w'=>(∃a cap,e=.returned (.slice a (vv (q0a t) wd 0 0).2.length cap)/\w'.ownsRow w.heap.size 3 1 (.slice a (vv (q0a t) wd 0 0).2.length cap) (vv (q0a t) wd 0 0).2.length (q0j (vv (q0a t) wd 0 0).2))/\Below w w w':=by
 have HI:=hid h;have H0:=hid h0;have Ah:=h.lt;have hR:(q0a t).length<=400:=by rw[q2y];exact hn
 have A4:Hid (∃R,R=q0a t):=⟨_,rfl⟩
 have A0:Hid (∀W:World,W=w.alloc (.cells #[.int .i64 0,.int .i64 0] 216)->ChR sb g mb wd (q0a t) S w W (.slice none 0 0) w.heap.size 0 0 []):=fun W hW=>by
  subst hW;exact⟨⟨rfl,.inl ⟨rfl,rfl⟩⟩,heap_alloc_new w _,le_refl _,zero_le _,zero_le _,fun _=>H0.o,rfl,le_refl _,HI.o.alloc _,(Below.refl _ w).alloc Zl _⟩
 go_in;go_wp2_with fail
 go_loopw [3,4] (fun v3 v4 wr=>∃G p c D,v4=.pointer (some ⟨G,0,none⟩)/\ChR sb g mb wd (q0a t) S w wr v3 G p c D) (fun _ v4 wr=>chM (q0a t).length v4 wr)
 case atStart=>exact⟨_,0,0,[],rfl,A0.o _ rfl⟩
 case round=>
  obtain⟨G,p,c,D,rfl,x⟩:=hrel;obtain⟨a3,E,rfl⟩:=x.form;have M:=hid x;have c0:=x.inv.pl.c0;have p0:=x.c0;by_cases hp:p<(q0a t).length
  ·have A2:(p:Int)<((q0a t).length:Int):=by omega
   obtain⟨t',nx,dp,ks,Aj⟩:=v1y ht hp;have Az:=hid Aj;have Ai:p<=400:=by omega
   have Ag:c<=100:=by have:=x.cl;omega
   have HQ:Hid (∀W,Below wr wr W->W.cell? ⟨sb,0,none⟩=some (.slice (some ⟨g,0,none⟩) (q0a t).length (q0a t).length)/\W.cell? ⟨G,0,none⟩=some (.int .i64 p)/\W.cell? ⟨g,p*7,none⟩=some (.int .i64 (q2 (q1r (q0a t) p)).op)/\W.cell? ⟨g,p*7+1,none⟩=some (.string (q2 (q1r (q0a t) p)).tx)/\W.cell? ⟨g,p*7+2,none⟩=some (.int .i64 (q2 (q1r (q0a t) p)).n)/\W.cell? ⟨g,p*7+3,none⟩=some (.int .i64 (q2 (q1r (q0a t) p)).en)/\W.cell? ⟨g,p*7+4,none⟩=some (.int .i64 (q2 (q1r (q0a t) p)).nx)/\W.cell? ⟨g,p*7+5,none⟩=some (.int .i64 (q2 (q1r (q0a t) p)).dp)/\W.cell? ⟨g,p*7+6,none⟩=some (.int .i64 (q2 (q1r (q0a t) p)).lg)):=fun W hW=>by
    have A:=M.o.W hW;obtain⟨d0,d1,d2,d3,d4,d5,d6⟩:=A.inv.pl.pr.get p hp;exact⟨A.inv.pl.c0,A.c0,d0,d1,d2,d3,d4,d5,d6⟩
   have r:(q2 (q1r (q0a t) p)).op=t'.root.op:=by rw[Aj.at];rfl
   have Ae:Hid (∀W,Inv sb g mb wd (q0a t) W S->(Instr.lookup 212 (.map (some mb)) (.agg #[.int .i64 (p:Int),.int .i64 (c:Int)]) false).run prog W=.ok (.agg #[.int .i64 (crs (q0a t) wd p c).o,.int .i64 (crs (q0a t) wd p c).l,.int .i64 (crs (q0a t) wd p c).ch,.int .i64 (crs (q0a t) wd p c).np,.int .i64 (crs (q0a t) wd p c).nc]) W):=fun W hW=>by
    have:=hW.me.look (p:=p) (c:=c) Ai Ag
    rw[M.o.inS hp,if_pos rfl]at this;exact this
   have A6:=j6s;have A5:=k5u;have A7:(0:Int)<=(p:Int):=by omega
   have i:Hid (∀(W:World)(v:Value)(us':List Int),us'=D++(if z2n t'.root.op=true then [((crs (q0a t) wd p c).ch:Int)]else [])->W.ownsRow w.heap.size 3 1 v us'.length (q0j us')->Inv sb g mb wd (q0a t) W S->Below w w W->ChR sb g mb wd (q0a t) S w (W.alloc (.cells #[.int .i64 (crs (q0a t) wd p c).np,.int .i64 (crs (q0a t) wd p c).nc] 216)) v W.heap.size (crs (q0a t) wd p c).np (crs (q0a t) wd p c).nc us'/\p<(crs (q0a t) wd p c).np):=fun W v us' e1 e2 e3 e4=>
    v4z Az.o M.o.cl hw (by have:=z0a t;unfold Tr.sz at hn;omega) (by have:=z0a t;unfold Tr.sz at hn;omega) M.o.way M.o.len (M.o.inS hp) e1 e2 e3 e4
   clear x Aj;generalize q2 (q1r (q0a t) p)=q at *;generalize crs (q0a t) wd p c=k at *;cases L:z2n q.op with
   | false=>
    have Ad:Hid (∀W,Cb 165 #[.agg #[.int .i64 q.op,.string q.tx,.int .i64 q.n,.int .i64 q.en,.int .i64 q.nx,.int .i64 q.dp,.int .i64 q.lg]] W (.bool false)):=fun W=>by have:=z0n q.op q.tx q.n q.en q.nx q.dp q.lg W;rw[L]at this;exact this
    have P:Hid (z2n t'.root.op=false):=by rw[<-r];exact L
    clear L r;go_wp2_with fail
    go_quiet (fail)
    go_wp2_with fail;have J:Below wr wr (wr.drewN nq):=k7w (Below.refl _ wr) nq;generalize wr.drewN nq=w1 at *;have U:=HQ.o w1.drew J.drew;have N:Hid (Below wr wr w1):=J;clear J
    go_region_held3 (fun w'=>w'.cell? ⟨sb,0,none⟩=some (.slice (some ⟨g,0,none⟩) (q0a t).length (q0a t).length)/\w'.cell? ⟨G,0,none⟩=some (.int .i64 p)/\w'.cell? ⟨g,p*7,none⟩=some (.int .i64 q.op)/\w'.cell? ⟨g,p*7+1,none⟩=some (.string q.tx)/\w'.cell? ⟨g,p*7+2,none⟩=some (.int .i64 q.n)/\w'.cell? ⟨g,p*7+3,none⟩=some (.int .i64 q.en)/\w'.cell? ⟨g,p*7+4,none⟩=some (.int .i64 q.nx)/\w'.cell? ⟨g,p*7+5,none⟩=some (.int .i64 q.dp)/\w'.cell? ⟨g,p*7+6,none⟩=some (.int .i64 q.lg))
     (first|with_reducible exact U|with_reducible exact V)
     ((go_at_call 165;refine(Ad.o w1.drew).mono ?_;rintro e B⟨rfl,X⟩;have I:Below wr wr B:=N.o.drew.trans (X.mono N.o.size);have V:=HQ.o B I))
    all_goals
     have A:=M.o.W I;have C:Hid (ChR sb g mb wd (q0a t) S w B (.slice a3 D.length E) G p c D):=A;have x0:=A.c0;have x1:=A.c1;have m2:=fun O=>ka A.inv.c2 O
     have hL:=fun O=>Ae.o (B.alloc O).drew ((A.inv.alloc O).kept fun _ _=>rfl)
     clear A X I V U c0 p0;go_wp2_with fail
     go_region
     all_goals
      go_wp2
      go_roundw
      case rel=>
       exact⟨_,_,_,D,rfl,((i.o B _ D (by rw[P.o];simp) C.o.own C.o.inv C.o.bw).1).W Zb.drew⟩
      case measure=>
       have h5:=(i.o B _ D (by rw[P.o];simp) C.o.own C.o.inv C.o.bw);have e5:chM (q0a t).length (.pointer (some ⟨G,0,none⟩)) wr=(q0a t).length-p:=k8a M.o.c0;have e6:chM (q0a t).length (.pointer (some ⟨B,0,none⟩)) (B.alloc (.cells #[.int .i64 k.np,.int .i64 k.nc] 216)).drew=(q0a t).length-k.np:=k8a h5.1.c0;have h6:=h5.2;rw[e5,e6];omega
   | true=>
    have Ad:Hid (∀W,Cb 165 #[.agg #[.int .i64 q.op,.string q.tx,.int .i64 q.n,.int .i64 q.en,.int .i64 q.nx,.int .i64 q.dp,.int .i64 q.lg]] W (.bool true)):=fun W=>by have:=z0n q.op q.tx q.n q.en q.nx q.dp q.lg W;rw[L]at this;exact this
    have P:Hid (z2n t'.root.op=true):=by rw[<-r];exact L
    clear L r;go_wp2_with fail
    go_quiet (fail)
    go_wp2_with fail;have J:Below wr wr (wr.drewN nq):=k7w (Below.refl _ wr) nq;generalize wr.drewN nq=w1 at *;have U:=HQ.o w1.drew J.drew;have N:Hid (Below wr wr w1):=J;clear J
    go_region_held3 (fun w'=>w'.cell? ⟨sb,0,none⟩=some (.slice (some ⟨g,0,none⟩) (q0a t).length (q0a t).length)/\w'.cell? ⟨G,0,none⟩=some (.int .i64 p)/\w'.cell? ⟨g,p*7,none⟩=some (.int .i64 q.op)/\w'.cell? ⟨g,p*7+1,none⟩=some (.string q.tx)/\w'.cell? ⟨g,p*7+2,none⟩=some (.int .i64 q.n)/\w'.cell? ⟨g,p*7+3,none⟩=some (.int .i64 q.en)/\w'.cell? ⟨g,p*7+4,none⟩=some (.int .i64 q.nx)/\w'.cell? ⟨g,p*7+5,none⟩=some (.int .i64 q.dp)/\w'.cell? ⟨g,p*7+6,none⟩=some (.int .i64 q.lg))
     (first|with_reducible exact U|with_reducible exact V)
     ((go_at_call 165;refine(Ad.o w1.drew).mono ?_;rintro e B⟨rfl,X⟩;have I:Below wr wr B:=N.o.drew.trans (X.mono N.o.size);have V:=HQ.o B I))
    all_goals
     have A:=M.o.W I;have C:Hid (ChR sb g mb wd (q0a t) S w B (.slice a3 D.length E) G p c D):=A;have x0:=A.c0;have x1:=A.c1;have Af:Hid (∀W,Inv sb g mb wd (q0a t) W S->W.heap[G]?=some (.cells #[.int .i64 p,.int .i64 c] 216 (0,0))->W.cell? ⟨sb,2,none⟩=some (.map (some mb))/\W.cell? ⟨G,0,none⟩=some (.int .i64 p)/\W.cell? ⟨G,1,none⟩=some (.int .i64 c)/\(Instr.lookup 212 (.map (some mb)) (.agg #[.int .i64 (p:Int),.int .i64 (c:Int)]) false).run prog W=.ok (.agg #[.int .i64 k.o,.int .i64 k.l,.int .i64 k.ch,.int .i64 k.np,.int .i64 k.nc]) W):=fun W h1 h2=>⟨h1.c2,by simp[World.cell?,h2],by simp[World.cell?,h2],Ae.o W h1⟩
     have Y:∀O,(B.alloc O).drew.heap[G]?=some (.cells #[.int .i64 p,.int .i64 c] 216 (0,0)):=fun O=>(Below.heap_alloc B O G A.lt).trans A.box
     have Ao:=Af.o B.drew (A.inv.kept fun _ _=>rfl) A.box;have Ap:=fun O=>Af.o (B.alloc O).drew ((A.inv.alloc O).kept fun _ _=>rfl) (Y O)
     have Ay:Hid (∀H,(B.alloc (.cells #[.int .i64 k.ch] 3)).drew.grownBy H (Value.slice a3 D.length E).ownBlock->Inv sb g mb wd (q0a t) H S/\H.heap[G]?=some (.cells #[.int .i64 p,.int .i64 c] 216 (0,0))/\Below w w H):=fun H hg=>by
      have A8:B.heap.size<=(B.alloc (.cells #[.int .i64 k.ch] 3)).drew.heap.size:=by show _<=(B.alloc _).heap.size;simp
      have A1:=C.o.bw.size
      have m:∀b,b<w.heap.size->some b≠(Value.slice a3 D.length E).ownBlock:=fun b hb e=>by
       have:=y1m C.o.own e.symm
       omega
      have A3:=C.o.inv.lt;refine⟨((C.o.inv.alloc (.cells #[.int .i64 k.ch] 3)).kept (w':=(B.alloc (.cells #[.int .i64 k.ch] 3)).drew) fun _ _=>rfl).kept3 (hg.block _ (by omega) (m _ Ah.1)) (hg.block _ (by omega) (m _ Ah.2.1)) (hg.block _ (by omega) (m _ Ah.2.2)),(hg.block G (by have:=C.o.lt;omega) (fun e=>C.o.apart e.symm rfl)).trans (Y _),?_⟩;exact((C.o.bw.alloc A1 (.cells #[.int .i64 k.ch] 3)).drew).trans ⟨hg.os,hg.tape,hg.output,hg.size,fun b hb=>hg.block b (by omega) (m b hb)⟩
     obtain⟨i0,As,Av,Aw,Ax⟩:=info_parts k5z;have f:(B.alloc (.cells #[.int .i64 k.ch] 3)).drew.ownsRow w.heap.size 3 1 (.slice a3 D.length E) D.length (q0j D):=z1g A.own fun b hb=>Below.heap_alloc B _ b (z1h A.own hb).1
     have Z:∀j u,[Value.int .i64 (k.ch:Int)][j]?=some u->(B.alloc (.cells #[.int .i64 k.ch] 3)).drew.cell? ((⟨B,0,none⟩:Addr).add j)=some u:=World.news_of_block (cs:=#[.int .i64 k.ch]) (heap_alloc_new B (.cells #[.int .i64 k.ch] 3));have Ac:∀u∈[Value.int .i64 (k.ch:Int)],u.oneCell'=true:=by intro u hu;simp at hu;subst hu;rfl
     have Ab:D.length+1<=maxLen:=by have:=A.len;unfold maxLen;omega
     have Aa:(D.length+1)*8<=140737488355328:=by have:=A.len;omega
     have y:w.heap.size<=(B.alloc (.cells #[.int .i64 k.ch] 3)).drew.heap.size:=by show _<=(B.alloc _).heap.size;have:=A.bw.size;simp;omega
     have An:(B.alloc (.cells #[.int .i64 k.ch] 3)).drew.heap.size=B.heap.size+1:=by show(B.alloc _).heap.size=_;simp
     clear A X I V U c0 p0 Y x0 x1;go_wp2_with fail
     go_region_held3 (fun w'=>w'.cell? ⟨sb,2,none⟩=some (.map (some mb))/\w'.cell? ⟨G,0,none⟩=some (.int .i64 p)/\w'.cell? ⟨G,1,none⟩=some (.int .i64 c)/\(Instr.lookup 212 (.map (some mb)) (.agg #[.int .i64 (p:Int),.int .i64 (c:Int)]) false).run prog w'=.ok (.agg #[.int .i64 k.o,.int .i64 k.l,.int .i64 k.ch,.int .i64 k.np,.int .i64 k.nc]) w')
      (first|with_reducible exact Ao|with_reducible exact Ap _|with_reducible exact Aq)
      ((refine step_append_lies _ (by rfl) _ _ 63 (by rfl) w.heap.size 3 i0 _ 1 8 Tryz.underlying63 As Av Aw Ax rfl (by decide) (.slice a3 D.length E) D.length (q0j D) (by rfl) f ⟨B,0,none⟩ 1 1 [.int .i64 k.ch] (by rfl) rfl Z Ac (by decide) Ab Aa y (B.heap.size+1) An ?_;intro g3 Am H d K Ar At;obtain⟨Q,Au,z⟩:=Ay.o H K;have Aq:=Af.o H Q Au))
     all_goals
      have Al:Hid (H.ownsRow w.heap.size 3 1 (.slice (some ⟨g3,0,none⟩) (D.length+1) Am) (D++[(k.ch:Int)]).length (q0j (D++[(k.ch:Int)]))):=by
       show H.ownsRow _ _ _ _ _ _;rw[z3d,List.length_append];exact d
      have Ak:Hid (Inv sb g mb wd (q0a t) H S):=Q;have s:Hid (Below w w H):=z;obtain⟨_,x0,x1,_⟩:=Aq;have m2:=fun O=>ka Q.c2 O
      have hL:=fun O=>Ae.o (H.alloc O).drew ((Q.alloc O).kept fun _ _=>rfl)
      clear Ao Ap d K Ar At Q Au z f Z Ac Ab Aa y An As Av Aw Ax;go_wp2_with fail
      go_region
      all_goals
       go_wp2
       go_roundw
       case rel=>
        exact⟨_,_,_,_,rfl,((i.o H _ _ (by rw[P.o];rfl) Al.o Ak.o s.o).1).W Zb.drew⟩
       case measure=>
        have h5:=(i.o H _ _ (by rw[P.o];rfl) Al.o Ak.o s.o);have e5:chM (q0a t).length (.pointer (some ⟨G,0,none⟩)) wr=(q0a t).length-p:=k8a M.o.c0;have e6:chM (q0a t).length (.pointer (some ⟨H,0,none⟩)) (H.alloc (.cells #[.int .i64 k.np,.int .i64 k.nc] 216)).drew=(q0a t).length-k.np:=k8a h5.1.c0;have h6:=h5.2;rw[e5,e6];omega
  ·have A2:¬(p:Int)<((q0a t).length:Int):=by omega
   have HE:Hid (D=(vv (q0a t) wd 0 0).2):=by
    have:=x.way
    rw[y1z (by omega),List.append_nil]at this;exact this
   clear x;go_wp2_with fail
   go_quiet (fail)
   go_wp2;go_ret;refine⟨⟨a3,E,?_,?_⟩,?_⟩
   ·rw[<-HE.o];rfl
   ·rw[<-HE.o];exact z1g M.o.own fun _ _=>rfl
   ·exact k7w M.o.bw _
def F1(R:List Pl)(k:Nat):Nat->Q:=fun j=>if k<=j then q1 (q1r R j)else q0
theorem y2d{R:List Pl}{i:Nat}:upd (F1 R (i+1)) i (q1 (q1r R i))=F1 R i:=by
 funext j
 simp only[upd,F1];by_cases e:j=i
 ·subst e;simp
 ·by_cases h:i+1<=j
  ·rw[if_neg e,if_pos h,if_pos (by omega)]
  ·rw[if_neg e,if_neg h,if_neg (by omega)]
structure Tl(R:List Pl)(L M i:Nat)(F:Nat->Q):Prop where
 op:∀j,j<R.length->(F j).op=(q1r R j).nd.op
 tx:∀j,j<R.length->(F j).tx=(q1r R j).nd.tx
 n:∀j,j<R.length->(F j).n=(q1r R j).nd.n
 en:∀j,j<R.length->(F j).en=(q1r R j).en
 nx:∀j,j<R.length->(j=0\/∃p,p<i/\j3z R L M p j)->(F j).nx=(q1r R j).nx
 dp:∀j,j<R.length->(j=0\/∃p,p<i/\j3z R L M p j)->(F j).dp=(q1r R j).dp
 lg:∀j,j<R.length->j<i->(F j).lg=(q1r R j).lg
 l0:∀j,j<R.length->i<=j->(F j).lg=0
theorem Tl.tell{R:List Pl}{L M i j:Nat}{F:Nat->Q}{x y:Int}(h:Tl R L M i F)(hx:x=(q1r R j).nx)(hy:y=(q1r R j).dp):Tl R L M i (upd F j {F j with nx:=x,dp:=y}) where
 op k hk:=by by_cases e:k=j;subst e;rw[q0p];exact h.op k hk;rw[q1l e];exact h.op k hk
 tx k hk:=by by_cases e:k=j;subst e;rw[q0p];exact h.tx k hk;rw[q1l e];exact h.tx k hk
 n k hk:=by by_cases e:k=j;subst e;rw[q0p];exact h.n k hk;rw[q1l e];exact h.n k hk
 en k hk:=by by_cases e:k=j;subst e;rw[q0p];exact h.en k hk;rw[q1l e];exact h.en k hk
 nx k hk hp:=by by_cases e:k=j;subst e;rw[q0p];exact hx;rw[q1l e];exact h.nx k hk hp
 dp k hk hp:=by by_cases e:k=j;subst e;rw[q0p];exact hy;rw[q1l e];exact h.dp k hk hp
 lg k hk hp:=by by_cases e:k=j;subst e;rw[q0p];exact h.lg k hk hp;rw[q1l e];exact h.lg k hk hp
 l0 k hk hp:=by by_cases e:k=j;subst e;rw[q0p];exact h.l0 k hk hp;rw[q1l e];exact h.l0 k hk hp
theorem Tl.next{R:List Pl}{L M i:Nat}{F:Nat->Q}(h:Tl R L M i F)(hp:∀j,j<R.length->j3z R L M i j->(F j).nx=(q1r R j).nx/\(F j).dp=(q1r R j).dp)(hl:(F i).lg=(q1r R i).lg):Tl R L M (i+1) F where
 op:=h.op
 tx:=h.tx
 n:=h.n
 en:=h.en
 nx k hk hq:=by
  rcases hq with e|⟨p,B,A⟩
  ·exact h.nx k hk (.inl e)
  ·by_cases e:p=i
   ·subst e;exact(hp k hk A).1
   ·exact h.nx k hk (.inr ⟨p,by omega,A⟩)
 dp k hk hq:=by
  rcases hq with e|⟨p,B,A⟩
  ·exact h.dp k hk (.inl e)
  ·by_cases e:p=i
   ·subst e;exact(hp k hk A).2
   ·exact h.dp k hk (.inr ⟨p,by omega,A⟩)
 lg k hk hq:=by
  by_cases e:k=i
  ·subst e;exact hl
  ·exact h.lg k hk (by omega)
 l0 k hk hq:=h.l0 k hk (by omega)
theorem Tl.setLg{R:List Pl}{L M i:Nat}{F:Nat->Q}{x:Int}(h:Tl R L M i F):Tl R L M i F->∀k,k<R.length->(upd F i {F i with lg:=x} k).op=(F k).op/\(upd F i {F i with lg:=x} k).tx=(F k).tx/\(upd F i {F i with lg:=x} k).n=(F k).n/\(upd F i {F i with lg:=x} k).en=(F k).en/\(upd F i {F i with lg:=x} k).nx=(F k).nx/\(upd F i {F i with lg:=x} k).dp=(F k).dp:=by
 intro _ k _;by_cases e:k=i
 ·subst e;rw[q0p];exact⟨rfl,rfl,rfl,rfl,rfl,rfl⟩
 ·rw[q1l e];exact⟨rfl,rfl,rfl,rfl,rfl,rfl⟩
theorem Tl.nextLg{R:List Pl}{L M i:Nat}{F:Nat->Q}(h:Tl R L M i F)(hp:∀j,j<R.length->j3z R L M i j->(F j).nx=(q1r R j).nx/\(F j).dp=(q1r R j).dp):Tl R L M (i+1) (upd F i {F i with lg:=(q1r R i).lg}) where
 op k hk:=by rw[(h.setLg h k hk).1];exact h.op k hk
 tx k hk:=by rw[(h.setLg h k hk).2.1];exact h.tx k hk
 n k hk:=by rw[(h.setLg h k hk).2.2.1];exact h.n k hk
 en k hk:=by rw[(h.setLg h k hk).2.2.2.1];exact h.en k hk
 nx k hk hq:=by
  rw[(h.setLg h k hk).2.2.2.2.1];rcases hq with e|⟨p,B,A⟩
  ·exact h.nx k hk (.inl e)
  ·by_cases e:p=i
   ·subst e;exact(hp k hk A).1
   ·exact h.nx k hk (.inr ⟨p,by omega,A⟩)
 dp k hk hq:=by
  rw[(h.setLg h k hk).2.2.2.2.2];rcases hq with e|⟨p,B,A⟩
  ·exact h.dp k hk (.inl e)
  ·by_cases e:p=i
   ·subst e;exact(hp k hk A).2
   ·exact h.dp k hk (.inr ⟨p,by omega,A⟩)
 lg k hk hq:=by
  by_cases e:k=i
  ·subst e;rw[q0p]
  ·rw[q1l e];exact h.lg k hk (by omega)
 l0 k hk hq:=by rw[q1l (by omega)];exact h.l0 k hk (by omega)
theorem Tl.all{t:Tr}{F:Nat->Q}(ht:t.Wf)(h:Tl (q0a t) t.lf t.dsum (q0a t).length F):∀j,j<(q0a t).length->F j=q2 (q1r (q0a t) j):=by
 intro j A
 have C:j=0\/∃p,p<(q0a t).length/\j3z (q0a t) t.lf t.dsum p j:=by
  rcases Nat.eq_zero_or_pos j with e|e
  ·exact .inl e
  ·obtain⟨p,L,B⟩:=k3s ht e A;exact .inr ⟨p,by omega,B⟩
 have D:=h.op j A;have E:=h.tx j A;have G:=h.n j A;have H:=h.en j A;have I:=h.nx j A C;have J:=h.dp j A C;have K:=h.lg j A A;unfold q2;rw[<-D,<-E,<-G,<-H,<-I,<-J,<-K]
theorem Tl.start{t:Tr}:Tl (q0a t) t.lf t.dsum 0 (upd (F1 (q0a t) 0) 0 {F1 (q0a t) 0 0 with nx:=t.sz}):=by
 have A:∀j,F1 (q0a t) 0 j=q1 (q1r (q0a t) j):=fun j=>by simp[F1]
 have C:q1r (q0a t) 0=z7q t 0 t.sz 0 []:=by
  obtain⟨r,e⟩:=v1d t 0 t.sz 0 [];rw[q1r,List.getD,q0a,e];rfl
 have B:∀(P:Q->Prop)k,(k=0->P {F1 (q0a t) 0 0 with nx:=t.sz})->(k≠0->P (F1 (q0a t) 0 k))->P (upd (F1 (q0a t) 0) 0 {F1 (q0a t) 0 0 with nx:=t.sz} k):=by
  intro P k D E;by_cases e:k=0
  ·subst e;rw[q0p];exact D rfl
  ·rw[q1l e];exact E e
 refine⟨fun j _=>?_,fun j _=>?_,fun j _=>?_,fun j _=>?_,fun j _ hq=>?_,fun j _ hq=>?_,fun j _ hq=>?_,fun j _ _=>?_⟩
 ·refine B (fun q=>q.op=_) j (fun e=>?_) (fun _=>?_)
  ·subst e;rw[A];rfl
  ·rw[A];rfl
 ·refine B (fun q=>q.tx=_) j (fun e=>?_) (fun _=>?_)
  ·subst e;rw[A];rfl
  ·rw[A];rfl
 ·refine B (fun q=>q.n=_) j (fun e=>?_) (fun _=>?_)
  ·subst e;rw[A];rfl
  ·rw[A];rfl
 ·refine B (fun q=>q.en=_) j (fun e=>?_) (fun _=>?_)
  ·subst e;rw[A];rfl
  ·rw[A];rfl
 ·rcases hq with e|⟨p,G,_⟩
  ·subst e;rw[q0p,C];rfl
  ·omega
 ·rcases hq with e|⟨p,G,_⟩
  ·subst e;rw[q0p,A,C];rfl
  ·omega
 ·omega
 ·refine B (fun q=>q.lg=0) j (fun e=>?_) (fun _=>?_)
  ·rw[A];rfl
  ·rw[A];rfl
theorem y2u{R:List Pl}{L M i nx dp:Nat}{ks:List (Nat × Tr)}{t:Tr}(bp g:Nat)(F:Nat->Q)(w:World)(hR:R.length<=400)(hM:M<=3200)(h:Sp R L M i t nx dp ks)(hT:Tl R L M i F)(h0:i=0\/∃p,p<i/\j3z R L M p i)(c:bp≠g)
  (c0:w.cell? ↑bp=some (.slice ↑g R.length R.length)) (hp:PwR w g R.length F):
  Calls prog 162 #[.pointer (some ⟨bp,0,none⟩),.int .i64 i] w fun e w'=>e=.returned (.tuple #[])/\(∃F',PwR w' g R.length F'/\Tl R L M i F'/\∀j,j<R.length->j3z R L M i j->(F' j).nx=(q1r R j).nx/\(F' j).dp=(q1r R j).dp)/\q0n w g w w':=by
 have d:=h.lt;have W:=h.at;have I:=hT.op i d;have s:=hT.n i d;have S:=hT.nx i d h0;have O:=hT.dp i d h0;rw[W]at I s S O;have v:=h.bd;cases t with
 | leaf x=>
  have B:(F i).op=x.op:=I
  have J:∀k:Int,k=6\/k=9\/k=7\/k=8->((F i).op==k)=false:=fun k hk=>beq_eq_false_iff_ne.2 (by
   rw[B]
   rcases q4a h.wf.1 h.wf.2 with e|e|e|e|e<;>omega)
  refine(v4v bp g R.length i F w d c0 hp (J 6 (by omega)) (J 9 (by omega)) (J 7 (by omega)) (J 8 (by omega))).mono ?_;rintro e q⟨rfl,U,V⟩;refine⟨rfl,⟨F,U,hT,fun j hj hpt=>?_⟩,V⟩;rcases hpt with⟨f,X,_,_,_,C,_⟩|⟨f,X,r,_,_,_,C,_⟩
  ·have:=C.at;rw[W]at this;simp[z7q]at this
  ·have:=C.at;rw[W]at this;simp[z7q]at this
 | one x a=>
  have B:(F i).op=x.op:=I;have l:(F i).n=x.n:=s;have D:(F i).nx=(nx:Int):=S;have A:(F i).dp=(dp:Int):=O;have C:=h.one;have y:0<=x.n/\x.n<=8:=by have:=q2d h.wf.1;omega
  have u:IntKind.i64.wrap ((F i).dp+(F i).n)=((dp+x.n.toNat:Nat):Int):=by
   rw[A,l,IntKind.wrap_i64];omega
  refine(y2v bp g R.length i F w hR C.lt c0 hp (by rw[B];exact q8h h.wf.2.1) _ u).mono ?_;rintro e q⟨rfl,U,V⟩;have K:(F i).nx=(q1r R (i+1)).nx:=by rw[D,C.at];rfl
  have N:((dp+x.n.toNat:Nat):Int)=(q1r R (i+1)).dp:=by rw[C.at];rfl
  refine⟨rfl,⟨_,U,hT.tell K N,fun j hj hpt=>?_⟩,V⟩
  have m:j=i+1:=by
   rcases hpt with⟨f,X,_,_,_,E,e⟩|⟨f,X,r,_,_,_,E,_⟩
   ·exact e
   ·have:=E.at;rw[W]at this;simp[z7q]at this
  subst m;rw[q0p];exact⟨K,N⟩
 | two x a b=>
  have B:(F i).op=x.op:=I;have D:(F i).nx=(nx:Int):=S;have A:(F i).dp=(dp:Int):=O;have G:=h.two2
  have H:∀j,j3z R L M i j->j=i+1\/j=i+1+a.sz:=fun j hpt=>by
   rcases hpt with⟨f,X,_,_,_,E,_⟩|⟨f,X,r,_,_,_,E,e⟩
   ·have:=E.at;rw[W]at this;simp[z7q]at this
   ·have:=E.at
    rw[W]at this;simp only[z7q,Pl.mk.injEq,Tr.two.injEq]at this;rw[this.2.2.2.2.2.1.2.1];exact e
  rcases q7t h.wf.2.1 with e|e
  ·have C:=h.both1 e;have P:(F (i+1)).en=((i+1+a.sz:Nat):Int):=by rw[hT.en _ C.lt,C.at];rfl
   refine(y2w bp g R.length i (i+1+a.sz) F w hR C.lt G.lt c c0 hp (by rw[B,e]) P).mono ?_;rintro e q⟨rfl,U,V⟩;have K:((i+1+a.sz:Nat):Int)=(q1r R (i+1)).nx:=by rw[C.at];rfl
   have N:(F i).dp=(q1r R (i+1)).dp:=by rw[A,C.at];rfl
   have Y:(F i).nx=(q1r R (i+1+a.sz)).nx:=by rw[D,G.at];rfl
   have Z:(F i).dp=(q1r R (i+1+a.sz)).dp:=by rw[A,G.at];rfl
   refine⟨rfl,⟨_,U,(hT.tell K N).tell Y Z,fun j hj hpt=>?_⟩,V⟩;have o:=j0g a;rcases H j hpt with rfl|rfl
   ·rw[q1l (by omega),q0p];exact⟨K,N⟩
   ·rw[q0p];exact⟨Y,Z⟩
  ·have C:=h.either1 (by omega);have P:(F (i+1)).en=((i+1+a.sz:Nat):Int):=by rw[hT.en _ C.lt,C.at];rfl
   refine(v4w bp g R.length i (i+1+a.sz) F w hR C.lt G.lt c c0 hp (by rw[B,e]) P).mono ?_;rintro e q⟨rfl,U,V⟩;have K:(F i).nx=(q1r R (i+1)).nx:=by rw[D,C.at];rfl
   have N:(F i).dp=(q1r R (i+1)).dp:=by rw[A,C.at];rfl
   have Y:(F i).nx=(q1r R (i+1+a.sz)).nx:=by rw[D,G.at];rfl
   have Z:(F i).dp=(q1r R (i+1+a.sz)).dp:=by rw[A,G.at];rfl
   refine⟨rfl,⟨_,U,(hT.tell K N).tell Y Z,fun j hj hpt=>?_⟩,V⟩;have o:=j0g a;rcases H j hpt with rfl|rfl
   ·rw[q1l (by omega),q0p];exact⟨K,N⟩
   ·rw[q0p];exact⟨Y,Z⟩
theorem q4m(z:Value)(n:Nat):(madeCells #[z] n).size=n:=by simp[madeCells]
theorem q2n(w:World)(O0 O1 O2 O3:Obj):((((w.alloc O0).alloc O1).alloc O2).alloc O3).drew.heap[w.heap.size]?=some O0/\((((w.alloc O0).alloc O1).alloc O2).alloc O3).drew.heap[w.heap.size+1]?=some O1
  /\((((w.alloc O0).alloc O1).alloc O2).alloc O3).drew.heap[w.heap.size+1+1]?=some O2/\((((w.alloc O0).alloc O1).alloc O2).alloc O3).drew.heap[w.heap.size+1+1+1]?=some O3:=by
 have E:(w.alloc O0).heap.size=w.heap.size+1:=by simp
 have G:((w.alloc O0).alloc O1).heap.size=w.heap.size+1+1:=by simp
 have H:(((w.alloc O0).alloc O1).alloc O2).heap.size=w.heap.size+1+1+1:=by simp
 have D:=heap_alloc_new w O0;have A:=heap_alloc_new (w.alloc O0) O1;have B:=heap_alloc_new ((w.alloc O0).alloc O1) O2;have C:=heap_alloc_new (((w.alloc O0).alloc O1).alloc O2) O3;rw[E]at A;rw[G]at B;rw[H]at C;refine⟨?_,?_,?_,C⟩
 ·exact(Below.heap_alloc _ _ _ (by omega)).trans ((Below.heap_alloc _ _ _ (by omega)).trans ((Below.heap_alloc _ _ _ (by omega)).trans D))
 ·exact(Below.heap_alloc _ _ _ (by omega)).trans ((Below.heap_alloc _ _ _ (by omega)).trans A)
 ·exact(Below.heap_alloc _ _ _ (by omega)).trans B
theorem z2e(w:World)(O0 O1 O2 O3:Obj):Below w w ((((w.alloc O0).alloc O1).alloc O2).alloc O3).drew:=
 Below.drew (((((Below.refl _ w).alloc Zl _).alloc (by simp) _).alloc (by simp;omega) _).alloc (by simp;omega) _)
theorem q9d{w W:World}{s bp be bf cap:Nat}{a:Option Addr}{ds:List Nd}(hs:s<w.heap.size)(hN:q1j s w a ds)(bw:Below w w W)(rb:W.heap[w.heap.size]?=some (.cells #[.slice none 0 0,.slice none 0 0,.slice none 0 0] 280 (0,0)))
  (hp:W.heap[bp]?=some (.cells #[.slice a ds.length cap,.slice (some ⟨be,0,none⟩) ds.length ds.length,.slice (some ⟨bf,0,none⟩) ds.length ds.length] 280 (0,0))) {ce cf:Array Value} {Te Tf:TypeId} (he:W.heap[be]?=some (.cells ce Te (0,0))) (A:ce.size=ds.length) (hf:W.heap[bf]?=some (.cells cf Tf (0,0))) (B:cf.size=ds.length)
  (b1:w.heap.size<=bp) (b2:w.heap.size+1<=be) (b3:w.heap.size+1<=bf) (n1:bp≠be) (n2:bp≠bf) (n3:be≠bf):z8l w s bp be bf a cap ds W where
 b1:=b1
 b2:=b2
 b3:=b3
 n1:=n1
 n2:=n2
 n3:=n3
 c0:=by simp[World.cell?,hp]
 c1:=by simp[World.cell?,hp]
 c2:=by simp[World.cell?,hp]
 re:=⟨ce,Te,he,A⟩
 rf:=⟨cf,Tf,hf,B⟩
 rb:=rb
 bw:=bw
 nd:=hN.kept (bw.block s hs)
theorem k6p(ds:List Nd)(a:Option Addr)(cap s:Nat)(w:World)(h0:q3f ds=0)(hN:q1j s w a ds)(hs:s<w.heap.size):
  Calls prog 198 #[.slice a ds.length cap] w fun e w'=>(∃be bf,e=.returned (.agg #[.slice a ds.length cap,.slice (some ⟨be,0,none⟩) ds.length ds.length,.slice (some ⟨bf,0,none⟩) ds.length ds.length])/\be<w'.heap.size/\bf<w'.heap.size/\q9i w' be bf ds 0)/\Below w w w':=by
 obtain⟨n,I,Z⟩:=q5j h0
 have o:∀W:World,(Instr.makeSlice 63 (ds.length:Int) (ds.length:Int)).run prog W=.ok (.slice W.heap.size ds.length ds.length) (W.alloc (.cells (madeCells #[.int .i64 0] ds.length) 3)):=fun W=>
  run_make_row' 63 3 _ 8 Tryz.underlying63 k5z rfl .i64 .i64 ds.length (by omega) (by omega) W
 have q:∀W:World,(Instr.makeSlice 278 ↑(ds.length:Int) ↑(ds.length:Int)).run prog W=.ok (.slice ↑W.heap.size ds.length ds.length) (W.alloc (.cells (madeCells #[.bool false] ds.length) 4)):=fun W=>
  run_make_row' 278 4 _ 1 Tryz.underlying278 v4q rfl .i64 .i64 ds.length (by omega) (by omega) W
 have M:Hid (∀x∈ds,q1e x=0):=I;have J:Hid (q0v ds 0 1=some ds.length):=Z;have G:Hid (q1j s w a ds):=hN;clear h0 hN I Z;go_in
 go_upto_region 1 with fail
 go_cut [0,2,3] (fun s0 s2 s3 wx=>s0=.slice a ds.length cap/\s2=.pointer (some ⟨w,0,none⟩)/\∃B be bf,s3=.pointer (some ⟨B,0,none⟩)/\z8l w s B be bf a cap ds wx)
 case first=>
  go_region_held3 (fun _=>True) (trivial) (fail)
  all_goals (go_wp2)
  all_goals
   go_meet
   first
    | exact⟨rfl,rfl,w.heap.size+1+1+1,w.heap.size+1,w.heap.size+1+1,rfl,q9d hs G.o (z2e w _ _ _ _) (q2n w _ _ _ _).1 (q2n w _ _ _ _).2.2.2 (q2n w _ _ _ _).2.1 (q4m _ _) (q2n w _ _ _ _).2.2.1 (q4m _ _) (by omega) (by omega) (by omega) (by omega) (by omega) (by omega)⟩
    | exact⟨rfl,rfl,w.heap.size+1+1,w.heap.size+1,w.heap.size+1+1+1,rfl,q9d hs G.o (z2e w _ _ _ _) (q2n w _ _ _ _).1 (q2n w _ _ _ _).2.2.1 (q2n w _ _ _ _).2.1 (q4m _ _) (q2n w _ _ _ _).2.2.2 (q4m _ _) (by omega) (by omega) (by omega) (by omega) (by omega) (by omega)⟩
    | exact⟨rfl,rfl,w.heap.size+1+1+1,w.heap.size+1+1,w.heap.size+1,rfl,q9d hs G.o (z2e w _ _ _ _) (q2n w _ _ _ _).1 (q2n w _ _ _ _).2.2.2 (q2n w _ _ _ _).2.2.1 (q4m _ _) (q2n w _ _ _ _).2.1 (q4m _ _) (by omega) (by omega) (by omega) (by omega) (by omega) (by omega)⟩
    | exact⟨rfl,rfl,w.heap.size+1,w.heap.size+1+1,w.heap.size+1+1+1,rfl,q9d hs G.o (z2e w _ _ _ _) (q2n w _ _ _ _).1 (q2n w _ _ _ _).2.1 (q2n w _ _ _ _).2.2.1 (q4m _ _) (q2n w _ _ _ _).2.2.2 (q4m _ _) (by omega) (by omega) (by omega) (by omega) (by omega) (by omega)⟩
    | exact⟨rfl,rfl,w.heap.size+1+1,w.heap.size+1+1+1,w.heap.size+1,rfl,q9d hs G.o (z2e w _ _ _ _) (q2n w _ _ _ _).1 (q2n w _ _ _ _).2.2.1 (q2n w _ _ _ _).2.2.2 (q4m _ _) (q2n w _ _ _ _).2.1 (q4m _ _) (by omega) (by omega) (by omega) (by omega) (by omega) (by omega)⟩
    | exact⟨rfl,rfl,w.heap.size+1,w.heap.size+1+1+1,w.heap.size+1+1,rfl,q9d hs G.o (z2e w _ _ _ _) (q2n w _ _ _ _).1 (q2n w _ _ _ _).2.1 (q2n w _ _ _ _).2.2.2 (q4m _ _) (q2n w _ _ _ _).2.2.1 (q4m _ _) (by omega) (by omega) (by omega) (by omega) (by omega) (by omega)⟩
 case rest=>
  obtain⟨rfl,rfl,B,be,bf,rfl,X⟩:=hcut;have h:Hid (z8l w s B be bf a cap ds wc):=X;clear X;go_wp2
  go_loopw [4] (fun i wr=>z8l w s B be bf a cap ds wr/\∃k:Nat,k<=ds.length/\i=.int .i64 ((k:Int)-1)/\q9i wr be bf ds k) (fun i _=>(intOf i+1).toNat)
  case atStart=>exact⟨h.o,ds.length,le_refl _,by go_num,q9i.end⟩
  case round=>
   obtain⟨d,k,C,rfl,V⟩:=hrel;have A:Hid (z8l w s B be bf a cap ds wr):=d;have K:Hid (q9i wr be bf ds k):=V;clear d V;by_cases Q:k=0
   ·subst Q;have c:¬((0:Int)<=((0:Nat):Int)-1):=by omega
    have c0:=A.o.c0;have c1:=A.o.c1;have c2:=A.o.c2;have E:=A.o.rb;have z:wr.cell? w.heap.size=some (.slice none 0 0):=by simp[World.cell?,E]
    have r1:wr.cell? (w.heap.size,1)=some (.slice none 0 0):=by simp[World.cell?,E]
    have r2:wr.cell? (w.heap.size,2)=some (.slice none 0 0):=by simp[World.cell?,E]
    have f0:wr.frozen? w.heap.size=false:=by simp[World.frozen?,E]
    have f1:wr.frozen? (w.heap.size,1)=false:=by simp[World.frozen?,E]
    have f2:wr.frozen? (w.heap.size,2)=false:=by simp[World.frozen?,E]
    clear E;go_wp2;refine bodyPost_ret (v:=.agg #[.slice a ds.length cap,.slice ↑be ds.length ds.length,.slice ↑bf ds.length ds.length]) (by simp[results,Tryz.results198,go_sem,z,r1,r2]) rfl ?_
    have P:∀v0 v1 v2,Below w wr (((wr.setCell w.heap.size v0).setCell (w.heap.size,1) v1).setCell (w.heap.size,2) v2):=fun v0 v1 v2=>
     (((Below.refl _ wr).setCell (p:=↑w.heap.size) Zl _).setCell (p:=↑(w.heap.size,1)) Zl _).setCell (p:=↑(w.heap.size,2)) Zl _
    have r:=A.o.b2;have u:=A.o.b3;have le:=A.o.re.lt;have y:=A.o.rf.lt
    have C:∀v0 v1 v2 k,k≠w.heap.size->(((wr.setCell ↑w.heap.size v0).setCell ↑(w.heap.size,1) v1).setCell ↑(w.heap.size,2) v2).heap[k]?=wr.heap[k]?:=fun v0 v1 v2 k C=>
     (Below.heap_setCell _ _ _ _ C).trans ((Below.heap_setCell _ _ _ _ C).trans (Below.heap_setCell _ _ _ _ C))
    exact⟨⟨be,bf,rfl,Nat.lt_of_lt_of_le le (P _ _ _).size,Nat.lt_of_lt_of_le y (P _ _ _).size,K.o.kept (C _ _ _ _ (by omega)) (C _ _ _ _ (by omega))⟩,A.o.bw.trans (P _ _ _)⟩
   ·obtain⟨i,rfl⟩:∃i,k=i+1:=⟨k-1,by omega⟩;have H:(((i+1:Nat):Int)-1)=(i:Int):=by omega
    rw[H];obtain⟨j,b,l,m⟩:=j6o J.o (show i<ds.length by omega);obtain⟨t,f,Y,_⟩:=v2p M.o b;have R:Hid (ds.drop i=t.N++ds.drop j):=Y;clear Y b H;go_wp2_with fail;refine(j8c B be bf s cap i ds a t (ds.drop j) _ f R.o n A.o.nd A.o.n1 A.o.n2 A.o.n3 (by have:=A.o.b2;omega) (by have:=A.o.b3;omega) A.o.c0 A.o.c1 A.o.c2 A.o.re A.o.rf K.o).mono ?_;rintro e g⟨rfl,D⟩;obtain⟨y1,S⟩:=A.o.re.cell (show i<ds.length by omega);obtain⟨y2,U⟩:=A.o.rf.cell (show i<ds.length by omega);have O:Hid (z8l w s B be bf a cap ds g):=A.o.put hs D;have L:Hid (q9i g be bf ds i):=K.o.step f R.o A.o.n3 S U D;clear D S U;go_wp2
    go_roundw
    case rel=>exact⟨O.o,i,by omega,by go_num,L.o⟩
    case measure=>simp[intOf]
def OAt(T:TypeId)(B b:Nat)(pre:List Value)(p:Value)(bs R:List Value)(w:World):Prop:=
 ∃v,w.heap[b]?=some (.cells (pre++p::v::R).toArray T (0,0))/\w.ownsRowF B 5 1 v bs.length bs/\v.ownBlock≠some b/\(bs=[]->v=.slice none 0 0)
def IsO(T:TypeId)(B b:Nat)(pre bs R:List Value)(w:World):Prop:=
 OAt T B b pre (.pointer none) bs R w\/OAt T B b pre (.pointer (some ⟨b,pre.length,none⟩)) bs R w
section
variable {T:TypeId} {B b:Nat} {p v:Value} {pre bs R:List Value} {w:World}
theorem v7e(hb:w.heap[b]?=some (.cells (pre++p::v::R).toArray T (0,0)))(i:Nat):w.cell? (b,i)=(pre++p::v::R)[i]?:=by
 simp[World.cell?,hb]
theorem v0m(hb:w.heap[b]?=some (.cells (pre++p::v::R).toArray T (0,0))):w.cell? (b,pre.length)=some p:=by
 rw[v7e hb,List.getElem?_append_right Zl,Nat.sub_self];rfl
theorem k9l(hb:w.heap[b]?=some (.cells (pre++p::v::R).toArray T (0,0))):w.cell? (b,pre.length+1)=some v:=by
 rw[v7e hb,List.getElem?_append_right (le_add_right _ _),Nat.add_sub_cancel_left];rfl
theorem olt(hb:w.heap[b]?=some (.cells (pre++p::v::R).toArray T (0,0))):b<w.heap.size:=by
 rcases lt_or_ge b w.heap.size with A|A
 ·exact A
 ·simp[Array.getElem?_eq_none A]at hb
theorem OAt.cell0(h:OAt T B b pre p bs R w):w.cell? (b,pre.length)=some p:=by
 obtain⟨v,A,_⟩:=h;exact v0m A
theorem OAt.cellP(h:OAt T B b pre p bs R w)(i:Nat)(hi:i<pre.length):w.cell? (b,i)=pre[i]?:=by
 obtain⟨v,A,_⟩:=h;rw[v7e A,List.getElem?_append_left hi]
theorem OAt.cellR(h:OAt T B b pre p bs R w)(i:Nat):w.cell? (b,pre.length+(i+2))=R[i]?:=by
 obtain⟨v,A,_⟩:=h;rw[v7e A,List.getElem?_append_right (le_add_right _ _),Nat.add_sub_cancel_left];rfl
theorem OAt.shape(h:OAt T B b pre p bs R w):w.shape? b=some (T,pre.length+(R.length+2)):=by
 obtain⟨v,A,_⟩:=h;simp[World.shape?,A]
theorem OAt.lt(h:OAt T B b pre p bs R w):b<w.heap.size:=by
 obtain⟨v,A,_⟩:=h;exact olt A
theorem g2m(hb:w.heap[b]?=some (.cells (pre++p::v::R).toArray T (0,0)))(i:Nat)(q:Value):(w.setCell (b,i) q).heap[b]?=some (.cells ((pre++p::v::R).set i q).toArray T (0,0)):=by
 simp[World.setCell,Array.getElem?_modify,hb]
theorem OAt.used(h:OAt T B b pre p bs R w)(q:Value):OAt T B b pre q bs R (w.setCell (b,pre.length) q):=by
 obtain⟨v,E,C,A,D⟩:=h;refine⟨v,?_,?_,A,D⟩
 ·rw[g2m E,List.set_append_right _ _ Zl,Nat.sub_self];rfl
 ·exact C.kept (row:=some b) ⟨rfl,rfl,rfl,by simp[World.setCell],fun k _ hk=>Below.heap_setCell _ _ _ _ (fun e=>hk (by simp[e]))⟩ (Or.inr A)
theorem OAt.stored(h:OAt T B b pre p bs R w)(i:Nat)(q:Value):OAt T B b pre p bs (R.set i q) (w.setCell (b,pre.length+(i+2)) q):=by
 obtain⟨v,E,C,A,D⟩:=h;refine⟨v,?_,?_,A,D⟩
 ·rw[g2m E,List.set_append_right _ _ (le_add_right _ _),Nat.add_sub_cancel_left];rfl
 ·exact C.kept (row:=some b) ⟨rfl,rfl,rfl,by simp[World.setCell],fun k _ hk=>Below.heap_setCell _ _ _ _ (fun e=>hk (by simp[e]))⟩ (Or.inr A)
theorem OAt.frozen(h:OAt T B b pre p bs R w)(i:Nat):w.frozen? (b,i)=false:=by
 obtain⟨v,A,_⟩:=h;simp[World.frozen?,A]
theorem OAt.put{v':Value}{bs':List Value}(hb:w.heap[b]?=some (.cells (pre++p::v::R).toArray T (0,0)))(A:w.ownsRowF B 5 1 v' bs'.length bs')(D:T≠5)(h0:bs'=[]->v'=.slice none 0 0):
  OAt T B b pre p bs' R (w.setCell (b,pre.length+1) v'):=by
 have C:=Lib.ownBlock_neF A hb D;refine⟨v',?_,?_,C,h0⟩
 ·rw[g2m hb,List.set_append_right _ _ (le_add_right _ _),Nat.add_sub_cancel_left];rfl
 ·exact A.kept (row:=some b) ⟨rfl,rfl,rfl,by simp[World.setCell],fun k _ hk=>Below.heap_setCell _ _ _ _ (fun e=>hk (by simp[e]))⟩ (Or.inr C)
theorem OAt.alloc(h:OAt T B b pre p bs R w)(o:Obj):OAt T B b pre p bs R (w.alloc o):=by
 have C:=h.lt;obtain⟨v,G,A,D,E⟩:=h;exact⟨v,(Lib.alloc_old w o b C).trans G,A.kept (World.grownBy_alloc w o none) (by cases H:v.ownBlock<;>simp),D,E⟩
theorem OAt.W{w':World}(h:OAt T B b pre p bs R w)(hx:Below w w w'):OAt T B b pre p bs R w':=by
 have C:=h.lt;obtain⟨v,G,A,D,E⟩:=h;exact⟨v,(hx.block b C).trans G,A.kept (row:=none) ⟨hx.os,hx.tape,hx.output,hx.size,fun k hk _=>hx.block k hk⟩ (by cases H:v.ownBlock<;>simp),D,E⟩
theorem IsO.at(h:IsO T B b pre bs R w):∃p,OAt T B b pre p bs R w:=by
 rcases h with h|h
 ·exact⟨_,h⟩
 ·exact⟨_,h⟩
theorem IsO.lt(h:IsO T B b pre bs R w):b<w.heap.size:=h.at.elim fun _ h=>h.lt
theorem IsO.cellP(h:IsO T B b pre bs R w)(i:Nat)(hi:i<pre.length):w.cell? ⟨b,i,none⟩=pre[i]?:=h.at.elim fun _ h=>h.cellP i hi
theorem IsO.cellR(h:IsO T B b pre bs R w)(i:Nat):w.cell? ⟨b,pre.length+(i+2),none⟩=R[i]?:=h.at.elim fun _ h=>h.cellR i
theorem IsO.frozen(h:IsO T B b pre bs R w)(i:Nat):w.frozen? ⟨b,i,none⟩=false:=h.at.elim fun _ h=>h.frozen i
theorem IsO.alloc(h:IsO T B b pre bs R w)(o:Obj):IsO T B b pre bs R (w.alloc o):=h.imp (·.alloc o) (·.alloc o)
theorem IsO.W{w':World}(h:IsO T B b pre bs R w)(hx:Below w w w'):IsO T B b pre bs R w':=h.imp (·.W hx) (·.W hx)
theorem IsO.stored(h:IsO T B b pre bs R w)(i:Nat)(q:Value):IsO T B b pre bs (R.set i q) (w.setCell ⟨b,pre.length+(i+2),none⟩ q):=h.imp (·.stored i q) (·.stored i q)
theorem IsO.unused(T:TypeId)(B b:Nat)(w:World)(pre R:List Value)(h:w.heap[b]?=some (.cells (pre++.pointer none::.slice none 0 0::R).toArray T (0,0))):IsO T B b pre [] R w:=
 Or.inl ⟨.slice none 0 0,h,World.ownsRowF_nil _ _ _ _,by simp[Value.ownBlock],fun _=>rfl⟩
end
theorem k6s(b o:Nat)(w:World)(h0:w.cell? (b,o)=some (.pointer (some ↑(b,o)))):
  Calls prog 54 #[.pointer (some ↑(b,o))] w fun e w'=>e=.returned (.tuple #[])/\w'=w:=by
 obtain⟨j,A,_⟩:=Option.map_eq_some_iff.1 v9n;go_in;go_wp2;rw[Lib.run_neq_ptr_same w _ Tryz.underlying80 A];go_wp2
 go_end0
 exact⟨rfl,rfl⟩
theorem k3o(T n b o:Nat)(w:World)(hl:liesAt prog prog.depth T (n / prog.cellsOf T) o 83 1=true)(h0:w.cell? (b,o)=some (.pointer none))(B:w.shape? b=some (T,n))(hn:o<n)(H:w.frozen? (b,o)=false):
  Calls prog 54 #[.pointer (some ↑(b,o))] w fun e w'=>e=.returned (.tuple #[])/\w'=w.setCell (b,o) (.pointer (some ↑(b,o))):=by
 obtain⟨j,D,A⟩:=Option.map_eq_some_iff.1 v9n;have G:Hid (liesAt prog prog.depth T (n / prog.cellsOf T) o 83 1=true):=hl;have C:Hid (w.shape? b=some (T,n)):=B;have E:Hid (j.size≠0):=(show j.size≠0 by rw[A];decide);clear hl B A;go_in;go_wp2;rw[Lib.run_to_unsafe w (b,o) Tryz.underlying80 Tryz.underlying116 D E.o C.o hn];simp only[Result.andThen];rw[Oper.upon_value];go_wp2;rw[run_callFunc_extern func89 (by kernel_rfl) (by kernel_rfl) (by kernel_rfl) (e:=Extern.AbiNoEscape.same) (by kernel_rfl)];rw[Lib.run_noEscape];simp only[Result.andThen];rw[Oper.upon_value];go_wp2;rw[Lib.run_from_unsafe w (b,o) Tryz.underlying116 Tryz.underlying80 D C.o G.o];simp only[Result.andThen];rw[Oper.upon_value];go_wp2
 go_end0
 exact⟨rfl,rfl⟩
def j4h(T n o:Nat):Prop:=liesAt prog prog.depth T (n / prog.cellsOf T) o 83 1=true
theorem j2l(T B b o:Nat)(A bs R:List Value)(w:World)(ho:A.length=o)(hl:j4h T (o+(R.length+2)) o)(h:IsO T B b A bs R w):
  Calls prog 54 #[.pointer (some ↑(b,o))] w fun e w'=>e=.returned (.tuple #[])/\(OAt T B b A (.pointer (some ↑(b,A.length))) bs R w'/\q0n B b w w'/\Lib.OthersKept 5 (some b) w w'):=by
 subst ho;rcases h with h|h
 ·refine(k3o T (A.length+(R.length+2)) b A.length w hl h.cell0 h.shape (by omega) (h.frozen _)).mono ?_;rintro e w'⟨rfl,rfl⟩;exact⟨rfl,h.used _,(q0n.refl B b w).setCell (p:=(b,A.length)) (.inl rfl) _,(Lib.OthersKept.refl _ _ w).setCell (b,A.length) rfl _⟩
 ·refine(k6s b A.length w h.cell0).mono ?_;rintro e w'⟨rfl,rfl⟩;exact⟨rfl,h,q0n.refl B b _,Lib.OthersKept.refl _ _ _⟩
theorem k6w(T B b o:Nat)(A bs R:List Value)(s:ByteArray)(w:World)(ho:A.length=o)(hl:j4h T (o+(R.length+2)) o)(hT:T≠5)(h:IsO T B b A bs R w)(f:bs.length+s.size<=140737488355328)(u:B<=w.heap.size):
  Calls prog 33 #[.pointer (some ⟨b,o,none⟩),.string s] w fun e w'=>e=.returned (.tuple #[.int .i64 s.size,.nilIface])/\(IsO T B b A (bs++Lib.strCells s) R w'/\q0n B b w w'/\Lib.OthersKept 5 (some b) w w'):=by
 obtain⟨y,x,Y,Z,a⟩:=info_parts v9j;have m:Hid (j4h T (o+(R.length+2)) o):=hl;have n:Hid (T≠5):=hT;have M:Hid (A.length=o):=ho;have H:Hid (IsO T B b A bs R w):=h;clear hl hT h ho;go_in;go_wp2_with(go_at_call 54;refine(j2l T B b o A bs R _ M.o m.o H.o).mono ?_);rintro e P⟨rfl,S,L,U⟩;obtain⟨v,I,E,W,d⟩:=S;have l:Hid (bs=[]->v=.slice none 0 0):=d;have N:Hid (P.heap[b]?=some (.cells (A++.pointer (some ↑(b,A.length))::v::R).toArray T (0,0))):=I;clear d;have z:P.cell? (b,o)=some (.pointer (some ↑(b,o))):=by have:=v0m I;rw[M.o]at this;exact this
 have c1:P.cell? (b,o+1)=some v:=by have:=k9l I;rw[M.o]at this;exact this
 clear I;go_wp2_with(at_builtin;refine Lib.wpList_append_own_stringF _ rfl _ _ 81 9 rfl B 5 y Tryz.underlying81 Tryz.underlying9 x Y Z a _ _ _ rfl E s rfl ?c3 ?c4 ?c5 ?_)
 case c3=>unfold maxLen;omega
 case c4=>omega
 case c5=>have:=L.size;omega
 intro j O G C J;have q:Hid (j=.slice none 0 0↔v=.slice none 0 0/\s.size=0):=(show _↔_ by simpa using J);clear J;have V:b<P.heap.size:=olt N.o
 have D:O.heap[b]?=some (.cells (A++.pointer (some ↑(b,A.length))::v::R).toArray T (0,0)):=by
  rw[C.block b V (fun e=>W e.symm)];exact N.o
 have Q:Hid (O.heap[b]?=some (.cells (A++.pointer (some ↑(b,A.length))::v::R).toArray T (0,0))):=D;have d0:O.cell? (b,o)=some (.pointer (some ↑(b,o))):=by have:=v0m D;rw[M.o]at this;exact this
 have d1:O.cell? (b,o+1)=some v:=by have:=k9l D;rw[M.o]at this;exact this
 have f1:O.frozen? (b,o+1)=false:=Lib.frozen_of_heap D (o+1);clear D
 obtain⟨c,i,K,rfl⟩:∃c i K,j=.slice c i K:=by
  rcases G.2 with⟨X,_⟩|⟨g,K,r,fz,X,_⟩
  ·exact⟨_,_,_,X⟩
  ·exact⟨_,_,_,X⟩
 go_wp2;go_ret2;refine⟨rfl,.inr ?_,?_,(U.grown C (Lib.ownsRowF_kind E)).setCell (b,o+1) rfl _⟩
 ·rw[<-M.o];refine OAt.put Q.o (bs':=bs++Lib.strCells s) (by simpa[Lib.strCells_length]using G) n.o (fun h=>?_);obtain⟨S,t⟩:=List.append_eq_nil_iff.1 h;refine q.o.2 ⟨l.o S,?_⟩;rw[<-Lib.strCells_length,t];rfl
 ·exact(L.grown C (by have:=L.size;omega) (fun k hk=>(E.lt k hk).1)).setCell (p:=(b,o+1)) (.inl rfl) _
theorem v0u(T B b o:Nat)(E:List Value)(l:List UInt8)(R:List Value)(w:World)(ho:E.length=o)(h:IsO T B b E (Lib.byteCells l) R w)(h0:l≠[]):
  Calls prog 34 #[.pointer (some ↑(b,o))] w fun e w'=>e=.returned (.string ⟨l.toArray⟩)/\Below B w w':=by
 obtain⟨p,I⟩:=h.at;obtain⟨v,H,D,W,_⟩:=I;have M:l.length≠0:=by simpa using h0
 rw[Lib.byteCells_length]at D
 obtain⟨g,A,C,G,rfl,J,U,S,V,K,Q,N⟩:∃g A C G,v=.slice (some ⟨g,0,none⟩) l.length A/\B<=g/\w.heap[g]?=some (.cells C 5 G)/\G.2<=l.length*1/\l.length<=A/\A<=maxLen/\C.size=A*1/\C.toList.take (l.length*1)=Lib.byteCells l:=by
  rcases D.2 with⟨_,Z⟩|⟨g,A,C,G,X,r⟩
  ·exact absurd Z M
  ·exact⟨g,A,C,G,X,r⟩
 have a:w.drew.cell? (b,o+1)=some (.slice g l.length A):=by
  have:w.drew.heap[b]?=some (.cells (E++p::.slice ↑g l.length A::R).toArray T (0,0)):=H
  have:=k9l this
  rw[ho]at this;exact this
 have O:(Builtin.unsafeSliceData_ #[81] 115 #[.slice (some ⟨g,0,none⟩) l.length A]).run prog w.drew=.ok (.pointer (some ⟨g,0,none⟩)) w.drew:=
  Lib.run_unsafeSliceData_row _ _ _ _ _ _ (by omega)
 have P:(Builtin.unsafeString_ #[115,3] 9 #[.pointer (some ⟨g,0,none⟩),.int .i64 l.length]).run prog w.drew=.ok (.string ⟨l.toArray⟩) (w.drew.freeze ⟨g,0,none⟩ l.length):=by
  refine Lib.run_unsafeString_row w.drew 115 3 9 5 Tryz.underlying115 y2a g C.size (by have L:w.drew.heap[g]?=some (.cells C 5 G):=U;simp[World.shape?,L]) l h0 (by omega) (by unfold maxLen at K;omega) ?_;intro j x Y
  have:=D.cells (g:=g) rfl j (.int .u8 x.toNat) (by simp[Lib.byteCells,Y])
  exact this
 clear H;go_in;go_wp2
 go_region
 all_goals (go_wp2;go_ret;exact⟨rfl,Lib.below_freeze (Below.drew (Below.refl B w)) (p:=g) J _⟩)
theorem v0t(T B b o:Nat)(A R:List Value)(w:World)(ho:A.length=o)(h:IsO T B b A [] R w):
  Calls prog 34 #[.pointer (some ↑(b,o))] w fun e w'=>e=.returned (.string ⟨#[]⟩)/\Below B w w':=by
 obtain⟨p,E⟩:=h.at;obtain⟨v,C,D,G,H⟩:=E;obtain rfl:=H rfl;clear D G H;have J:∀(W:World)(q:Option Addr),(Builtin.unsafeString_ #[115,3] 9 #[.pointer q,.int .i64 0]).run prog W=.ok (.string .empty) W:=fun W q=>Lib.run_unsafeString_none W _ _ _ q
 have K:w.drew.cell? (b,o+1)=some (.slice none 0 0):=by
  have:w.drew.heap[b]?=some (.cells (A++p::.slice none 0 0::R).toArray T (0,0)):=C
  have:=k9l this
  rw[ho]at this;exact this
 have I:(Builtin.unsafeSliceData_ #[81] 115 #[.slice none 0 0]).run prog w.drew=.ok (.pointer none) w.drew:=rfl;clear C;go_in;go_wp2
 go_region
 all_goals (go_wp2;go_ret;exact⟨rfl,Below.drew (Below.refl B w)⟩)
theorem v7j(T B b o:Nat)(A:List Value)(l:List UInt8)(R:List Value)(w:World)(ho:A.length=o)(h:IsO T B b A (Lib.byteCells l) R w):
  Calls prog 34 #[.pointer (some ↑(b,o))] w fun e w'=>e=.returned (.string ⟨l.toArray⟩)/\Below B w w':=by
 by_cases C:l=[]
 ·subst C;exact v0t T B b o A R w ho h
 ·exact v0u T B b o A l R w ho h C
def WS(B b:Nat)(pl:List Value)(l:List UInt8)(cv:Value)(w:World):Prop:=IsO 283 B b pl (Lib.byteCells l) [cv] w
abbrev z1c(be bf:Nat)(n cap:Nat)(a:Option Addr):List Value:=[.slice a n cap,.slice (some ⟨be,0,none⟩) n n,.slice (some ⟨bf,0,none⟩) n n]
theorem g2y:j4h 283 6 3:=by unfold j4h;kernel_rfl
section
variable {B b be bf n cap:Nat} {a:Option Addr} {l:List UInt8} {cv:Value} {w w':World}
theorem WS.c0(h:WS B b (z1c be bf n cap a) l cv w):w.cell? ⟨b,0,none⟩=some (.slice a n cap):=IsO.cellP h 0 (by show 0<3;decide)
theorem WS.c1(h:WS B b (z1c be bf n cap a) l cv w):w.cell? ⟨b,1,none⟩=some (.slice (some ⟨be,0,none⟩) n n):=IsO.cellP h 1 (by show 1<3;decide)
theorem WS.c2(h:WS B b (z1c be bf n cap a) l cv w):w.cell? ⟨b,2,none⟩=some (.slice (some ⟨bf,0,none⟩) n n):=IsO.cellP h 2 (by show 2<3;decide)
theorem WS.c5(h:WS B b (z1c be bf n cap a) l cv w):w.cell? ⟨b,5,none⟩=some cv:=IsO.cellR h 0
theorem WS.f5(h:WS B b (z1c be bf n cap a) l cv w):w.frozen? ⟨b,5,none⟩=false:=IsO.frozen h 5
theorem WS.lt{pl:List Value}(h:WS B b pl l cv w):b<w.heap.size:=IsO.lt h
theorem WS.alloc{pl:List Value}(h:WS B b pl l cv w)(o:Obj):WS B b pl l cv (w.alloc o):=IsO.alloc h o
theorem WS.drew{pl:List Value}(h:WS B b pl l cv w):WS B b pl l cv w.drew:=h
theorem WS.W{pl:List Value}(h:WS B b pl l cv w)(hb:Below w w w'):WS B b pl l cv w':=IsO.W h hb
theorem WS.stored(h:WS B b (z1c be bf n cap a) l cv w)(v:Value):WS B b (z1c be bf n cap a) l v (w.setCell ⟨b,5,none⟩ v):=IsO.stored h 0 v
end
theorem g0o{B b be bf n cap:Nat}{a:Option Addr}{l:List UInt8}{cv:Value}{w:World}(h:WS B b (z1c be bf n cap a) l cv w)(hB:B<=b)(s:ByteArray)(hl:l.length+s.size<=2000000000):
  Calls prog 33 #[.pointer (some ⟨b,3,none⟩),.string s] w fun e w'=>(∃z,e=.returned (.tuple #[.int .i64 z,.nilIface]))/\WS B b (z1c be bf n cap a) (l++s.data.toList) cv w'/\Below B w w':=by
 have D:=h.lt;refine(k6w 283 B b 3 (z1c be bf n cap a) _ [cv] s w rfl g2y (by decide) h (by rw[Lib.byteCells_length];omega) (by omega)).mono ?_;rintro e w'⟨rfl,A,C,_⟩;refine⟨⟨_,rfl⟩,?_,C.W hB⟩;rw[WS,Lib.byteCells_append];exact A
structure LC(B s be bf:Nat)(a:Option Addr)(ds:List Nd)(w:World):Prop where
 nd:q1j s w a ds
 kn:q9i w be bf ds 0
theorem LC.W{B s be bf:Nat}{a:Option Addr}{ds:List Nd}{w w':World}(h:LC B s be bf a ds w)(hB:s<B/\be<B/\bf<B)(hb:Below B w w'):LC B s be bf a ds w':=
 ⟨h.nd.kept (hb.block s hB.1),h.kn.kept (hb.block be hB.2.1) (hb.block bf hB.2.2)⟩
def k1m(B b:Nat)(pl:List Value)(res:Except Int (List UInt8 × List Int))(l:List UInt8)(e:Ending)(w':World):Prop:=
 match res with
 | .ok (u,ws')=>e=.returned .nilIface/\∃wa' wc',WS B b pl (l++u) (.slice wa' ws'.length wc') w'/\q2s B w' wa' ws'/\ws'.length<=wc'
 | .error er=>er≠0/\e=.returned (q2m er)
def j4l(fn B b s be bf:Nat)(ds:List Nd)(a:Option Addr)(cap:Nat)(A:List Nd)(f:Nat->List Int->Except Int (List UInt8 × List Int)):Prop:=
 ∀(i:Nat)(r:List Nd)(deep:Nat)(ws:List Int)(wa:Option Addr)(wc:Nat)(l:List UInt8)(w:World),ds.drop i=A++r->LC B s be bf a ds w->q2s B w wa ws->q3n ws->ws.length<=wc->WS B b (z1c be bf ds.length cap a) l (.slice wa ws.length wc) w->
  deep+8*A.length<=3300->l.length+4000*A.length<=1000000000->
  Calls prog fn #[.pointer (some ⟨b,0,none⟩),.int .i64 i,.int .i64 deep] w fun e w'=>k1m B b (z1c be bf ds.length cap a) (f deep ws) l e w'/\Below B w w'
abbrev q4g:=j4l 199
theorem z5n(n:Nat)(hn:n<=4000)(w:World):Cb 227 #[.string ⟨#[32]⟩,n] w (.string ⟨(List.replicate n 32).toArray⟩):=by
 unfold Cb;refine(repeat_any ⟨#[32]⟩ n w (by omega) (by show 1*n<=_;omega)).mono ?_;rintro e w'⟨rfl,B⟩;refine⟨?_,B⟩
 have:=Lib.repeatL_replicate 32 1 n
 have A:Lib.repeatL (ByteArray.mk #[32]).data.toList n=List.replicate n 32:=by simpa using this
 rw[A]
theorem q1j.part{s o i:Nat}{w:World}{ds A r:List Nd}(h:q1j s w (some ↑(s,o)) ds)(hd:ds.drop i=A++r):q1j s w (some ↑(s,o+i*3)) A:=by
 intro j I;have J:=congrArg List.length hd;rw[List.length_drop,List.length_append]at J;have B:i+j<ds.length:=by omega
 obtain⟨K,e,C,D,E⟩:=h (i+j) B;simp only[Option.some.injEq,Addr.mk.injEq,and_true,true_and]at e;subst e
 have H:ds[i+j]=A[j]:=by
  have G:(ds.drop i)[j]?=some A[j]:=by rw[hd,List.getElem?_append_left I];simp
  rw[List.getElem?_drop]at G;exact(List.getElem?_eq_some_iff.1 G).2
 rw[H]at C D E;refine⟨o+i*3,rfl,?_,?_,?_⟩
 ·rw[show o+i*3+j*3=o+(i+j)*3 by omega];exact C
 ·rw[show o+i*3+j*3+1=o+(i+j)*3+1 by omega];exact D
 ·rw[show o+i*3+j*3+2=o+(i+j)*3+2 by omega];exact E
theorem v9g(B b s be bf:Nat)(ds:List Nd)(a:Option Addr)(cap:Nat)(i:Nat)(t:Tr)(r:List Nd)(l:List UInt8)(cv:Value)(w:World)(ht:t.Wf)(hd:ds.drop i=t.N++r)(hC:LC B s be bf a ds w)(hW:WS B b (z1c be bf ds.length cap a) l cv w)(hf:t.isFlat=false):
  Calls prog 248 #[.pointer b,i] w fun e w'=>e=.returned (q2m 4)/\Below B w w':=by
 have E:=q9v hd;have D:=hW.c2;have C:=(hC.kn i t r (zero_le _) ht hd).2;rw[hf]at C;have A:(i:Int)<(ds.length:Int):=by omega
 rw[y7q];clear hC hW hd;go_in;go_wp2;go_ret;exact⟨rfl,Below.refl _ _⟩
theorem v3k(B b s be bf:Nat)(hb:s<B/\be<B/\bf<B)(hB:B<=b)(ds:List Nd)(a:Option Addr)(cap:Nat)(S:ds.length<=cap)(hl:ds.length<=400)(i:Nat)(t:Tr)(r:List Nd)(l:List UInt8)(cv:Value)(w:World)(ht:t.Wf)(hd:ds.drop i=t.N++r)(hC:LC B s be bf a ds w)(hW:WS B b (z1c be bf ds.length cap a) l cv w)(hf:t.isFlat=true)(p:l.length<=1000000000):
  Calls prog 248 #[.pointer b,i] w fun e w'=>e=.returned .nilIface/\WS B b (z1c be bf ds.length cap a) (l++t.line.data.toList) cv w'/\Below B w w':=by
 have f:=q9v hd;have P:=hW.c0;have Q:=hW.c1;have u:=hW.c2;obtain⟨O,q⟩:=hC.kn i t r (zero_le _) ht hd;rw[hf]at q;obtain⟨C,Z,_,_,_⟩:=hC.nd i f;subst Z;have E:=hW.lt;have M:B<=w.heap.size:=by omega
 have g:(i:Int)<(ds.length:Int):=by omega
 have D:i+t.N.length<=ds.length:=by
  have:=congrArg List.length hd
  rw[List.length_drop,List.length_append]at this;omega
 have hp:=t.pos;have V:q2b w (some ↑(s,C+i*3)) t.N:=(hC.nd.part hd).nods (by omega);have m:t.line.size<=8000:=by have:=q8b t ht;rw[q8f];omega
 generalize y:i+t.N.length=j at O D;have G:t.N.length=j-i:=by omega
 have I:Hid (∀W:World,Below w w W->Cb 221 #[.slice (some ↑(s,C+i*3)) (j-i) (cap-i)] W (.tuple #[.string t.line,.bool true,.nilIface])):=fun W hW=>by
  have:=j7a t.N t rfl ht (by omega) (some ↑(s,C+i*3)) (cap-i) (by omega) W (V.W hW)
  rw[hf,G]at this;exact this
 have v:(i:Int)<=(j:Int):=by omega
 have L:be<w.heap.size:=by omega
 have n:(0:Int)<=(i:Int):=by omega
 have o:(0:Int)<=(j:Int):=by omega
 have h:(i:Int)<(cap:Int):=by omega
 have c:¬(cap-i=0):=by omega
 have d:¬(cap=i):=by omega
 have k:((j:Int)-(i:Int)).toNat=j-i:=by omega
 have U:((cap:Int)-(i:Int)).toNat=cap-i:=by omega
 have x:(j:Int)<=(cap:Int):=by omega
 have R:(j:Int)<=(ds.length:Int):=by omega
 have Y:Hid (WS B b (z1c be bf ds.length cap (some ↑(s,C))) l cv w):=hW;clear hC hW hd V G;go_in;go_wp2_with fail
 go_region_held3 (fun w'=>w'.cell? b=some (.slice (some ↑(s,C)) ds.length cap)/\w'.cell? (b,1)=some (.slice be ds.length ds.length)/\w'.cell? (be,i)=some ↑(j:Int))
  (first|exact⟨P,Q,O⟩|exact⟨((q0s A).1 _ _ E).trans P,((q0s A).1 _ _ E).trans Q,((q0s A).1 _ _ L).trans O⟩)
  (first|(go_at_call 221;refine(I.o _ (Below.drew (Below.refl _ w))).mono ?_;rintro e X⟨rfl,A⟩))
 all_goals
  have J:Hid (WS B b (z1c be bf ds.length cap (some ↑(s,C))) l cv X):=WS.W (WS.drew Y.o) A;have H:Hid (Below B w X):=(Below.drew (Below.refl B w)).trans (A.mono M);clear A;go_wp2_with fail;refine(g0o J.o hB t.line (by omega)).mono ?_;rintro e w3⟨⟨z,rfl⟩,R,K⟩;go_wp2;go_ret;exact⟨rfl,R,H.o.trans K⟩
end Go.Proofs.YtchdplceopegoaaGreatDoor
