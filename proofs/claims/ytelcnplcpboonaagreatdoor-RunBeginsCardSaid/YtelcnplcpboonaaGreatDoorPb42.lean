import Derived.Test.YtelcnplcpboonaaGreatDoorPb41
import Derived.Test.YtelcnplcpboonaaGreatDoorPb30
open Go.Proofs.Tryz
namespace Go.Proofs.YtelcnplcpboonaaGreatDoor
open Go Go.RowKit
set_option maxRecDepth 100000
set_option maxHeartbeats 4000000
theorem q8n{R:List Pl}{L M i nx dp wd c:Nat}{ks:List (Nat × Tr)}{t:Tr}(sb g mb:Nat)(Am:Sp R L M i t nx dp ks)(Av:((q2 (q1e R i)).lg==-1)=false)(Ar:z0l (q2 (q1e R i)).op=true)(Ai:z4m sb g mb wd R i c 0)(Aj:z4m sb g mb wd R i c 1)(Ak:(tkC R wd i c 0).o<=1000000/\(tkC R wd i c 0).l<=1000000)(Al:(tkC R wd i c 1).o<=1000000/\(tkC R wd i c 1).l<=1000000)(k:Nat)(hk:k=0/\decide (q2y ((tkC R wd i c 1).o,(tkC R wd i c 1).l) ((tkC R wd i c 0).o,(tkC R wd i c 0).l))=false\/k=1/\decide (q2y ((tkC R wd i c 1).o,(tkC R wd i c 1).l) ((tkC R wd i c 0).o,(tkC R wd i c 0).l))=true)(w:World)(S:Nat->Nat->Bool)(h:Inv sb g mb wd R w S):
  Calls prog 231 #[.pointer (some ⟨sb,0,none⟩),.agg #[.int .i64 i,.int .i64 c]] w fun e w'=>e=.returned (cvV (tkC R wd i c k))/\Left sb g mb wd R S (i+1) (tkC R wd i c k).np (tkC R wd i c k).nc w w':=by
 have H:Hid (Inv sb g mb wd R w S):=h;have P:=h.lt;have hi:i<R.length:=Am.lt;have Au:(i:Int)<(R.length:Int):=by omega
 have Aw:(0:Int)<=(i:Int):=by omega
 have HQ:Hid (∀W,q4z W sb g wd R->z2i W g i (q2 (q1e R i))):=fun W hW=>hW.pr.get i hi
 have Ap:Hid (z4m sb g mb wd R i c 0):=Ai;have Aq:Hid (z4m sb g mb wd R i c 1):=Aj;clear Ai Aj;rw[cvV];clear h Am;generalize q2 (q1e R i)=q at *;go_in;go_wp2_with fail;have z:Sk1 sb g mb wd i c R S w ((w.alloc (.cells #[.int .i64 i,.int .i64 c] 280)).alloc (.cells #[.int .i64 0,.int .i64 0,.int .i64 0,.int .i64 0,.int .i64 0] 282)):=z6a (nq:=0) H.o
 generalize(w.alloc (.cells #[.int .i64 i,.int .i64 c] 280)).alloc (.cells #[.int .i64 0,.int .i64 0,.int .i64 0,.int .i64 0,.int .i64 0] 282)=w1 at *
 have m:Hid (Sk1 sb g mb wd i c R S w w1):=z;have As:=z.sz
 have y:∀W:World,W=w1.drew\/(∃O,W=(w1.alloc O).drew)->W.cell? ⟨sb,0,none⟩=some (.slice (some ⟨g,0,none⟩) R.length R.length)/\W.cell? ⟨w,0,none⟩=some (.int .i64 i)/\W.cell? ⟨g,i*7,none⟩=some (.int .i64 q.op)/\W.cell? ⟨g,i*7+1,none⟩=some (.string q.tx)/\W.cell? ⟨g,i*7+2,none⟩=some (.int .i64 q.n)/\W.cell? ⟨g,i*7+3,none⟩=some (.int .i64 q.en)/\W.cell? ⟨g,i*7+4,none⟩=some (.int .i64 q.nx)/\W.cell? ⟨g,i*7+5,none⟩=some (.int .i64 q.dp)/\W.cell? ⟨g,i*7+6,none⟩=some (.int .i64 q.lg):=by
  intro W hW
  have x:q4z W sb g wd R/\W.cell? ⟨w,0,none⟩=some (.int .i64 i):=by
   rcases hW with rfl|⟨O,rfl⟩
   ·exact⟨m.o.inv.pl.kept rfl rfl,m.o.a0⟩
   ·exact⟨(m.o.inv.pl.alloc O).kept rfl rfl,ka m.o.a0 O⟩
  obtain⟨d0,d1,d2,d3,d4,d5,d6⟩:=HQ.o W x.1;exact⟨x.1.c0,x.2,d0,d1,d2,d3,d4,d5,d6⟩
 have Ag:=y w1.drew (.inl rfl);have Ah:=fun O=>y (w1.alloc O).drew (.inr ⟨O,rfl⟩)
 have j:Hid (ChB w (w1.alloc (q4u q)).drew i c q):=j2d m.o q;have An:Hid (Inv sb g mb wd R (w1.alloc (q4u q)).drew S):=(m.o.inv.alloc _).kept fun _ _=>rfl
 have Aa:Hid (q0j w mb w (w1.alloc (q4u q)).drew):=(q0j.of (m.o.bw.alloc m.o.bw.size _)).drew;clear z y
 go_region_held3 (fun w'=>w'.cell? ⟨sb,0,none⟩=some (.slice (some ⟨g,0,none⟩) R.length R.length)/\w'.cell? ⟨w,0,none⟩=some (.int .i64 i)/\w'.cell? ⟨g,i*7,none⟩=some (.int .i64 q.op)/\w'.cell? ⟨g,i*7+1,none⟩=some (.string q.tx)/\w'.cell? ⟨g,i*7+2,none⟩=some (.int .i64 q.n)/\w'.cell? ⟨g,i*7+3,none⟩=some (.int .i64 q.en)/\w'.cell? ⟨g,i*7+4,none⟩=some (.int .i64 q.nx)/\w'.cell? ⟨g,i*7+5,none⟩=some (.int .i64 q.dp)/\w'.cell? ⟨g,i*7+6,none⟩=some (.int .i64 q.lg))
  (first|with_reducible exact Ag|with_reducible exact Ah _) (fail)
 all_goals
  generalize(w1.alloc (.cells #[.int .i64 q.op,.string q.tx,.int .i64 q.n,.int .i64 q.en,.int .i64 q.nx,.int .i64 q.dp,.int .i64 q.lg] 306)).drew=w2 at *
  have a0:=j.o.a0;have a1:=j.o.a1;have q6:=j.o.q6;clear Ag Ah As;go_wp2_with fail;refine(Ap.o w2 S An.o).mono ?_;rintro e B⟨rfl,D,r,hI,Y,X,V⟩;rw[cvV];have I:=j.o.kept D P.2.2;have f:Hid (q0j w mb w B):=Aa.o.trans (D.mono Aa.o.size);have HR:Hid (Inv sb g mb wd R B r/\(∀a b,S a b=true->r a b=true)/\(∀a b,r a b=true->S a b=true\/i+1<=a)/\((tkC R wd i c 0).np<R.length->r (tkC R wd i c 0).np (tkC R wd i c 0).nc=true)):=⟨hI,Y,X,V⟩;have u0:=fun O=>ka I.q0 O
  have u1:=fun O=>ka I.q1 O
  have u2:=fun O=>ka I.q2 O
  have u3:=fun O=>ka I.q3 O
  have u4:=fun O=>ka I.q4 O
  have u5:=fun O=>ka I.q5 O
  have u6:=fun O=>ka I.q6 O
  have Ad:Hid (ChB w B i c q):=I;clear D hI Y X V I a0 a1 q6;go_wp2_with fail;refine(q8j q.op q.tx q.n q.en q.nx q.dp q.lg _).mono ?_;rintro e d⟨rfl,E⟩;rw[Ar];have Q:B.heap.size<d.heap.size:=by have:=E.size;simp at this;omega
  have U:Hid (ChB w d i c q):=(Ad.o.kept (mb:=mb) (q0j.of ((Below.refl _ B).alloc Zl _)) P.2.2).kept (q0j.of E) P.2.2;have Ao:Hid (Inv sb g mb wd R d r):=(HR.o.1.alloc _).W E;have Ab:Hid (q0j w mb w d):=(f.o.alloc (by have:=f.o.size;omega) _).trans (q0j.of (E.mono (by have:=f.o.size;simp;omega)));have s0:d.cell? ⟨B,0,none⟩=some (.int .i64 (tkC R wd i c 0).o):=(E.cell (p:=⟨B,0,none⟩) (by simp)).trans (by simp[go_sem]);have s1:d.cell? ⟨B,1,none⟩=some (.int .i64 (tkC R wd i c 0).l):=(E.cell (p:=⟨B,1,none⟩) (by simp)).trans (by simp[go_sem]);have s2:d.cell? ⟨B,2,none⟩=some (.int .i64 (tkC R wd i c 0).ch):=(E.cell (p:=⟨B,2,none⟩) (by simp)).trans (by simp[go_sem]);have s3:d.cell? ⟨B,3,none⟩=some (.int .i64 (tkC R wd i c 0).np):=(E.cell (p:=⟨B,3,none⟩) (by simp)).trans (by simp[go_sem]);have s4:d.cell? ⟨B,4,none⟩=some (.int .i64 (tkC R wd i c 0).nc):=(E.cell (p:=⟨B,4,none⟩) (by simp)).trans (by simp[go_sem]);have a0:=U.o.a0;have a1:=U.o.a1;clear u0 u1 u2 u3 u4 u5 u6 E;go_wp2_with fail;refine(Aq.o d r Ao.o).mono ?_;rintro e G⟨rfl,D,u,hI,Y,X,V⟩;rw[cvV];have Ae:Hid (ChB w G i c q):=U.o.kept D P.2.2;have s:Hid (q0j w mb w G):=Ab.o.trans (D.mono Ab.o.size);have Z:B.heap.size≠mb:=by have:=f.o.size;omega
  have z0:G.cell? ⟨B,0,none⟩=some (.int .i64 (tkC R wd i c 0).o):=(D.cell (p:=⟨B,0,none⟩) Q Z).trans s0;have z1:G.cell? ⟨B,1,none⟩=some (.int .i64 (tkC R wd i c 0).l):=(D.cell (p:=⟨B,1,none⟩) Q Z).trans s1;have z2:G.cell? ⟨B,2,none⟩=some (.int .i64 (tkC R wd i c 0).ch):=(D.cell (p:=⟨B,2,none⟩) Q Z).trans s2;have z3:G.cell? ⟨B,3,none⟩=some (.int .i64 (tkC R wd i c 0).np):=(D.cell (p:=⟨B,3,none⟩) Q Z).trans s3;have z4:G.cell? ⟨B,4,none⟩=some (.int .i64 (tkC R wd i c 0).nc):=(D.cell (p:=⟨B,4,none⟩) Q Z).trans s4;have v0:=fun O=>ka z0 O
  have v1:=fun O=>ka z1 O
  have K:Hid (Inv sb g mb wd R G u/\(∀a b,r a b=true->u a b=true)/\(∀a b,u a b=true->r a b=true\/i+1<=a)/\((tkC R wd i c 1).np<R.length->u (tkC R wd i c 1).np (tkC R wd i c 1).nc=true)):=⟨hI,Y,X,V⟩;have At:B.heap.size<G.heap.size:=Nat.lt_of_lt_of_le Q D.size;clear D hI Y X V a0 a1;go_wp2_with fail;refine(j1q (tkC R wd i c 1).o (tkC R wd i c 1).l (tkC R wd i c 0).o (tkC R wd i c 0).l Al.1 Al.2 Ak.1 Ak.2 _).mono ?_;rintro e J⟨rfl,C⟩;have A:=(Ae.o.kept (mb:=mb) (q0j.of ((Below.refl _ G).alloc Zl _)) P.2.2).kept (q0j.of C) P.2.2;have Af:Hid (Inv sb g mb wd R J u):=(K.o.1.alloc _).W C;have Ac:Hid (q0j w mb w J):=(s.o.alloc (by have:=s.o.size;omega) _).trans (q0j.of (C.mono (by have:=s.o.size;simp;omega)));have r0:=A.r0;have r1:=A.r1;have r2:=A.r2;have r3:=A.r3;have r4:=A.r4;have y0:J.frozen? ⟨w.heap.size+1,0,none⟩=false:=A.fr.frozen;have y1:J.frozen? ⟨w.heap.size+1,1,none⟩=false:=A.fr.frozen;have y2:J.frozen? ⟨w.heap.size+1,2,none⟩=false:=A.fr.frozen;have y3:J.frozen? ⟨w.heap.size+1,3,none⟩=false:=A.fr.frozen;have y4:J.frozen? ⟨w.heap.size+1,4,none⟩=false:=A.fr.frozen;rcases hk with⟨rfl,N⟩|⟨rfl,N⟩
  ·rw[N];have x0:J.cell? ⟨B,0,none⟩=some (.int .i64 (tkC R wd i c 0).o):=(C.cell (p:=⟨B,0,none⟩) (by simp;omega)).trans (ka z0 _);have x1:J.cell? ⟨B,1,none⟩=some (.int .i64 (tkC R wd i c 0).l):=(C.cell (p:=⟨B,1,none⟩) (by simp;omega)).trans (ka z1 _);have x2:J.cell? ⟨B,2,none⟩=some (.int .i64 (tkC R wd i c 0).ch):=(C.cell (p:=⟨B,2,none⟩) (by simp;omega)).trans (ka z2 _);have x3:J.cell? ⟨B,3,none⟩=some (.int .i64 (tkC R wd i c 0).np):=(C.cell (p:=⟨B,3,none⟩) (by simp;omega)).trans (ka z3 _);have x4:J.cell? ⟨B,4,none⟩=some (.int .i64 (tkC R wd i c 0).nc):=(C.cell (p:=⟨B,4,none⟩) (by simp;omega)).trans (ka z4 _);clear z0 z1 z2 z3 z4 s0 s1 s2 s3 s4 v0 v1 C A;go_wp2;refine bodyPost_ret (v:=.agg #[.int .i64 (tkC R wd i c 0).o,.int .i64 (tkC R wd i c 0).l,.int .i64 (tkC R wd i c 0).ch,.int .i64 (tkC R wd i c 0).np,.int .i64 (tkC R wd i c 0).nc]) (by simp[results,Tryz.results231,go_sem,r0,r1,r2,r3,r4]) rfl ⟨rfl,k1x Ac.o (by omega) _ _ _ _ _,u,Af.o.set5 (by omega) (by omega) (by omega) _ _ _ _ _,fun a b hab=>K.o.2.1 a b (HR.o.2.1 a b hab),fun a b hab=>?_,fun h=>K.o.2.1 _ _ (HR.o.2.2.2 h)⟩;rcases K.o.2.2.1 a b hab with h|h
   ·exact HR.o.2.2.1 a b h
   ·exact .inr h
  ·rw[N];have x0:J.cell? ⟨G,0,none⟩=some (.int .i64 (tkC R wd i c 1).o):=(C.cell (p:=⟨G,0,none⟩) (by simp)).trans (by simp[go_sem]);have x1:J.cell? ⟨G,1,none⟩=some (.int .i64 (tkC R wd i c 1).l):=(C.cell (p:=⟨G,1,none⟩) (by simp)).trans (by simp[go_sem]);have x2:J.cell? ⟨G,2,none⟩=some (.int .i64 (tkC R wd i c 1).ch):=(C.cell (p:=⟨G,2,none⟩) (by simp)).trans (by simp[go_sem]);have x3:J.cell? ⟨G,3,none⟩=some (.int .i64 (tkC R wd i c 1).np):=(C.cell (p:=⟨G,3,none⟩) (by simp)).trans (by simp[go_sem]);have x4:J.cell? ⟨G,4,none⟩=some (.int .i64 (tkC R wd i c 1).nc):=(C.cell (p:=⟨G,4,none⟩) (by simp)).trans (by simp[go_sem]);clear z0 z1 z2 z3 z4 s0 s1 s2 s3 s4 v0 v1 C A;go_wp2;refine bodyPost_ret (v:=.agg #[.int .i64 (tkC R wd i c 1).o,.int .i64 (tkC R wd i c 1).l,.int .i64 (tkC R wd i c 1).ch,.int .i64 (tkC R wd i c 1).np,.int .i64 (tkC R wd i c 1).nc]) (by simp[results,Tryz.results231,go_sem,r0,r1,r2,r3,r4]) rfl ⟨rfl,k1x Ac.o (by omega) _ _ _ _ _,u,Af.o.set5 (by omega) (by omega) (by omega) _ _ _ _ _,fun a b hab=>K.o.2.1 a b (HR.o.2.1 a b hab),fun a b hab=>?_,fun h=>K.o.2.2.2 h⟩;rcases K.o.2.2.1 a b hab with h|h
   ·exact HR.o.2.2.1 a b h
   ·exact .inr h
theorem v4b{t:Tr}{wd:Nat}(sb g mb:Nat)(ht:t.Wf)(hn:t.sz<=400)(hw:wd<=100):∀m i c,(q0a t).length-i<=m->i<=(q0a t).length->c<=wd->j0y sb g mb wd (q0a t) i c:=by
 have X:=q7y t;have V:t.lf*(21+t.dsum)<=400000:=y1b X hn;have Q:t.lf<=400:=by unfold Tr.sz at hn;omega
 have R:t.dsum<=3200:=by unfold Tr.sz at hn;omega
 have a:(q0a t).length<=400:=by rw[q2d];exact hn
 intro m
 induction m with
 | zero=>intro i c f j s;exact k6w sb g mb wd i c _ (by omega)
 | succ m ih=>
  intro i c f j P;by_cases d:i<(q0a t).length
  ·obtain⟨Y,z,r,y,A⟩:=j7r ht d;refine v4c sb g mb wd i c _ d a hw P ?_;have L:=A.at
   have b:∀ch,∃k:Cv,k=(if(q2p (q0a t) wd i c ch).np<(q0a t).length then crs (q0a t) wd (q2p (q0a t) wd i c ch).np (q2p (q0a t) wd i c ch).nc else zCv)/\k.o=(vv (q0a t) wd (q2p (q0a t) wd i c ch).np (q2p (q0a t) wd i c ch).nc).1.1/\k.l=(vv (q0a t) wd (q2p (q0a t) wd i c ch).np (q2p (q0a t) wd i c ch).nc).1.2/\k.o<=400000/\k.l<=400000:=fun ch=>by
    have G:=j5v (ch:=ch) A P hw Q R;refine⟨_,rfl,?_⟩;by_cases W:(q2p (q0a t) wd i c ch).np<(q0a t).length
    ·rw[if_pos W];obtain⟨t2,q,e,p,H⟩:=j7r ht W;have n:=(j2p H G.cl).1;have U:=y9m (wd:=wd) (c:=(q2p (q0a t) wd i c ch).nc) H V;rw[n]at U⊢;exact⟨rfl,rfl,U⟩
    ·rw[if_neg W,v7s (by omega)];exact⟨rfl,rfl,by simp[zCv],by simp[zCv]⟩
   have K:∀ch,(ch=0\/ch=1)->(Y.lg=-1->ch=1)->z4m sb g mb wd (q0a t) i c ch:=fun ch h01 hh=>by
    have G:=j5v (ch:=ch) A P hw Q R
    have:=G.lo
    exact v4t sb g mb a A P hw Q R h01 hh (ih _ _ (by omega) G.hi G.cl) (b ch)
   have D:∀ch,(tkC (q0a t) wd i c ch).o<=1000000/\(tkC (q0a t) wd i c ch).l<=1000000:=fun ch=>by
    have G:=j5v (ch:=ch) A P hw Q R;obtain⟨k,_,U,u,v,x⟩:=b ch
    have:=G.bo
    have:=G.bl
    simp only[tkC,j2t];omega
   have Z:(q2 (q1e (q0a t) i)).lg=Y.lg:=by rw[L];rfl
   intro w S h;by_cases C:Y.lg=-1
   ·have I:crs (q0a t) wd i c=tkC (q0a t) wd i c 1:=by rw[crs,if_pos (show(q1e (q0a t) i).lg=-1 by rw[L];exact C)]
    rw[I];exact k2b sb g mb A (by rw[Z];exact C) (K 1 (.inr rfl) fun _=>rfl) w S h
   ·have N:((q2 (q1e (q0a t) i)).lg==-1)=false:=beq_eq_false_iff_ne.2 (by rw[Z];exact C);have J:=K 0 (.inl rfl) fun h=>absurd h C
    have O:=K 1 (.inr rfl) fun _=>rfl
    have M:¬(q1e (q0a t) i).lg=-1:=by rw[L];exact C
    cases B:z0l (q1e (q0a t) i).nd.op with
    | false=>
     have I:crs (q0a t) wd i c=tkC (q0a t) wd i c 0:=by rw[crs,if_neg M,if_pos B]
     rw[I];exact z8y sb g mb A N B J w S h
    | true=>
     by_cases E:q2y ((tkC (q0a t) wd i c 1).o,(tkC (q0a t) wd i c 1).l) ((tkC (q0a t) wd i c 0).o,(tkC (q0a t) wd i c 0).l)
     ·have I:crs (q0a t) wd i c=tkC (q0a t) wd i c 1:=by rw[crs,if_neg M,if_neg (by rw[B];simp),if_pos E]
      rw[I];exact q8n sb g mb A N B J O (D 0) (D 1) 1 (.inr ⟨rfl,decide_eq_true E⟩) w S h
     ·have I:crs (q0a t) wd i c=tkC (q0a t) wd i c 0:=by rw[crs,if_neg M,if_neg (by rw[B];simp),if_neg E]
      rw[I];exact q8n sb g mb A N B J O (D 0) (D 1) 0 (.inl ⟨rfl,decide_eq_false E⟩) w S h
  ·exact k6w sb g mb wd i c _ (by omega)
theorem q9i{w:World}{B e A n k:Nat}{v:Value}{xs:List Value}(h:w.ownsRow B e A v n xs)(hk:v.ownBlock=some k):k<w.heap.size/\∃cur,w.heap[k]?=some (.cells cur e (0,0)):=by
 rcases h.2 with⟨rfl,_⟩|⟨g,c,cur,rfl,_,C,_⟩
 ·simp[Value.ownBlock]at hk
 ·simp only[Value.ownBlock,Option.some.injEq]at hk;subst hk;exact⟨(Array.getElem?_eq_some_iff.1 C).1,cur,C⟩
theorem v7j{w:World}{B e A n k:Nat}{v:Value}{xs:List Value}(h:w.ownsRow B e A v n xs)(hk:v.ownBlock=some k):B<=k:=by
 rcases h.2 with⟨rfl,_⟩|⟨g,c,C,rfl,D,_⟩
 ·simp[Value.ownBlock]at hk
 ·simp only[Value.ownBlock,Option.some.injEq]at hk;subst hk;exact D
theorem q9h{w w':World}{B e A n:Nat}{v:Value}{xs:List Value}(h:w.ownsRow B e A v n xs)(hk:∀k,v.ownBlock=some k->w'.heap[k]?=w.heap[k]?):w'.ownsRow B e A v n xs:=by
 refine⟨h.1,?_⟩;rcases h.2 with E|⟨g,c,D,rfl,G,H,C⟩
 ·exact .inl E
 ·exact .inr ⟨g,c,D,rfl,G,(hk g rfl).trans H,C⟩
structure ChR(sb g mb wd:Nat)(R:List Pl)(S:Nat->Nat->Bool)(w wr:World)(v3:Value)(b4 p c:Nat)(us:List Int):Prop where
 own:wr.ownsRow w.heap.size 3 1 v3 us.length (q0v us)
 box:wr.heap[b4]?=some (.cells #[.int .i64 p,.int .i64 c] 280 (0,0))
 lo:w.heap.size<=b4
 pl:p<=R.length
 cl:c<=wd
 inS:p<R.length->S p c=true
 way:us++(vv R wd p c).2=(vv R wd 0 0).2
 len:us.length<=p
 inv:Inv sb g mb wd R wr S
 bw:Below w w wr
section
variable {sb g mb wd b4 p c:Nat} {R:List Pl} {S:Nat→Nat→Bool} {w wr wx:World} {v3:Value} {us:List Int}
theorem ChR.c0(h:ChR sb g mb wd R S w wr v3 b4 p c us):wr.cell? ⟨b4,0,none⟩=some (.int .i64 p):=by simp[World.cell?,h.box]
theorem ChR.c1(h:ChR sb g mb wd R S w wr v3 b4 p c us):wr.cell? ⟨b4,1,none⟩=some (.int .i64 c):=by simp[World.cell?,h.box]
theorem ChR.lt(h:ChR sb g mb wd R S w wr v3 b4 p c us):b4<wr.heap.size:=World.block_lt_of_cell? wr ⟨b4,0,none⟩ h.c0
theorem ChR.form(h:ChR sb g mb wd R S w wr v3 b4 p c us):∃a cap,v3=.slice a us.length cap:=by
 rcases h.own.2 with⟨A,C⟩|⟨g,c,B,A,_⟩
 ·exact⟨none,0,by rw[A,C]⟩
 ·exact⟨_,c,A⟩
theorem ChR.apart(h:ChR sb g mb wd R S w wr v3 b4 p c us){k:Nat}(hk:v3.ownBlock=some k):k≠b4:=by
 intro e;subst e;obtain⟨_,B,A⟩:=q9i h.own hk;rw[h.box]at A;cases A
theorem ChR.W(h:ChR sb g mb wd R S w wr v3 b4 p c us)(hb:Below wr wr wx):ChR sb g mb wd R S w wx v3 b4 p c us:=
 ⟨q9h h.own fun k hk=>hb.block k (q9i h.own hk).1,(hb.block _ h.lt).trans h.box,h.lo,h.pl,h.cl,h.inS,h.way,h.len,h.inv.W hb,h.bw.trans (hb.mono h.bw.size)⟩
end
def chM(n:Nat)(v:Value)(wr:World):Nat:=match v with
 | .pointer (some a)=>(match wr.cell? a with|some (.int _ p)=>n-p.toNat|_=>0)
 | _=>0
theorem k4s{n b p:Nat}{wr:World}(h:wr.cell? ⟨b,0,none⟩=some (.int .i64 (p:Int))):chM n (.pointer (some ⟨b,0,none⟩)) wr=n-p:=by
 simp[chM,h]
theorem v0z{sb g mb wd p c L M nx dp:Nat}{R:List Pl}{S:Nat->Nat->Bool}{w W:World}{v:Value}{us A:List Int}{ks:List (Nat × Tr)}{t:Tr}(G:Sp R L M p t nx dp ks)(hc:c<=wd)(hw:wd<=100)(hL:L<=400)(hM:M<=3200)(D:us++(vv R wd p c).2=(vv R wd 0 0).2)(O:us.length<=p)(hS:S p c=true)
  (H:A=us++(if z0l t.root.op=true then [((crs R wd p c).ch:Int)]else [])) (C:W.ownsRow w.heap.size 3 1 v A.length (q0v A)) (B:Inv sb g mb wd R W S) (E:Below w w W):
  ChR sb g mb wd R S w (W.alloc (.cells #[.int .i64 (crs R wd p c).np,.int .i64 (crs R wd p c).nc] 280)) v W.heap.size (crs R wd p c).np (crs R wd p c).nc A/\p<(crs R wd p c).np:=by
 obtain⟨Q,ch,_,N⟩:=j2p G hc;have K:=j5v (ch:=ch) G hc hw hL hM;have I:(crs R wd p c).np=(q2p R wd p c ch).np:=by rw[N];rfl
 have P:(crs R wd p c).nc=(q2p R wd p c ch).nc:=by rw[N];rfl
 have J:=K.lo;refine⟨⟨q9h C fun k hk=>Below.heap_alloc _ _ _ (q9i C hk).1,heap_alloc_new W _,E.size,by rw[I];exact K.hi,by rw[P];exact K.cl,fun hl=>(B.cl p c hS).2.2 hl,?_,?_,B.alloc _,E.alloc E.size _⟩,by rw[I];exact J⟩
 ·rw[Q]at D;rw[H,List.append_assoc];exact D
 ·rw[H,I]
  split<;>simp<;>omega
theorem z8s{t:Tr}{wd:Nat}(sb g mb:Nat)(ht:t.Wf)(hn:t.sz<=400)(hw:wd<=100)(w:World)(S:Nat->Nat->Bool)(h:Inv sb g mb wd (q0a t) w S)(h0:S 0 0=true):
  Calls prog 204 #[.pointer (some ⟨sb,0,none⟩)] w fun e w'=>(∃a cap,e=.returned (.slice a (vv (q0a t) wd 0 0).2.length cap)/\w'.ownsRow w.heap.size 3 1 (.slice a (vv (q0a t) wd 0 0).2.length cap) (vv (q0a t) wd 0 0).2.length (q0v (vv (q0a t) wd 0 0).2))/\Below w w w':=by
 have HI:Hid (Inv sb g mb wd (q0a t) w S):=h;have H0:Hid (S 0 0=true):=h0;have Ai:=h.lt;have hR:(q0a t).length<=400:=by rw[q2d];exact hn
 have A5:Hid (∃R,R=q0a t):=⟨_,rfl⟩
 have A1:Hid (∀W:World,W=w.alloc (.cells #[.int .i64 0,.int .i64 0] 280)->ChR sb g mb wd (q0a t) S w W (.slice none 0 0) w.heap.size 0 0 []):=fun W hW=>by
  subst hW;exact⟨⟨rfl,.inl ⟨rfl,rfl⟩⟩,heap_alloc_new w _,Nat.le_refl _,Nat.zero_le _,Nat.zero_le _,fun _=>H0.o,rfl,Nat.le_refl _,HI.o.alloc _,(Below.refl _ w).alloc Zl _⟩
 clear h h0;go_in;go_wp2_with fail
 go_loopw [3,4] (fun v3 v4 wr=>∃G p c E,v4=.pointer (some ⟨G,0,none⟩)/\ChR sb g mb wd (q0a t) S w wr v3 G p c E) (fun _ v4 wr=>chM (q0a t).length v4 wr)
 case atStart=>exact⟨_,0,0,[],rfl,A1.o _ rfl⟩
 case round=>
  obtain⟨G,p,c,E,rfl,y⟩:=hrel;obtain⟨x,D,rfl⟩:=y.form;have M:Hid (ChR sb g mb wd (q0a t) S w wr (.slice x E.length D) G p c E):=y;have c0:=y.inv.pl.c0;have p0:=y.c0;by_cases hp:p<(q0a t).length
  ·have A3:(p:Int)<((q0a t).length:Int):=by omega
   obtain⟨t',nx,dp,ks,Ak⟩:=j7r ht hp;have A0:Hid (Sp (q0a t) t.lf t.dsum p t' nx dp ks):=Ak;have Aj:p<=400:=by omega
   have Ah:c<=100:=by have:=y.cl;omega
   have HQ:Hid (∀W,Below wr wr W->W.cell? ⟨sb,0,none⟩=some (.slice (some ⟨g,0,none⟩) (q0a t).length (q0a t).length)/\W.cell? ⟨G,0,none⟩=some (.int .i64 p)/\W.cell? ⟨g,p*7,none⟩=some (.int .i64 (q2 (q1e (q0a t) p)).op)/\W.cell? ⟨g,p*7+1,none⟩=some (.string (q2 (q1e (q0a t) p)).tx)/\W.cell? ⟨g,p*7+2,none⟩=some (.int .i64 (q2 (q1e (q0a t) p)).n)/\W.cell? ⟨g,p*7+3,none⟩=some (.int .i64 (q2 (q1e (q0a t) p)).en)/\W.cell? ⟨g,p*7+4,none⟩=some (.int .i64 (q2 (q1e (q0a t) p)).nx)/\W.cell? ⟨g,p*7+5,none⟩=some (.int .i64 (q2 (q1e (q0a t) p)).dp)/\W.cell? ⟨g,p*7+6,none⟩=some (.int .i64 (q2 (q1e (q0a t) p)).lg)):=fun W hW=>by
    have A:=M.o.W hW;obtain⟨d0,d1,d2,d3,d4,d5,d6⟩:=A.inv.pl.pr.get p hp;exact⟨A.inv.pl.c0,A.c0,d0,d1,d2,d3,d4,d5,d6⟩
   have r:(q2 (q1e (q0a t) p)).op=t'.root.op:=by rw[Ak.at];rfl
   have Af:Hid (∀W,Inv sb g mb wd (q0a t) W S->(Instr.lookup 276 (.map (some mb)) (.agg #[.int .i64 (p:Int),.int .i64 (c:Int)]) false).run prog W=.ok (.agg #[.int .i64 (crs (q0a t) wd p c).o,.int .i64 (crs (q0a t) wd p c).l,.int .i64 (crs (q0a t) wd p c).ch,.int .i64 (crs (q0a t) wd p c).np,.int .i64 (crs (q0a t) wd p c).nc]) W):=fun W hW=>by
    have:=hW.me.look (p:=p) (c:=c) Aj Ah
    rw[M.o.inS hp,if_pos rfl]at this;exact this
   have A7:=j3k;have A6:=k2k;have A8:(0:Int)<=(p:Int):=by omega
   have i:Hid (∀(W:World)(v:Value)(us':List Int),us'=E++(if z0l t'.root.op=true then [((crs (q0a t) wd p c).ch:Int)]else [])->W.ownsRow w.heap.size 3 1 v us'.length (q0v us')->Inv sb g mb wd (q0a t) W S->Below w w W->ChR sb g mb wd (q0a t) S w (W.alloc (.cells #[.int .i64 (crs (q0a t) wd p c).np,.int .i64 (crs (q0a t) wd p c).nc] 280)) v W.heap.size (crs (q0a t) wd p c).np (crs (q0a t) wd p c).nc us'/\p<(crs (q0a t) wd p c).np):=fun W v us' e1 e2 e3 e4=>
    v0z A0.o M.o.cl hw (by have:=q7y t;unfold Tr.sz at hn;omega) (by have:=q7y t;unfold Tr.sz at hn;omega) M.o.way M.o.len (M.o.inS hp) e1 e2 e3 e4
   clear y Ak;generalize q2 (q1e (q0a t) p)=q at *;generalize crs (q0a t) wd p c=k at *;cases L:z0l q.op with
   | false=>
    have Ae:Hid (∀W,Calls prog 232 #[.agg #[.int .i64 q.op,.string q.tx,.int .i64 q.n,.int .i64 q.en,.int .i64 q.nx,.int .i64 q.dp,.int .i64 q.lg]] W fun e w'=>e=.returned (.bool false)/\Below W W w'):=fun W=>by have:=q8j q.op q.tx q.n q.en q.nx q.dp q.lg W;rw[L]at this;exact this
    have P:Hid (z0l t'.root.op=false):=by rw[<-r];exact L
    clear L r;go_wp2_with fail
    go_quiet (fail)
    go_wp2_with fail;have J:Below wr wr (wr.drewN nq):=k4m (Below.refl _ wr) nq;generalize wr.drewN nq=w1 at *;have U:=HQ.o w1.drew J.drew;have N:Hid (Below wr wr w1):=J;clear J
    go_region_held3 (fun w'=>w'.cell? ⟨sb,0,none⟩=some (.slice (some ⟨g,0,none⟩) (q0a t).length (q0a t).length)/\w'.cell? ⟨G,0,none⟩=some (.int .i64 p)/\w'.cell? ⟨g,p*7,none⟩=some (.int .i64 q.op)/\w'.cell? ⟨g,p*7+1,none⟩=some (.string q.tx)/\w'.cell? ⟨g,p*7+2,none⟩=some (.int .i64 q.n)/\w'.cell? ⟨g,p*7+3,none⟩=some (.int .i64 q.en)/\w'.cell? ⟨g,p*7+4,none⟩=some (.int .i64 q.nx)/\w'.cell? ⟨g,p*7+5,none⟩=some (.int .i64 q.dp)/\w'.cell? ⟨g,p*7+6,none⟩=some (.int .i64 q.lg))
     (first|with_reducible exact U|with_reducible exact V)
     ((go_at_call 232;refine(Ae.o w1.drew).mono ?_;rintro e B⟨rfl,X⟩;have I:Below wr wr B:=N.o.drew.trans (X.mono N.o.size);have V:=HQ.o B I))
    all_goals
     have A:=M.o.W I;have C:Hid (ChR sb g mb wd (q0a t) S w B (.slice x E.length D) G p c E):=A;have x0:=A.c0;have x1:=A.c1;have m2:=fun O=>ka A.inv.c2 O
     have hL:=fun O=>Af.o (B.alloc O).drew ((A.inv.alloc O).kept fun _ _=>rfl)
     clear A X I V U c0 p0;go_wp2_with fail
     go_region
     all_goals
      go_wp2
      go_roundw
      case rel=>
       exact⟨_,_,_,E,rfl,((i.o B _ E (by rw[P.o];simp) C.o.own C.o.inv C.o.bw).1).W Zb.drew⟩
      case measure=>
       have h5:=(i.o B _ E (by rw[P.o];simp) C.o.own C.o.inv C.o.bw);have e5:chM (q0a t).length (.pointer (some ⟨G,0,none⟩)) wr=(q0a t).length-p:=k4s M.o.c0;have e6:chM (q0a t).length (.pointer (some ⟨B,0,none⟩)) (B.alloc (.cells #[.int .i64 k.np,.int .i64 k.nc] 280)).drew=(q0a t).length-k.np:=k4s h5.1.c0;have h6:=h5.2;rw[e5,e6];omega
   | true=>
    have Ae:Hid (∀W,Calls prog 232 #[.agg #[.int .i64 q.op,.string q.tx,.int .i64 q.n,.int .i64 q.en,.int .i64 q.nx,.int .i64 q.dp,.int .i64 q.lg]] W fun e w'=>e=.returned (.bool true)/\Below W W w'):=fun W=>by have:=q8j q.op q.tx q.n q.en q.nx q.dp q.lg W;rw[L]at this;exact this
    have P:Hid (z0l t'.root.op=true):=by rw[<-r];exact L
    clear L r;go_wp2_with fail
    go_quiet (fail)
    go_wp2_with fail;have J:Below wr wr (wr.drewN nq):=k4m (Below.refl _ wr) nq;generalize wr.drewN nq=w1 at *;have U:=HQ.o w1.drew J.drew;have N:Hid (Below wr wr w1):=J;clear J
    go_region_held3 (fun w'=>w'.cell? ⟨sb,0,none⟩=some (.slice (some ⟨g,0,none⟩) (q0a t).length (q0a t).length)/\w'.cell? ⟨G,0,none⟩=some (.int .i64 p)/\w'.cell? ⟨g,p*7,none⟩=some (.int .i64 q.op)/\w'.cell? ⟨g,p*7+1,none⟩=some (.string q.tx)/\w'.cell? ⟨g,p*7+2,none⟩=some (.int .i64 q.n)/\w'.cell? ⟨g,p*7+3,none⟩=some (.int .i64 q.en)/\w'.cell? ⟨g,p*7+4,none⟩=some (.int .i64 q.nx)/\w'.cell? ⟨g,p*7+5,none⟩=some (.int .i64 q.dp)/\w'.cell? ⟨g,p*7+6,none⟩=some (.int .i64 q.lg))
     (first|with_reducible exact U|with_reducible exact V)
     ((go_at_call 232;refine(Ae.o w1.drew).mono ?_;rintro e B⟨rfl,X⟩;have I:Below wr wr B:=N.o.drew.trans (X.mono N.o.size);have V:=HQ.o B I))
    all_goals
     have A:=M.o.W I;have C:Hid (ChR sb g mb wd (q0a t) S w B (.slice x E.length D) G p c E):=A;have x0:=A.c0;have x1:=A.c1;have Ag:Hid (∀W,Inv sb g mb wd (q0a t) W S->W.heap[G]?=some (.cells #[.int .i64 p,.int .i64 c] 280 (0,0))->W.cell? ⟨sb,2,none⟩=some (.map (some mb))/\W.cell? ⟨G,0,none⟩=some (.int .i64 p)/\W.cell? ⟨G,1,none⟩=some (.int .i64 c)/\(Instr.lookup 276 (.map (some mb)) (.agg #[.int .i64 (p:Int),.int .i64 (c:Int)]) false).run prog W=.ok (.agg #[.int .i64 k.o,.int .i64 k.l,.int .i64 k.ch,.int .i64 k.np,.int .i64 k.nc]) W):=fun W h1 h2=>⟨h1.c2,by simp[World.cell?,h2],by simp[World.cell?,h2],Af.o W h1⟩
     have Y:∀O,(B.alloc O).drew.heap[G]?=some (.cells #[.int .i64 p,.int .i64 c] 280 (0,0)):=fun O=>(Below.heap_alloc B O G A.lt).trans A.box
     have Ap:=Ag.o B.drew (A.inv.kept fun _ _=>rfl) A.box;have Aq:=fun O=>Ag.o (B.alloc O).drew ((A.inv.alloc O).kept fun _ _=>rfl) (Y O)
     have Az:Hid (∀H,(B.alloc (.cells #[.int .i64 k.ch] 3)).drew.grownBy H (Value.slice x E.length D).ownBlock->Inv sb g mb wd (q0a t) H S/\H.heap[G]?=some (.cells #[.int .i64 p,.int .i64 c] 280 (0,0))/\Below w w H):=fun H hg=>by
      have A9:B.heap.size<=(B.alloc (.cells #[.int .i64 k.ch] 3)).drew.heap.size:=by show _<=(B.alloc _).heap.size;simp
      have A2:=C.o.bw.size
      have m:∀b,b<w.heap.size->some b≠(Value.slice x E.length D).ownBlock:=fun b hb e=>by
       have:=v7j C.o.own e.symm
       omega
      have A4:=C.o.inv.lt;refine⟨((C.o.inv.alloc (.cells #[.int .i64 k.ch] 3)).kept (w':=(B.alloc (.cells #[.int .i64 k.ch] 3)).drew) fun _ _=>rfl).kept3 (hg.block _ (by omega) (m _ Ai.1)) (hg.block _ (by omega) (m _ Ai.2.1)) (hg.block _ (by omega) (m _ Ai.2.2)),(hg.block G (by have:=C.o.lt;omega) (fun e=>C.o.apart e.symm rfl)).trans (Y _),?_⟩;exact((C.o.bw.alloc A2 (.cells #[.int .i64 k.ch] 3)).drew).trans ⟨hg.os,hg.tape,hg.output,hg.size,fun b hb=>hg.block b (by omega) (m b hb)⟩
     obtain⟨i0,At,Aw,Ax,Ay⟩:=info_parts j4f;have f:(B.alloc (.cells #[.int .i64 k.ch] 3)).drew.ownsRow w.heap.size 3 1 (.slice x E.length D) E.length (q0v E):=q9h A.own fun b hb=>Below.heap_alloc B _ b (q9i A.own hb).1
     have Z:∀j u,[Value.int .i64 (k.ch:Int)][j]?=some u->(B.alloc (.cells #[.int .i64 k.ch] 3)).drew.cell? ((⟨B,0,none⟩:Addr).add j)=some u:=World.news_of_block (cs:=#[.int .i64 k.ch]) (heap_alloc_new B (.cells #[.int .i64 k.ch] 3));have Ad:∀u∈[Value.int .i64 (k.ch:Int)],u.oneCell'=true:=by intro u hu;simp at hu;subst hu;rfl
     have Ac:E.length+1<=maxLen:=by have:=A.len;unfold maxLen;omega
     have Ab:(E.length+1)*8<=140737488355328:=by have:=A.len;omega
     have z:w.heap.size<=(B.alloc (.cells #[.int .i64 k.ch] 3)).drew.heap.size:=by show _<=(B.alloc _).heap.size;have:=A.bw.size;simp;omega
     have Ao:(B.alloc (.cells #[.int .i64 k.ch] 3)).drew.heap.size=B.heap.size+1:=by show(B.alloc _).heap.size=_;simp
     clear A X I V U c0 p0 Y x0 x1;go_wp2_with fail
     go_region_held3 (fun w'=>w'.cell? ⟨sb,2,none⟩=some (.map (some mb))/\w'.cell? ⟨G,0,none⟩=some (.int .i64 p)/\w'.cell? ⟨G,1,none⟩=some (.int .i64 c)/\(Instr.lookup 276 (.map (some mb)) (.agg #[.int .i64 (p:Int),.int .i64 (c:Int)]) false).run prog w'=.ok (.agg #[.int .i64 k.o,.int .i64 k.l,.int .i64 k.ch,.int .i64 k.np,.int .i64 k.nc]) w')
      (first|with_reducible exact Ap|with_reducible exact Aq _|with_reducible exact Ar)
      ((refine step_append_lies _ (by rfl) _ _ 73 (by rfl) w.heap.size 3 i0 _ 1 8 Tryz.underlying73 At Aw Ax Ay rfl (by decide) (.slice x E.length D) E.length (q0v E) (by rfl) f ⟨B,0,none⟩ 1 1 [.int .i64 k.ch] (by rfl) rfl Z Ad (by decide) Ac Ab z (B.heap.size+1) Ao ?_;intro g3 An H d K As Au;obtain⟨Q,Av,Aa⟩:=Az.o H K;have Ar:=Ag.o H Q Av))
     all_goals
      have Am:Hid (H.ownsRow w.heap.size 3 1 (.slice (some ⟨g3,0,none⟩) (E.length+1) An) (E++[(k.ch:Int)]).length (q0v (E++[(k.ch:Int)]))):=by
       show H.ownsRow _ _ _ _ _ _;rw[z9k,List.length_append];exact d
      have Al:Hid (Inv sb g mb wd (q0a t) H S):=Q;have s:Hid (Below w w H):=Aa;obtain⟨_,x0,x1,_⟩:=Ar;have m2:=fun O=>ka Q.c2 O
      have hL:=fun O=>Af.o (H.alloc O).drew ((Q.alloc O).kept fun _ _=>rfl)
      clear Ap Aq d K As Au Q Av Aa f Z Ad Ac Ab z Ao At Aw Ax Ay;go_wp2_with fail
      go_region
      all_goals
       go_wp2
       go_roundw
       case rel=>
        exact⟨_,_,_,_,rfl,((i.o H _ _ (by rw[P.o];rfl) Am.o Al.o s.o).1).W Zb.drew⟩
       case measure=>
        have h5:=(i.o H _ _ (by rw[P.o];rfl) Am.o Al.o s.o);have e5:chM (q0a t).length (.pointer (some ⟨G,0,none⟩)) wr=(q0a t).length-p:=k4s M.o.c0;have e6:chM (q0a t).length (.pointer (some ⟨H,0,none⟩)) (H.alloc (.cells #[.int .i64 k.np,.int .i64 k.nc] 280)).drew=(q0a t).length-k.np:=k4s h5.1.c0;have h6:=h5.2;rw[e5,e6];omega
  ·have A3:¬(p:Int)<((q0a t).length:Int):=by omega
   have HE:Hid (E=(vv (q0a t) wd 0 0).2):=by
    have:=y.way
    rw[v7s (by omega),List.append_nil]at this;exact this
   clear y;go_wp2_with fail
   go_quiet (fail)
   go_wp2;go_ret;refine⟨⟨x,D,?_,?_⟩,?_⟩
   ·rw[<-HE.o];rfl
   ·rw[<-HE.o];exact q9h M.o.own fun _ _=>rfl
   ·exact k4m M.o.bw _
end Go.Proofs.YtelcnplcpboonaaGreatDoor
