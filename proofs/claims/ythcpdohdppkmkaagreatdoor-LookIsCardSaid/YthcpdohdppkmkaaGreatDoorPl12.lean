import Derived.Test.YthcpdohdppkmkaaGreatDoorPl11
open Go.Proofs.Tryz
namespace Go.Proofs.YthcpdohdppkmkaaGreatDoor
open Go Go.RowKit
structure ChB(w wx:World)(i c:Nat)(q:Q):Prop where
 a0:wx.cell? ⟨w,0,none⟩=some (.int .i64 i)
 a1:wx.cell? ⟨w,1,none⟩=some (.int .i64 c)
 r0:wx.cell? ⟨w.heap.size+1,0,none⟩=some (.int .i64 0)
 r1:wx.cell? ⟨w.heap.size+1,1,none⟩=some (.int .i64 0)
 r2:wx.cell? ⟨w.heap.size+1,2,none⟩=some (.int .i64 0)
 r3:wx.cell? ⟨w.heap.size+1,3,none⟩=some (.int .i64 0)
 r4:wx.cell? ⟨w.heap.size+1,4,none⟩=some (.int .i64 0)
 fr:q7n wx (w.heap.size+1)
 q0:wx.cell? ⟨w.heap.size+1+1,0,none⟩=some (.int .i64 q.op)
 q1:wx.cell? ⟨w.heap.size+1+1,1,none⟩=some (.string q.tx)
 q2:wx.cell? ⟨w.heap.size+1+1,2,none⟩=some (.int .i64 q.n)
 q3:wx.cell? ⟨w.heap.size+1+1,3,none⟩=some (.int .i64 q.en)
 q4:wx.cell? ⟨w.heap.size+1+1,4,none⟩=some (.int .i64 q.nx)
 q5:wx.cell? ⟨w.heap.size+1+1,5,none⟩=some (.int .i64 q.dp)
 q6:wx.cell? ⟨w.heap.size+1+1,6,none⟩=some (.int .i64 q.lg)
 lt:w.heap.size+1+1<wx.heap.size
theorem ChB.kept{w wx wy:World}{i c mb:Nat}{q:Q}(h:ChB w wx i c q)(hb:q0v wx mb wx wy)(hm:mb<w.heap.size):ChB w wy i c q:=by
 have A:∀b o v,b≠mb->wx.cell? ⟨b,o,none⟩=some v->wy.cell? ⟨b,o,none⟩=some v:=fun b o v he hv=>(hb.cell (p:=⟨b,o,none⟩) (World.block_lt_of_cell? wx ⟨b,o,none⟩ hv) he).trans hv
 exact⟨A _ _ _ (by omega) h.a0,A _ _ _ (by omega) h.a1,A _ _ _ (by omega) h.r0,A _ _ _ (by omega) h.r1,A _ _ _ (by omega) h.r2,A _ _ _ (by omega) h.r3,A _ _ _ (by omega) h.r4,h.fr.kept (hb.block _ h.fr.lt (by omega)),
  A _ _ _ (by omega) h.q0,A _ _ _ (by omega) h.q1,A _ _ _ (by omega) h.q2,A _ _ _ (by omega) h.q3,A _ _ _ (by omega) h.q4,A _ _ _ (by omega) h.q5,A _ _ _ (by omega) h.q6,Nat.lt_of_lt_of_le h.lt hb.size⟩
theorem j3a{sb g mb wd i c:Nat}{R:List Pl}{S:Nat->Nat->Bool}{w w1:World}(h:Sk1 sb g mb wd i c R S w w1)(q:Q):ChB w (w1.alloc (q5t q)).drew i c q:=by
 have A:=heap_alloc_new w1 (q5t q);rw[h.sz]at A;have B:∀o v,(w1.alloc (q5t q)).cell? ⟨w.heap.size+1+1,o,none⟩=v->(w1.alloc (q5t q)).drew.cell? ⟨w.heap.size+1+1,o,none⟩=v:=fun _ _ h=>h
 refine⟨ka h.a0 _,ka h.a1 _,ka h.r0 _,ka h.r1 _,ka h.r2 _,ka h.r3 _,ka h.r4 _,h.fr.kept (Below.heap_alloc _ _ _ h.fr.lt),B _ _ ?_,B _ _ ?_,B _ _ ?_,B _ _ ?_,B _ _ ?_,B _ _ ?_,B _ _ ?_,?_⟩
 ·simp[World.cell?,A,q5t]
 ·simp[World.cell?,A,q5t]
 ·simp[World.cell?,A,q5t]
 ·simp[World.cell?,A,q5t]
 ·simp[World.cell?,A,q5t]
 ·simp[World.cell?,A,q5t]
 ·simp[World.cell?,A,q5t]
 ·show w.heap.size+1+1<(w1.alloc (q5t q)).heap.size;simp[h.sz]
set_option maxRecDepth 100000
set_option maxHeartbeats 4000000
theorem k3g{R:List Pl}{L M i nx dp wd c:Nat}{ks:List (Nat × Tr)}{t:Tr}(sb g mb:Nat)(Z:Sp R L M i t nx dp ks)(V:(q2 (q1p R i)).lg=-1)(hT:z5l sb g mb wd R i c 1)(w:World)(S:Nat->Nat->Bool)(h:Inv sb g mb wd R w S):
  Calls prog 110 #[.pointer (some ⟨sb,0,none⟩),.agg #[.int .i64 i,.int .i64 c]] w fun e w'=>e=.returned (cvV (tkC R wd i c 1))/\Left sb g mb wd R S (i+1) (tkC R wd i c 1).np (tkC R wd i c 1).nc w w':=by
 have H:Hid (Inv sb g mb wd R w S):=h;have p:=h.lt;have hi:i<R.length:=Z.lt;have Aa:(i:Int)<(R.length:Int):=by omega
 have Ab:(0:Int)<=(i:Int):=by omega
 have x:Hid (∀W,q6a W sb g wd R->z3j W g i (q2 (q1p R i))):=fun W m=>m.pr.get i hi
 have y:Hid (z5l sb g mb wd R i c 1):=hT;have k:Hid ((q2 (q1p R i)).lg=-1):=V;clear hT V;rw[cvV];clear h Z;generalize q2 (q1p R i)=q at *;go_in;go_wp2_with fail;have I:Sk1 sb g mb wd i c R S w ((w.alloc (.cells #[.int .i64 i,.int .i64 c] 121)).alloc (.cells #[.int .i64 0,.int .i64 0,.int .i64 0,.int .i64 0,.int .i64 0] 123)):=z6w (nq:=0) H.o
 generalize(w.alloc (.cells #[.int .i64 i,.int .i64 c] 121)).alloc (.cells #[.int .i64 0,.int .i64 0,.int .i64 0,.int .i64 0,.int .i64 0] 123)=w1 at *
 have C:Hid (Sk1 sb g mb wd i c R S w w1):=I;have r:=I.sz
 have E:∀W:World,W=w1.drew\/(∃O,W=(w1.alloc O).drew)->W.cell? ⟨sb,0,none⟩=some (.slice (some ⟨g,0,none⟩) R.length R.length)/\W.cell? ⟨w,0,none⟩=some (.int .i64 i)/\W.cell? ⟨g,i*7,none⟩=some (.int .i64 q.op)/\W.cell? ⟨g,i*7+1,none⟩=some (.string q.tx)/\W.cell? ⟨g,i*7+2,none⟩=some (.int .i64 q.n)/\W.cell? ⟨g,i*7+3,none⟩=some (.int .i64 q.en)/\W.cell? ⟨g,i*7+4,none⟩=some (.int .i64 q.nx)/\W.cell? ⟨g,i*7+5,none⟩=some (.int .i64 q.dp)/\W.cell? ⟨g,i*7+6,none⟩=some (.int .i64 q.lg):=by
  intro W m
  have D:q6a W sb g wd R/\W.cell? ⟨w,0,none⟩=some (.int .i64 i):=by
   rcases m with rfl|⟨O,rfl⟩
   ·exact⟨C.o.inv.pl.kept rfl rfl,C.o.a0⟩
   ·exact⟨(C.o.inv.pl.alloc O).kept rfl rfl,ka C.o.a0 O⟩
  obtain⟨d0,d1,d2,d3,d4,d5,d6⟩:=x.o W D.1;exact⟨D.1.c0,D.2,d0,d1,d2,d3,d4,d5,d6⟩
 have P:=E w1.drew (.inl rfl);have Q:=fun O=>E (w1.alloc O).drew (.inr ⟨O,rfl⟩)
 have B:Hid (ChB w (w1.alloc (q5t q)).drew i c q):=j3a C.o q;have j:Hid (Inv sb g mb wd R (w1.alloc (q5t q)).drew S):=(C.o.inv.alloc _).kept fun _ _=>rfl
 have K:Hid (q0v w mb w (w1.alloc (q5t q)).drew):=(q0v.of (C.o.bw.alloc C.o.bw.size _)).drew;clear I E
 go_region_held3 (fun w'=>w'.cell? ⟨sb,0,none⟩=some (.slice (some ⟨g,0,none⟩) R.length R.length)/\w'.cell? ⟨w,0,none⟩=some (.int .i64 i)/\w'.cell? ⟨g,i*7,none⟩=some (.int .i64 q.op)/\w'.cell? ⟨g,i*7+1,none⟩=some (.string q.tx)/\w'.cell? ⟨g,i*7+2,none⟩=some (.int .i64 q.n)/\w'.cell? ⟨g,i*7+3,none⟩=some (.int .i64 q.en)/\w'.cell? ⟨g,i*7+4,none⟩=some (.int .i64 q.nx)/\w'.cell? ⟨g,i*7+5,none⟩=some (.int .i64 q.dp)/\w'.cell? ⟨g,i*7+6,none⟩=some (.int .i64 q.lg))
  (first|with_reducible exact P|with_reducible exact Q _) (fail)
 all_goals
  generalize(w1.alloc (.cells #[.int .i64 q.op,.string q.tx,.int .i64 q.n,.int .i64 q.en,.int .i64 q.nx,.int .i64 q.dp,.int .i64 q.lg] 182)).drew=w2 at *
  have z:=B.o.a0;have a1:=B.o.a1;have u:=B.o.q6;clear P Q r;rw[k.o]at u;go_wp2_with fail;refine(y.o w2 S j.o).mono ?_;rintro e J⟨rfl,G,N,s,Y,X,U⟩;rw[cvV];have A:=B.o.kept G p.2.2;have r0:=A.r0;have r1:=A.r1;have r2:=A.r2;have r3:=A.r3;have r4:=A.r4;have y0:J.frozen? ⟨w.heap.size+1,0,none⟩=false:=A.fr.frozen;have y1:J.frozen? ⟨w.heap.size+1,1,none⟩=false:=A.fr.frozen;have y2:J.frozen? ⟨w.heap.size+1,2,none⟩=false:=A.fr.frozen;have y3:J.frozen? ⟨w.heap.size+1,3,none⟩=false:=A.fr.frozen;have y4:J.frozen? ⟨w.heap.size+1,4,none⟩=false:=A.fr.frozen;have f:Hid (q0v w mb w J):=K.o.trans (G.mono K.o.size);have d:Hid (Inv sb g mb wd R J N/\(∀a b,S a b=true->N a b=true)/\(∀a b,N a b=true->S a b=true\/i+1<=a)/\((q3i R wd i c 1).np<R.length->N (q3i R wd i c 1).np (q3i R wd i c 1).nc=true)):=⟨s,Y,X,U⟩;clear G s Y X U A z a1 u;go_wp2;exact bodyPost_ret (v:=.agg #[.int .i64 (tkC R wd i c 1).o,.int .i64 (tkC R wd i c 1).l,.int .i64 (tkC R wd i c 1).ch,.int .i64 (tkC R wd i c 1).np,.int .i64 (tkC R wd i c 1).nc]) (by simp[results,Tryz.results110,go_sem,r0,r1,r2,r3,r4]) rfl ⟨rfl,k3d f.o (by omega) _ _ _ _ _,N,d.o.1.set5 (by omega) (by omega) (by omega) _ _ _ _ _,d.o.2.1,d.o.2.2.1,d.o.2.2.2⟩
theorem k0m{R:List Pl}{L M i nx dp wd c:Nat}{ks:List (Nat × Tr)}{t:Tr}(sb g mb:Nat)(r:Sp R L M i t nx dp ks)(Ad:((q2 (q1p R i)).lg==-1)=false)(Aa:z1s (q2 (q1p R i)).op=false)(f:z5l sb g mb wd R i c 0)(w:World)(S:Nat->Nat->Bool)(h:Inv sb g mb wd R w S):
  Calls prog 110 #[.pointer (some ⟨sb,0,none⟩),.agg #[.int .i64 i,.int .i64 c]] w fun e w'=>e=.returned (cvV (tkC R wd i c 0))/\Left sb g mb wd R S (i+1) (tkC R wd i c 0).np (tkC R wd i c 0).nc w w':=by
 have H:Hid (Inv sb g mb wd R w S):=h;have Q:=h.lt;have hi:i<R.length:=r.lt;have Ac:(i:Int)<(R.length:Int):=by omega
 have Ae:(0:Int)<=(i:Int):=by omega
 have HQ:Hid (∀W,q6a W sb g wd R->z3j W g i (q2 (q1p R i))):=fun W hW=>hW.pr.get i hi
 have z:Hid (z5l sb g mb wd R i c 0):=f;clear f;rw[cvV];clear h r;generalize q2 (q1p R i)=q at *;go_in;go_wp2_with fail;have U:Sk1 sb g mb wd i c R S w ((w.alloc (.cells #[.int .i64 i,.int .i64 c] 121)).alloc (.cells #[.int .i64 0,.int .i64 0,.int .i64 0,.int .i64 0,.int .i64 0] 123)):=z6w (nq:=0) H.o
 generalize(w.alloc (.cells #[.int .i64 i,.int .i64 c] 121)).alloc (.cells #[.int .i64 0,.int .i64 0,.int .i64 0,.int .i64 0,.int .i64 0] 123)=w1 at *
 have I:Hid (Sk1 sb g mb wd i c R S w w1):=U;have Ab:=U.sz
 have N:∀W:World,W=w1.drew\/(∃O,W=(w1.alloc O).drew)->W.cell? ⟨sb,0,none⟩=some (.slice (some ⟨g,0,none⟩) R.length R.length)/\W.cell? ⟨w,0,none⟩=some (.int .i64 i)/\W.cell? ⟨g,i*7,none⟩=some (.int .i64 q.op)/\W.cell? ⟨g,i*7+1,none⟩=some (.string q.tx)/\W.cell? ⟨g,i*7+2,none⟩=some (.int .i64 q.n)/\W.cell? ⟨g,i*7+3,none⟩=some (.int .i64 q.en)/\W.cell? ⟨g,i*7+4,none⟩=some (.int .i64 q.nx)/\W.cell? ⟨g,i*7+5,none⟩=some (.int .i64 q.dp)/\W.cell? ⟨g,i*7+6,none⟩=some (.int .i64 q.lg):=by
  intro W hW
  have K:q6a W sb g wd R/\W.cell? ⟨w,0,none⟩=some (.int .i64 i):=by
   rcases hW with rfl|⟨O,rfl⟩
   ·exact⟨I.o.inv.pl.kept rfl rfl,I.o.a0⟩
   ·exact⟨(I.o.inv.pl.alloc O).kept rfl rfl,ka I.o.a0 O⟩
  obtain⟨d0,d1,d2,d3,d4,d5,d6⟩:=HQ.o W K.1;exact⟨K.1.c0,K.2,d0,d1,d2,d3,d4,d5,d6⟩
 have Z:=N w1.drew (.inl rfl);have d:=fun O=>N (w1.alloc O).drew (.inr ⟨O,rfl⟩)
 have G:Hid (ChB w (w1.alloc (q5t q)).drew i c q):=j3a I.o q;have x:Hid (Inv sb g mb wd R (w1.alloc (q5t q)).drew S):=(I.o.inv.alloc _).kept fun _ _=>rfl
 have X:Hid (q0v w mb w (w1.alloc (q5t q)).drew):=(q0v.of (I.o.bw.alloc I.o.bw.size _)).drew;clear U N
 go_region_held3 (fun w'=>w'.cell? ⟨sb,0,none⟩=some (.slice (some ⟨g,0,none⟩) R.length R.length)/\w'.cell? ⟨w,0,none⟩=some (.int .i64 i)/\w'.cell? ⟨g,i*7,none⟩=some (.int .i64 q.op)/\w'.cell? ⟨g,i*7+1,none⟩=some (.string q.tx)/\w'.cell? ⟨g,i*7+2,none⟩=some (.int .i64 q.n)/\w'.cell? ⟨g,i*7+3,none⟩=some (.int .i64 q.en)/\w'.cell? ⟨g,i*7+4,none⟩=some (.int .i64 q.nx)/\w'.cell? ⟨g,i*7+5,none⟩=some (.int .i64 q.dp)/\w'.cell? ⟨g,i*7+6,none⟩=some (.int .i64 q.lg))
  (first|with_reducible exact Z|with_reducible exact d _) (fail)
 all_goals
  generalize(w1.alloc (.cells #[.int .i64 q.op,.string q.tx,.int .i64 q.n,.int .i64 q.en,.int .i64 q.nx,.int .i64 q.dp,.int .i64 q.lg] 182)).drew=w2 at *
  have a0:=G.o.a0;have a1:=G.o.a1;have q6:=G.o.q6;clear Z d Ab;go_wp2_with fail;refine(z.o w2 S x.o).mono ?_;rintro e D⟨rfl,P,V,hI,m,k,j⟩;rw[cvV];have C:=G.o.kept P Q.2.2;have J:Hid (q0v w mb w D):=X.o.trans (P.mono X.o.size);have s:Hid (Inv sb g mb wd R D V/\(∀a b,S a b=true->V a b=true)/\(∀a b,V a b=true->S a b=true\/i+1<=a)/\((tkC R wd i c 0).np<R.length->V (tkC R wd i c 0).np (tkC R wd i c 0).nc=true)):=⟨hI,m,k,j⟩;have u0:=fun O=>ka C.q0 O
  have u1:=fun O=>ka C.q1 O
  have u2:=fun O=>ka C.q2 O
  have u3:=fun O=>ka C.q3 O
  have u4:=fun O=>ka C.q4 O
  have u5:=fun O=>ka C.q5 O
  have u6:=fun O=>ka C.q6 O
  have Y:Hid (ChB w D i c q):=C;clear P hI m k j C a0 a1 q6;go_wp2_with fail;refine(q9u q.op q.tx q.n q.en q.nx q.dp q.lg _).mono ?_;rintro e E⟨rfl,B⟩;rw[Aa];have Af:D.heap.size<E.heap.size:=by have:=B.size;simp at this;omega
  have A:Hid (ChB w E i c q):=(Y.o.kept (mb:=mb) (q0v.of ((Below.refl _ D).alloc Zl _)) Q.2.2).kept (q0v.of B) Q.2.2;have y:Hid (Inv sb g mb wd R E V):=(s.o.1.alloc _).W B;have u:Hid (q0v w mb w E):=(J.o.alloc (by have:=J.o.size;omega) _).trans (q0v.of (B.mono (by have:=J.o.size;simp;omega)));have s0:E.cell? ⟨D,0,none⟩=some (.int .i64 (tkC R wd i c 0).o):=(B.cell (p:=⟨D,0,none⟩) (by simp)).trans (by simp[go_sem]);have s1:E.cell? ⟨D,1,none⟩=some (.int .i64 (tkC R wd i c 0).l):=(B.cell (p:=⟨D,1,none⟩) (by simp)).trans (by simp[go_sem]);have s2:E.cell? ⟨D,2,none⟩=some (.int .i64 (tkC R wd i c 0).ch):=(B.cell (p:=⟨D,2,none⟩) (by simp)).trans (by simp[go_sem]);have s3:E.cell? ⟨D,3,none⟩=some (.int .i64 (tkC R wd i c 0).np):=(B.cell (p:=⟨D,3,none⟩) (by simp)).trans (by simp[go_sem]);have s4:E.cell? ⟨D,4,none⟩=some (.int .i64 (tkC R wd i c 0).nc):=(B.cell (p:=⟨D,4,none⟩) (by simp)).trans (by simp[go_sem]);have r0:=A.o.r0;have r1:=A.o.r1;have r2:=A.o.r2;have r3:=A.o.r3;have r4:=A.o.r4;have y0:E.frozen? ⟨w.heap.size+1,0,none⟩=false:=A.o.fr.frozen;have y1:E.frozen? ⟨w.heap.size+1,1,none⟩=false:=A.o.fr.frozen;have y2:E.frozen? ⟨w.heap.size+1,2,none⟩=false:=A.o.fr.frozen;have y3:E.frozen? ⟨w.heap.size+1,3,none⟩=false:=A.o.fr.frozen;have y4:E.frozen? ⟨w.heap.size+1,4,none⟩=false:=A.o.fr.frozen;clear u0 u1 u2 u3 u4 u5 u6 B;go_wp2;exact bodyPost_ret (v:=.agg #[.int .i64 (tkC R wd i c 0).o,.int .i64 (tkC R wd i c 0).l,.int .i64 (tkC R wd i c 0).ch,.int .i64 (tkC R wd i c 0).np,.int .i64 (tkC R wd i c 0).nc]) (by simp[results,Tryz.results110,go_sem,r0,r1,r2,r3,r4]) rfl ⟨rfl,k3d u.o (by omega) _ _ _ _ _,V,y.o.set5 (by omega) (by omega) (by omega) _ _ _ _ _,s.o.2.1,s.o.2.2.1,s.o.2.2.2⟩
theorem q9y{R:List Pl}{L M i nx dp wd c:Nat}{ks:List (Nat × Tr)}{t:Tr}(sb g mb:Nat)(Am:Sp R L M i t nx dp ks)(Av:((q2 (q1p R i)).lg==-1)=false)(Ar:z1s (q2 (q1p R i)).op=true)(Ai:z5l sb g mb wd R i c 0)(Aj:z5l sb g mb wd R i c 1)(Ak:(tkC R wd i c 0).o<=1000000/\(tkC R wd i c 0).l<=1000000)(Al:(tkC R wd i c 1).o<=1000000/\(tkC R wd i c 1).l<=1000000)(k:Nat)(hk:k=0/\decide (q2w ((tkC R wd i c 1).o,(tkC R wd i c 1).l) ((tkC R wd i c 0).o,(tkC R wd i c 0).l))=false\/k=1/\decide (q2w ((tkC R wd i c 1).o,(tkC R wd i c 1).l) ((tkC R wd i c 0).o,(tkC R wd i c 0).l))=true)(w:World)(S:Nat->Nat->Bool)(h:Inv sb g mb wd R w S):
  Calls prog 110 #[.pointer (some ⟨sb,0,none⟩),.agg #[.int .i64 i,.int .i64 c]] w fun e w'=>e=.returned (cvV (tkC R wd i c k))/\Left sb g mb wd R S (i+1) (tkC R wd i c k).np (tkC R wd i c k).nc w w':=by
 have H:Hid (Inv sb g mb wd R w S):=h;have P:=h.lt;have hi:i<R.length:=Am.lt;have Au:(i:Int)<(R.length:Int):=by omega
 have Aw:(0:Int)<=(i:Int):=by omega
 have HQ:Hid (∀W,q6a W sb g wd R->z3j W g i (q2 (q1p R i))):=fun W hW=>hW.pr.get i hi
 have Ap:Hid (z5l sb g mb wd R i c 0):=Ai;have Aq:Hid (z5l sb g mb wd R i c 1):=Aj;clear Ai Aj;rw[cvV];clear h Am;generalize q2 (q1p R i)=q at *;go_in;go_wp2_with fail;have z:Sk1 sb g mb wd i c R S w ((w.alloc (.cells #[.int .i64 i,.int .i64 c] 121)).alloc (.cells #[.int .i64 0,.int .i64 0,.int .i64 0,.int .i64 0,.int .i64 0] 123)):=z6w (nq:=0) H.o
 generalize(w.alloc (.cells #[.int .i64 i,.int .i64 c] 121)).alloc (.cells #[.int .i64 0,.int .i64 0,.int .i64 0,.int .i64 0,.int .i64 0] 123)=w1 at *
 have m:Hid (Sk1 sb g mb wd i c R S w w1):=z;have As:=z.sz
 have y:∀W:World,W=w1.drew\/(∃O,W=(w1.alloc O).drew)->W.cell? ⟨sb,0,none⟩=some (.slice (some ⟨g,0,none⟩) R.length R.length)/\W.cell? ⟨w,0,none⟩=some (.int .i64 i)/\W.cell? ⟨g,i*7,none⟩=some (.int .i64 q.op)/\W.cell? ⟨g,i*7+1,none⟩=some (.string q.tx)/\W.cell? ⟨g,i*7+2,none⟩=some (.int .i64 q.n)/\W.cell? ⟨g,i*7+3,none⟩=some (.int .i64 q.en)/\W.cell? ⟨g,i*7+4,none⟩=some (.int .i64 q.nx)/\W.cell? ⟨g,i*7+5,none⟩=some (.int .i64 q.dp)/\W.cell? ⟨g,i*7+6,none⟩=some (.int .i64 q.lg):=by
  intro W hW
  have x:q6a W sb g wd R/\W.cell? ⟨w,0,none⟩=some (.int .i64 i):=by
   rcases hW with rfl|⟨O,rfl⟩
   ·exact⟨m.o.inv.pl.kept rfl rfl,m.o.a0⟩
   ·exact⟨(m.o.inv.pl.alloc O).kept rfl rfl,ka m.o.a0 O⟩
  obtain⟨d0,d1,d2,d3,d4,d5,d6⟩:=HQ.o W x.1;exact⟨x.1.c0,x.2,d0,d1,d2,d3,d4,d5,d6⟩
 have Ag:=y w1.drew (.inl rfl);have Ah:=fun O=>y (w1.alloc O).drew (.inr ⟨O,rfl⟩)
 have j:Hid (ChB w (w1.alloc (q5t q)).drew i c q):=j3a m.o q;have An:Hid (Inv sb g mb wd R (w1.alloc (q5t q)).drew S):=(m.o.inv.alloc _).kept fun _ _=>rfl
 have Aa:Hid (q0v w mb w (w1.alloc (q5t q)).drew):=(q0v.of (m.o.bw.alloc m.o.bw.size _)).drew;clear z y
 go_region_held3 (fun w'=>w'.cell? ⟨sb,0,none⟩=some (.slice (some ⟨g,0,none⟩) R.length R.length)/\w'.cell? ⟨w,0,none⟩=some (.int .i64 i)/\w'.cell? ⟨g,i*7,none⟩=some (.int .i64 q.op)/\w'.cell? ⟨g,i*7+1,none⟩=some (.string q.tx)/\w'.cell? ⟨g,i*7+2,none⟩=some (.int .i64 q.n)/\w'.cell? ⟨g,i*7+3,none⟩=some (.int .i64 q.en)/\w'.cell? ⟨g,i*7+4,none⟩=some (.int .i64 q.nx)/\w'.cell? ⟨g,i*7+5,none⟩=some (.int .i64 q.dp)/\w'.cell? ⟨g,i*7+6,none⟩=some (.int .i64 q.lg))
  (first|with_reducible exact Ag|with_reducible exact Ah _) (fail)
 all_goals
  generalize(w1.alloc (.cells #[.int .i64 q.op,.string q.tx,.int .i64 q.n,.int .i64 q.en,.int .i64 q.nx,.int .i64 q.dp,.int .i64 q.lg] 182)).drew=w2 at *
  have a0:=j.o.a0;have a1:=j.o.a1;have q6:=j.o.q6;clear Ag Ah As;go_wp2_with fail;refine(Ap.o w2 S An.o).mono ?_;rintro e B⟨rfl,D,r,hI,Y,X,V⟩;rw[cvV];have I:=j.o.kept D P.2.2;have f:Hid (q0v w mb w B):=Aa.o.trans (D.mono Aa.o.size);have HR:Hid (Inv sb g mb wd R B r/\(∀a b,S a b=true->r a b=true)/\(∀a b,r a b=true->S a b=true\/i+1<=a)/\((tkC R wd i c 0).np<R.length->r (tkC R wd i c 0).np (tkC R wd i c 0).nc=true)):=⟨hI,Y,X,V⟩;have u0:=fun O=>ka I.q0 O
  have u1:=fun O=>ka I.q1 O
  have u2:=fun O=>ka I.q2 O
  have u3:=fun O=>ka I.q3 O
  have u4:=fun O=>ka I.q4 O
  have u5:=fun O=>ka I.q5 O
  have u6:=fun O=>ka I.q6 O
  have Ad:Hid (ChB w B i c q):=I;clear D hI Y X V I a0 a1 q6;go_wp2_with fail;refine(q9u q.op q.tx q.n q.en q.nx q.dp q.lg _).mono ?_;rintro e d⟨rfl,E⟩;rw[Ar];have Q:B.heap.size<d.heap.size:=by have:=E.size;simp at this;omega
  have U:Hid (ChB w d i c q):=(Ad.o.kept (mb:=mb) (q0v.of ((Below.refl _ B).alloc Zl _)) P.2.2).kept (q0v.of E) P.2.2;have Ao:Hid (Inv sb g mb wd R d r):=(HR.o.1.alloc _).W E;have Ab:Hid (q0v w mb w d):=(f.o.alloc (by have:=f.o.size;omega) _).trans (q0v.of (E.mono (by have:=f.o.size;simp;omega)));have s0:d.cell? ⟨B,0,none⟩=some (.int .i64 (tkC R wd i c 0).o):=(E.cell (p:=⟨B,0,none⟩) (by simp)).trans (by simp[go_sem]);have s1:d.cell? ⟨B,1,none⟩=some (.int .i64 (tkC R wd i c 0).l):=(E.cell (p:=⟨B,1,none⟩) (by simp)).trans (by simp[go_sem]);have s2:d.cell? ⟨B,2,none⟩=some (.int .i64 (tkC R wd i c 0).ch):=(E.cell (p:=⟨B,2,none⟩) (by simp)).trans (by simp[go_sem]);have s3:d.cell? ⟨B,3,none⟩=some (.int .i64 (tkC R wd i c 0).np):=(E.cell (p:=⟨B,3,none⟩) (by simp)).trans (by simp[go_sem]);have s4:d.cell? ⟨B,4,none⟩=some (.int .i64 (tkC R wd i c 0).nc):=(E.cell (p:=⟨B,4,none⟩) (by simp)).trans (by simp[go_sem]);have a0:=U.o.a0;have a1:=U.o.a1;clear u0 u1 u2 u3 u4 u5 u6 E;go_wp2_with fail;refine(Aq.o d r Ao.o).mono ?_;rintro e G⟨rfl,D,u,hI,Y,X,V⟩;rw[cvV];have Ae:Hid (ChB w G i c q):=U.o.kept D P.2.2;have s:Hid (q0v w mb w G):=Ab.o.trans (D.mono Ab.o.size);have Z:B.heap.size≠mb:=by have:=f.o.size;omega
  have z0:G.cell? ⟨B,0,none⟩=some (.int .i64 (tkC R wd i c 0).o):=(D.cell (p:=⟨B,0,none⟩) Q Z).trans s0;have z1:G.cell? ⟨B,1,none⟩=some (.int .i64 (tkC R wd i c 0).l):=(D.cell (p:=⟨B,1,none⟩) Q Z).trans s1;have z2:G.cell? ⟨B,2,none⟩=some (.int .i64 (tkC R wd i c 0).ch):=(D.cell (p:=⟨B,2,none⟩) Q Z).trans s2;have z3:G.cell? ⟨B,3,none⟩=some (.int .i64 (tkC R wd i c 0).np):=(D.cell (p:=⟨B,3,none⟩) Q Z).trans s3;have z4:G.cell? ⟨B,4,none⟩=some (.int .i64 (tkC R wd i c 0).nc):=(D.cell (p:=⟨B,4,none⟩) Q Z).trans s4;have v0:=fun O=>ka z0 O
  have v1:=fun O=>ka z1 O
  have K:Hid (Inv sb g mb wd R G u/\(∀a b,r a b=true->u a b=true)/\(∀a b,u a b=true->r a b=true\/i+1<=a)/\((tkC R wd i c 1).np<R.length->u (tkC R wd i c 1).np (tkC R wd i c 1).nc=true)):=⟨hI,Y,X,V⟩;have At:B.heap.size<G.heap.size:=Nat.lt_of_lt_of_le Q D.size;clear D hI Y X V a0 a1;go_wp2_with fail;refine(j2o (tkC R wd i c 1).o (tkC R wd i c 1).l (tkC R wd i c 0).o (tkC R wd i c 0).l Al.1 Al.2 Ak.1 Ak.2 _).mono ?_;rintro e J⟨rfl,C⟩;have A:=(Ae.o.kept (mb:=mb) (q0v.of ((Below.refl _ G).alloc Zl _)) P.2.2).kept (q0v.of C) P.2.2;have Af:Hid (Inv sb g mb wd R J u):=(K.o.1.alloc _).W C;have Ac:Hid (q0v w mb w J):=(s.o.alloc (by have:=s.o.size;omega) _).trans (q0v.of (C.mono (by have:=s.o.size;simp;omega)));have r0:=A.r0;have r1:=A.r1;have r2:=A.r2;have r3:=A.r3;have r4:=A.r4;have y0:J.frozen? ⟨w.heap.size+1,0,none⟩=false:=A.fr.frozen;have y1:J.frozen? ⟨w.heap.size+1,1,none⟩=false:=A.fr.frozen;have y2:J.frozen? ⟨w.heap.size+1,2,none⟩=false:=A.fr.frozen;have y3:J.frozen? ⟨w.heap.size+1,3,none⟩=false:=A.fr.frozen;have y4:J.frozen? ⟨w.heap.size+1,4,none⟩=false:=A.fr.frozen;rcases hk with⟨rfl,N⟩|⟨rfl,N⟩
  ·rw[N];have x0:J.cell? ⟨B,0,none⟩=some (.int .i64 (tkC R wd i c 0).o):=(C.cell (p:=⟨B,0,none⟩) (by simp;omega)).trans (ka z0 _);have x1:J.cell? ⟨B,1,none⟩=some (.int .i64 (tkC R wd i c 0).l):=(C.cell (p:=⟨B,1,none⟩) (by simp;omega)).trans (ka z1 _);have x2:J.cell? ⟨B,2,none⟩=some (.int .i64 (tkC R wd i c 0).ch):=(C.cell (p:=⟨B,2,none⟩) (by simp;omega)).trans (ka z2 _);have x3:J.cell? ⟨B,3,none⟩=some (.int .i64 (tkC R wd i c 0).np):=(C.cell (p:=⟨B,3,none⟩) (by simp;omega)).trans (ka z3 _);have x4:J.cell? ⟨B,4,none⟩=some (.int .i64 (tkC R wd i c 0).nc):=(C.cell (p:=⟨B,4,none⟩) (by simp;omega)).trans (ka z4 _);clear z0 z1 z2 z3 z4 s0 s1 s2 s3 s4 v0 v1 C A;go_wp2;refine bodyPost_ret (v:=.agg #[.int .i64 (tkC R wd i c 0).o,.int .i64 (tkC R wd i c 0).l,.int .i64 (tkC R wd i c 0).ch,.int .i64 (tkC R wd i c 0).np,.int .i64 (tkC R wd i c 0).nc]) (by simp[results,Tryz.results110,go_sem,r0,r1,r2,r3,r4]) rfl ⟨rfl,k3d Ac.o (by omega) _ _ _ _ _,u,Af.o.set5 (by omega) (by omega) (by omega) _ _ _ _ _,fun a b hab=>K.o.2.1 a b (HR.o.2.1 a b hab),fun a b hab=>?_,fun h=>K.o.2.1 _ _ (HR.o.2.2.2 h)⟩;rcases K.o.2.2.1 a b hab with h|h
   ·exact HR.o.2.2.1 a b h
   ·exact .inr h
  ·rw[N];have x0:J.cell? ⟨G,0,none⟩=some (.int .i64 (tkC R wd i c 1).o):=(C.cell (p:=⟨G,0,none⟩) (by simp)).trans (by simp[go_sem]);have x1:J.cell? ⟨G,1,none⟩=some (.int .i64 (tkC R wd i c 1).l):=(C.cell (p:=⟨G,1,none⟩) (by simp)).trans (by simp[go_sem]);have x2:J.cell? ⟨G,2,none⟩=some (.int .i64 (tkC R wd i c 1).ch):=(C.cell (p:=⟨G,2,none⟩) (by simp)).trans (by simp[go_sem]);have x3:J.cell? ⟨G,3,none⟩=some (.int .i64 (tkC R wd i c 1).np):=(C.cell (p:=⟨G,3,none⟩) (by simp)).trans (by simp[go_sem]);have x4:J.cell? ⟨G,4,none⟩=some (.int .i64 (tkC R wd i c 1).nc):=(C.cell (p:=⟨G,4,none⟩) (by simp)).trans (by simp[go_sem]);clear z0 z1 z2 z3 z4 s0 s1 s2 s3 s4 v0 v1 C A;go_wp2;refine bodyPost_ret (v:=.agg #[.int .i64 (tkC R wd i c 1).o,.int .i64 (tkC R wd i c 1).l,.int .i64 (tkC R wd i c 1).ch,.int .i64 (tkC R wd i c 1).np,.int .i64 (tkC R wd i c 1).nc]) (by simp[results,Tryz.results110,go_sem,r0,r1,r2,r3,r4]) rfl ⟨rfl,k3d Ac.o (by omega) _ _ _ _ _,u,Af.o.set5 (by omega) (by omega) (by omega) _ _ _ _ _,fun a b hab=>K.o.2.1 a b (HR.o.2.1 a b hab),fun a b hab=>?_,fun h=>K.o.2.2.2 h⟩;rcases K.o.2.2.1 a b hab with h|h
   ·exact HR.o.2.2.1 a b h
   ·exact .inr h
theorem v5s{t:Tr}{wd:Nat}(sb g mb:Nat)(ht:t.Wf)(hn:t.sz<=400)(hw:wd<=100):∀m i c,(q0a t).length-i<=m->i<=(q0a t).length->c<=wd->j1v sb g mb wd (q0a t) i c:=by
 have X:=q9l t;have V:t.lf*(21+t.dsum)<=400000:=y2f X hn;have Q:t.lf<=400:=by unfold Tr.sz at hn;omega
 have R:t.dsum<=3200:=by unfold Tr.sz at hn;omega
 have a:(q0a t).length<=400:=by rw[q2y];exact hn
 intro m
 induction m with
 | zero=>intro i c f j s;exact k7v sb g mb wd i c _ (by omega)
 | succ m ih=>
  intro i c f j P;by_cases d:i<(q0a t).length
  ·obtain⟨Y,z,r,y,A⟩:=j9s ht d;refine v5t sb g mb wd i c _ d a hw P ?_;have L:=A.at
   have b:∀ch,∃k:Cv,k=(if(q3i (q0a t) wd i c ch).np<(q0a t).length then crs (q0a t) wd (q3i (q0a t) wd i c ch).np (q3i (q0a t) wd i c ch).nc else zCv)/\k.o=(vv (q0a t) wd (q3i (q0a t) wd i c ch).np (q3i (q0a t) wd i c ch).nc).1.1/\k.l=(vv (q0a t) wd (q3i (q0a t) wd i c ch).np (q3i (q0a t) wd i c ch).nc).1.2/\k.o<=400000/\k.l<=400000:=fun ch=>by
    have G:=j6u (ch:=ch) A P hw Q R;refine⟨_,rfl,?_⟩;by_cases W:(q3i (q0a t) wd i c ch).np<(q0a t).length
    ·rw[if_pos W];obtain⟨t2,q,e,p,H⟩:=j9s ht W;have n:=(j3k H G.cl).1;have U:=y9o (wd:=wd) (c:=(q3i (q0a t) wd i c ch).nc) H V;rw[n]at U⊢;exact⟨rfl,rfl,U⟩
    ·rw[if_neg W,v9n (by omega)];exact⟨rfl,rfl,by simp[zCv],by simp[zCv]⟩
   have K:∀ch,(ch=0\/ch=1)->(Y.lg=-1->ch=1)->z5l sb g mb wd (q0a t) i c ch:=fun ch h01 hh=>by
    have G:=j6u (ch:=ch) A P hw Q R
    have:=G.lo
    exact v6n sb g mb a A P hw Q R h01 hh (ih _ _ (by omega) G.hi G.cl) (b ch)
   have D:∀ch,(tkC (q0a t) wd i c ch).o<=1000000/\(tkC (q0a t) wd i c ch).l<=1000000:=fun ch=>by
    have G:=j6u (ch:=ch) A P hw Q R;obtain⟨k,_,U,u,v,x⟩:=b ch
    have:=G.bo
    have:=G.bl
    simp only[tkC,j3m];omega
   have Z:(q2 (q1p (q0a t) i)).lg=Y.lg:=by rw[L];rfl
   intro w S h;by_cases C:Y.lg=-1
   ·have I:crs (q0a t) wd i c=tkC (q0a t) wd i c 1:=by rw[crs,if_pos (show(q1p (q0a t) i).lg=-1 by rw[L];exact C)]
    rw[I];exact k3g sb g mb A (by rw[Z];exact C) (K 1 (.inr rfl) fun _=>rfl) w S h
   ·have N:((q2 (q1p (q0a t) i)).lg==-1)=false:=beq_eq_false_iff_ne.2 (by rw[Z];exact C);have J:=K 0 (.inl rfl) fun h=>absurd h C
    have O:=K 1 (.inr rfl) fun _=>rfl
    have M:¬(q1p (q0a t) i).lg=-1:=by rw[L];exact C
    cases B:z1s (q1p (q0a t) i).nd.op with
    | false=>
     have I:crs (q0a t) wd i c=tkC (q0a t) wd i c 0:=by rw[crs,if_neg M,if_pos B]
     rw[I];exact k0m sb g mb A N B J w S h
    | true=>
     by_cases E:q2w ((tkC (q0a t) wd i c 1).o,(tkC (q0a t) wd i c 1).l) ((tkC (q0a t) wd i c 0).o,(tkC (q0a t) wd i c 0).l)
     ·have I:crs (q0a t) wd i c=tkC (q0a t) wd i c 1:=by rw[crs,if_neg M,if_neg (by rw[B];simp),if_pos E]
      rw[I];exact q9y sb g mb A N B J O (D 0) (D 1) 1 (.inr ⟨rfl,decide_eq_true E⟩) w S h
     ·have I:crs (q0a t) wd i c=tkC (q0a t) wd i c 0:=by rw[crs,if_neg M,if_neg (by rw[B];simp),if_neg E]
      rw[I];exact q9y sb g mb A N B J O (D 0) (D 1) 0 (.inl ⟨rfl,decide_eq_false E⟩) w S h
  ·exact k7v sb g mb wd i c _ (by omega)
def z2q(be bf i:Nat)(e f:Value)(w w':World):Prop:=
 w'.os=w.os/\w'.tape=w.tape/\w'.output=w.output/\w'.heap=((w.setCell ⟨be,i,none⟩ e).setCell ⟨bf,i,none⟩ f).heap
theorem j1g{i n:Nat}(hn:n<=400)(hi:(i:Int)<n):IntKind.i64.wrap ((i:Int)+1)=(i:Int)+1:=by
 rw[IntKind.wrap_i64];omega
set_option maxHeartbeats 16000000
theorem q8m(oq:Int)(ho:oq=1\/oq=2\/oq=3\/oq=5)(bp be bf s o n cap i:Nat)(w:World)(hn:n<=400)(hi:(i:Int)<n)(h1:bp≠be)(h2:bp≠bf)(h3:be≠bf)(h4:s≠be)(h5:s≠bf)
  (c0:w.cell? ⟨bp,0,none⟩=some (.slice (some ⟨s,o,none⟩) n cap)) (c1:w.cell? ⟨bp,1,none⟩=some (.slice (some ⟨be,0,none⟩) n n)) (c2:w.cell? ⟨bp,2,none⟩=some (.slice (some ⟨bf,0,none⟩) n n))
  (d1:w.cell? ⟨s,o+i*3,none⟩=some (.int .i64 oq))
  (y1 y2:Value) (e5:w.cell? ⟨be,i,none⟩=some y1) (e6:w.cell? ⟨bf,i,none⟩=some y2) (z1:w.frozen? ⟨be,i,none⟩=false) (z2:w.frozen? ⟨bf,i,none⟩=false):
  Calls prog 114 #[.pointer (some ⟨bp,0,none⟩),.int .i64 i] w fun e w'=>e=.returned (.tuple #[])/\z2q be bf i (.int .i64 ((i:Int)+1)) (.bool true) w w':=by
 have E:y3t oq:=.mk;rcases ho with rfl|rfl|rfl|rfl
 all_goals
  have D:=j1g hn hi;have B:(0:Int)<=(i:Int)+1:=by omega
  have A:(0:Int)<=(i:Int):=by omega
  have C:((i:Int)+1).toNat=i+1:=by omega
  go_in;go_wp2_with fail
  go_region_held3 (fun w'=>w'.cell? ⟨bp,0,none⟩=some (.slice (some ⟨s,o,none⟩) n cap)/\w'.cell? ⟨bp,1,none⟩=some (.slice (some ⟨be,0,none⟩) n n)/\w'.cell? ⟨bp,2,none⟩=some (.slice (some ⟨bf,0,none⟩) n n)/\w'.cell? ⟨s,o+i*3,none⟩=some (.int .i64 ↑E))
   (first|exact⟨c0,c1,c2,d1⟩|exact⟨(cso (by omega)).trans c0,(cso (by omega)).trans c1,(cso (by omega)).trans c2,(cso (by omega)).trans d1⟩|exact⟨(cso (by omega)).trans ((cso (by omega)).trans c0),(cso (by omega)).trans ((cso (by omega)).trans c1),(cso (by omega)).trans ((cso (by omega)).trans c2),(cso (by omega)).trans ((cso (by omega)).trans d1)⟩) (fail)
  all_goals
   go_wp2
   go_end0
   exact⟨rfl,rfl,rfl,rfl,rfl⟩
theorem y1o(bp be bf s o n cap i:Nat)(w:World)(hn:n<=400)(hi:(i:Int)<n)(h1:bp≠be)(h2:bp≠bf)(h3:be≠bf)(h4:s≠be)(h5:s≠bf)
  (c0:w.cell? ⟨bp,0,none⟩=some (.slice (some ⟨s,o,none⟩) n cap)) (c1:w.cell? ⟨bp,1,none⟩=some (.slice (some ⟨be,0,none⟩) n n)) (c2:w.cell? ⟨bp,2,none⟩=some (.slice (some ⟨bf,0,none⟩) n n))
  (d1:w.cell? ⟨s,o+i*3,none⟩=some (.int .i64 4))
  (y1 y2:Value) (e5:w.cell? ⟨be,i,none⟩=some y1) (e6:w.cell? ⟨bf,i,none⟩=some y2) (z1:w.frozen? ⟨be,i,none⟩=false) (z2:w.frozen? ⟨bf,i,none⟩=false):
  Calls prog 114 #[.pointer (some ⟨bp,0,none⟩),.int .i64 i] w fun e w'=>e=.returned (.tuple #[])/\z2q be bf i (.int .i64 ((i:Int)+1)) (.bool false) w w':=by
 have D:=j1g hn hi;have B:(0:Int)<=(i:Int)+1:=by omega
 have A:(0:Int)<=(i:Int):=by omega
 have C:((i:Int)+1).toNat=i+1:=by omega
 go_in;go_wp2_with fail
 go_region_held3 (fun w'=>w'.cell? ⟨bp,0,none⟩=some (.slice (some ⟨s,o,none⟩) n cap)/\w'.cell? ⟨bp,1,none⟩=some (.slice (some ⟨be,0,none⟩) n n)/\w'.cell? ⟨bp,2,none⟩=some (.slice (some ⟨bf,0,none⟩) n n)/\w'.cell? ⟨s,o+i*3,none⟩=some (.int .i64 4))
  (first|exact⟨c0,c1,c2,d1⟩|exact⟨(cso (by omega)).trans c0,(cso (by omega)).trans c1,(cso (by omega)).trans c2,(cso (by omega)).trans d1⟩|exact⟨(cso (by omega)).trans ((cso (by omega)).trans c0),(cso (by omega)).trans ((cso (by omega)).trans c1),(cso (by omega)).trans ((cso (by omega)).trans c2),(cso (by omega)).trans ((cso (by omega)).trans d1)⟩) (fail)
 all_goals
  go_wp2
  go_end0
  exact⟨rfl,rfl,rfl,rfl,rfl⟩
theorem k6u(oq:Int)(ho:oq=7\/oq=8)(bp be bf s o n cap i:Nat)(x1:Int)(f1:Bool)(w:World)(hn:n<=400)(hi:(i:Int)<n)(A:(i:Int)+1<n)(h1:bp≠be)(h2:bp≠bf)(h3:be≠bf)(h4:s≠be)(h5:s≠bf)
  (c0:w.cell? ⟨bp,0,none⟩=some (.slice (some ⟨s,o,none⟩) n cap)) (c1:w.cell? ⟨bp,1,none⟩=some (.slice (some ⟨be,0,none⟩) n n)) (c2:w.cell? ⟨bp,2,none⟩=some (.slice (some ⟨bf,0,none⟩) n n))
  (d1:w.cell? ⟨s,o+i*3,none⟩=some (.int .i64 oq))
  (e1:w.cell? ⟨be,i+1,none⟩=some (.int .i64 x1))
  (e3:w.cell? ⟨bf,i+1,none⟩=some (.bool f1))
  (y1 y2:Value) (e5:w.cell? ⟨be,i,none⟩=some y1) (e6:w.cell? ⟨bf,i,none⟩=some y2) (z1:w.frozen? ⟨be,i,none⟩=false) (z2:w.frozen? ⟨bf,i,none⟩=false):
  Calls prog 114 #[.pointer (some ⟨bp,0,none⟩),.int .i64 i] w fun e w'=>e=.returned (.tuple #[])/\z2q be bf i (.int .i64 x1) (.bool f1) w w':=by
 have G:y3t oq:=.mk;rcases ho with rfl|rfl
 all_goals
  have E:=j1g hn hi;have C:(0:Int)<=(i:Int)+1:=by omega
  have B:(0:Int)<=(i:Int):=by omega
  have D:((i:Int)+1).toNat=i+1:=by omega
  go_in;go_wp2_with fail
  go_region_held3 (fun w'=>w'.cell? ⟨bp,0,none⟩=some (.slice (some ⟨s,o,none⟩) n cap)/\w'.cell? ⟨bp,1,none⟩=some (.slice (some ⟨be,0,none⟩) n n)/\w'.cell? ⟨bp,2,none⟩=some (.slice (some ⟨bf,0,none⟩) n n)/\w'.cell? ⟨s,o+i*3,none⟩=some (.int .i64 ↑G)/\w'.cell? ⟨be,i+1,none⟩=some (.int .i64 x1)/\w'.cell? ⟨bf,i+1,none⟩=some (.bool f1))
   (first|exact⟨c0,c1,c2,d1,e1,e3⟩|exact⟨(cso (by omega)).trans c0,(cso (by omega)).trans c1,(cso (by omega)).trans c2,(cso (by omega)).trans d1,(cso (by omega)).trans e1,(cso (by omega)).trans e3⟩|exact⟨(cso (by omega)).trans ((cso (by omega)).trans c0),(cso (by omega)).trans ((cso (by omega)).trans c1),(cso (by omega)).trans ((cso (by omega)).trans c2),(cso (by omega)).trans ((cso (by omega)).trans d1),(cso (by omega)).trans ((cso (by omega)).trans e1),(cso (by omega)).trans ((cso (by omega)).trans e3)⟩) (fail)
  all_goals
   go_wp2
   go_end0
   exact⟨rfl,rfl,rfl,rfl,rfl⟩
end Go.Proofs.YthcpdohdppkmkaaGreatDoor
