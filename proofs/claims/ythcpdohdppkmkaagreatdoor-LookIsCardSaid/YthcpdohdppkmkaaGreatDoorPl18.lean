import Derived.Test.YthcpdohdppkmkaaGreatDoorPl17
open Go.Proofs.Tryz
namespace Go.Proofs.YthcpdohdppkmkaaGreatDoor
open Go Go.RowKit
set_option maxRecDepth 100000
set_option maxHeartbeats 4000000
theorem j2v(ds:List Nd)(ws:List Int)(a wa:Option Addr)(cap wc:Nat)(hc:ds.length<=cap)(A:ws.length<=wc)(hl:ws.length<=9223372036854775807)(w:World)(hN:q1u w a ds)(hI:q8x w wa ws):
  Calls prog 65 #[.slice a ds.length cap,.slice wa ws.length wc] w fun e w'=>e=.returned (.string (shS (q5v ds ws)))/\Below w w w':=by
 have B:Hid (Calls prog 26 #[.slice a ds.length cap,.slice wa ws.length wc] w fun e w'=>e=.returned (.tuple #[.string (shS (q5v ds ws)),q1r (shE (q5v ds ws))])/\Below w w w'):=v1d ds ws a wa cap wc hc A hl w hN hI;clear hN hI hc A hl;generalize shS (q5v ds ws)=s at *;generalize q1r (shE (q5v ds ws))=v at *;go_in;go_wp2_with fail;refine B.o.mono ?_;rintro e D⟨rfl,C⟩;go_wp2;go_ret;exact⟨rfl,C⟩
def bE(ds:List Nd)(wd:Int):Int:=if q3d ds=0 then(if wd<0\/100<wd then 1 else 0)else q3d ds
open Classical in
noncomputable def bA(ds:List Nd)(wd:Int):Crs:=if h:q3d ds=0 then(if wd<0\/100<wd then((0,0),[])else bs wd.toNat 0 [(0,v7x ds h)])else((0,0),[])
noncomputable def bT(ds:List Nd)(wd:Int):ByteArray:=if bE ds wd=0 then shS (q5v ds (bA ds wd).2)else⟨#[]⟩
theorem v7o{ds:List Nd}{wd:Int}(h:bE ds wd≠0):bA ds wd=((0,0),[]):=by
 unfold bE at h;unfold bA
 split
 ·rename_i h0;rw[if_pos h0]at h
  split at h
  ·rename_i h1;rw[if_pos h1]
  ·exact absurd rfl h
 ·rfl
theorem j2d{ds:List Nd}{wd:Nat}{t:Tr}(ht:t.Wf)(e:ds=t.N)(hl:ds.length<=400)(hw:wd<=100):bE ds wd=0/\bA ds wd=bs wd 0 [(0,t)]:=by
 have h:q3d ds=0:=by rw[e];exact z0y ht (by rw[<-e];exact hl)
 have A:¬((wd:Int)<0\/(100:Int)<wd):=by omega
 refine⟨by rw[bE,if_pos h,if_neg A],?_⟩;rw[bA,dif_pos h,if_neg A,z8b h ht e,Int.toNat_natCast]
theorem y3j{t:Tr}(ht:t.Wf)(wd:Nat):vv (q0a t) wd 0 0=bs wd 0 [(0,t)]:=by rw[vv,(z9f ht).kont]
theorem v5p{w:World}{B B' e A n:Nat}{v:Value}{xs:List Value}(h:w.ownsRow B e A v n xs)(hB:B'<=B):w.ownsRow B' e A v n xs:=by
 refine⟨h.1,?_⟩;rcases h.2 with E|⟨g,c,D,rfl,G,C⟩
 ·exact .inl E
 ·exact .inr ⟨g,c,D,rfl,Nat.le_trans hB G,C⟩
theorem j8u(w:World)(B:Nat):w.ownsRow B 3 1 (.slice none 0 0) 0 (q0j []):=⟨rfl,.inl ⟨rfl,rfl⟩⟩
def z7j(ds:List Nd)(wd:Int)(w:World)(e:Ending)(w':World):Prop:=
 (∃wa wc,e=.returned (.tuple #[.string (bT ds wd),.slice wa (bA ds wd).2.length wc,.agg #[.int .i64 (bA ds wd).1.1,.int .i64 (bA ds wd).1.2],q1r (bE ds wd)])/\w'.ownsRow w.heap.size 3 1 (.slice wa (bA ds wd).2.length wc) (bA ds wd).2.length (q0j (bA ds wd).2))/\Below w w w'
theorem v2h(ds:List Nd)(wd:Int)(a:Option Addr)(cap:Nat)(w:World)(hN:q1u w a ds)(h:q3d ds≠0):
  Calls prog 24 #[.slice a ds.length cap,.int .i64 wd] w fun e w'=>z7j ds wd w e w':=by
 have D:bE ds wd=q3d ds:=by rw[bE,if_neg h]
 have I:=v7o (ds:=ds) (wd:=wd) (by rw[D];exact h);have J:bT ds wd=⟨#[]⟩:=by rw[bT,if_neg (by rw[D];exact h)]
 have K:Hid (∀O,q1u (w.alloc O) a ds):=fun O=>hN.W ((Below.refl _ w).alloc Zl O)
 have H:Hid (q3d ds≠0):=h;unfold z7j;rw[D,I,J,q0l h];clear hN h D I J;go_in;go_wp2_with fail;refine(q3c ds a cap _ (K.o _)).mono ?_;rintro e C⟨rfl,E⟩;rw[q0l H.o];obtain⟨A,B⟩:=q1z E;have L:C.cell? ⟨w,0,none⟩=some (.int .i64 0):=(A _ _ (by simp)).trans (by simp[go_sem]);have M:C.cell? ⟨w,1,none⟩=some (.int .i64 0):=(A _ _ (by simp)).trans (by simp[go_sem]);have N:C.frozen? ⟨w,0,none⟩=false:=(B _ _ (by simp)).trans (by simp[go_sem]);have P:C.frozen? ⟨w,1,none⟩=false:=(B _ _ (by simp)).trans (by simp[go_sem]);have G:Below w w C:=((Below.refl _ w).alloc Zl _).trans (E.mono (by simp));clear A B E;go_wp2;refine bodyPost_ret (v:=.tuple #[.string ⟨#[]⟩,.slice none 0 0,.agg #[.int .i64 0,.int .i64 0],.iface 22 (.int .i64 (q3d ds))]) (by simp[results,Tryz.results24,go_sem,L,M]) rfl ?_;exact⟨⟨none,0,rfl,j8u _ _⟩,(G.setCell (p:=⟨w,0,none⟩) Zl _).setCell (p:=⟨w,1,none⟩) Zl _⟩
theorem k8q(ds:List Nd)(wd:Int)(a:Option Addr)(cap:Nat)(w:World)(hN:q1u w a ds)(h:q3d ds=0)(hw:wd<0\/100<wd):
  Calls prog 24 #[.slice a ds.length cap,.int .i64 wd] w fun e w'=>z7j ds wd w e w':=by
 have D:bE ds wd=1:=by rw[bE,if_pos h,if_pos hw]
 have I:=v7o (ds:=ds) (wd:=wd) (by rw[D];decide);have J:bT ds wd=⟨#[]⟩:=by rw[bT,if_neg (by rw[D];decide)]
 have K:Hid (∀O,q1u (w.alloc O) a ds):=fun O=>hN.W ((Below.refl _ w).alloc Zl O)
 have H:Hid (q3d ds=0):=h;unfold z7j;rw[D,I,J,z6c];clear hN h D I J;rcases hw with hw|hw
 case' inr=>have L:¬wd<0:=by omega
 all_goals
  go_in;go_wp2_with fail;refine(q3c ds a cap _ (K.o _)).mono ?_;rintro e C⟨rfl,E⟩;rw[H.o,q0z];obtain⟨A,B⟩:=q1z E;have M:C.cell? ⟨w,0,none⟩=some (.int .i64 0):=(A _ _ (by simp)).trans (by simp[go_sem]);have N:C.cell? ⟨w,1,none⟩=some (.int .i64 0):=(A _ _ (by simp)).trans (by simp[go_sem]);have P:C.frozen? ⟨w,0,none⟩=false:=(B _ _ (by simp)).trans (by simp[go_sem]);have Q:C.frozen? ⟨w,1,none⟩=false:=(B _ _ (by simp)).trans (by simp[go_sem]);have G:Below w w C:=((Below.refl _ w).alloc Zl _).trans (E.mono (by simp));clear A B E;go_wp2;refine bodyPost_ret (v:=.tuple #[.string ⟨#[]⟩,.slice none 0 0,.agg #[.int .i64 0,.int .i64 0],.iface 22 (.int .i64 1)]) (by simp[results,Tryz.results24,go_sem,M,N]) rfl ?_;exact⟨⟨none,0,rfl,j8u _ _⟩,(G.setCell (p:=⟨w,0,none⟩) Zl _).setCell (p:=⟨w,1,none⟩) Zl _⟩
theorem v9z(ds:List Nd)(t:Tr)(hd:ds=t.N)(ht:t.Wf)(hl:ds.length<=400)(wd:Nat)(hw:wd<=100)(a:Option Addr)(cap:Nat)(hc:ds.length<=cap)(w:World)(hN:q1u w a ds):
  Calls prog 24 #[.slice a ds.length cap,.int .i64 wd] w fun e w'=>z7j ds wd w e w':=by
 obtain⟨e0,e1⟩:=j2d ht hd hl hw;have R:=y3j ht wd;have e2:bT ds wd=shS (q5v ds (vv (q0a t) wd 0 0).2):=by rw[bT,if_pos e0,e1,R]
 have HR:Hid (z7j ds wd w=fun e w'=>(∃U wc,e=.returned (.tuple #[.string (shS (q5v ds (vv (q0a t) wd 0 0).2)),.slice U (vv (q0a t) wd 0 0).2.length wc,.agg #[.int .i64 (crs (q0a t) wd 0 0).o,.int .i64 (crs (q0a t) wd 0 0).l],.nilIface])/\w'.ownsRow w.heap.size 3 1 (.slice U (vv (q0a t) wd 0 0).2.length wc) (vv (q0a t) wd 0 0).2.length (q0j (vv (q0a t) wd 0 0).2))/\Below w w w'):=by
  show z7j ds wd w=_;have h3:=(j3k (wd:=wd) (c:=0) (z9f ht) (Nat.zero_le _)).1
  funext e w'
  unfold z7j;rw[e0,e1,e2,q0z,<-R];have h4:((vv (q0a t) wd 0 0).1.1:Int)=(crs (q0a t) wd 0 0).o:=by rw[h3]
  have h5:((vv (q0a t) wd 0 0).1.2:Int)=(crs (q0a t) wd 0 0).l:=by rw[h3]
  rw[h4,h5]
 rw[HR.o];have Af:0<(q0a t).length:=by rw[q2y];exact t.pos
 have Ag:(q0a t).length=ds.length:=by rw[q2y,hd];rfl
 have h0:q3d ds=0:=by rw[hd];exact z0y ht (by rw[<-hd];exact hl)
 have Am:t.sz<=400:=by unfold Tr.sz;rw[<-hd];exact hl
 have Av:ds≠[]:=by rw[hd];have:=t.pos;exact List.length_pos_iff.1 this
 have HN:Hid (q1u w a ds):=hN;have H0:Hid (q3d ds=0):=h0;have Ab:Hid (∀sb g mb,j1v sb g mb wd (q0a t) 0 0):=fun sb g mb=>v5s sb g mb ht Am hw (q0a t).length 0 0 (by omega) (Nat.zero_le _) (Nat.zero_le _)
 have u:Hid (∀sb g mb(W:World)S,Inv sb g mb wd (q0a t) W S->S 0 0=true->Calls prog 64 #[.pointer (some ⟨sb,0,none⟩)] W fun e w'=>(∃a cap,e=.returned (.slice a (vv (q0a t) wd 0 0).2.length cap)/\w'.ownsRow W.heap.size 3 1 (.slice a (vv (q0a t) wd 0 0).2.length cap) (vv (q0a t) wd 0 0).2.length (q0j (vv (q0a t) wd 0 0).2))/\Below W W w'):=fun sb g mb W S hI hS=>k0f sb g mb ht Am hw W S hI hS
 have HD:Hid (ds=t.N):=hd;have z:Hid ((q0a t).length=ds.length):=Ag
 have At:Hid ((vv (q0a t) wd 0 0).2.length<=9223372036854775807):=by
  show(vv (q0a t) wd 0 0).2.length<=_
  obtain⟨a',ha⟩:=k0h t wd;have hb:=q9t t wd;rw[q3l,<-R]at hb;have h1:=(q6b hb).1;have h2:=q8d t _ h1;rw[<-hd]at h2;omega
 have y:Hid (∀(s:Nat)(W:World),q1k s W a ds->s<W.heap.size->Calls prog 62 #[.slice a ds.length cap,.int .i64 wd] W fun e w'=>e=.returned (.agg #[.slice (some ⟨W.heap.size+1,0,none⟩) ds.length ds.length,.int .i64 wd])/\PwR w' (W.heap.size+1) ds.length (fun j=>q2 (q1p (q0a t) j))/\Below W W w'):=fun s W h1 h2=>k0j ds t HD.o ht hl a cap s wd hc W h1 h2
 have Ay:=@run_makeMap prog;have A0:¬(wd:Int)<0:=by omega
 have A1:¬(100:Int)<(wd:Int):=by omega
 clear hN h0 hd Ag e0 e1 e2 R HR;go_in;go_wp2_with fail;refine(q3c ds a cap _ (HN.o.W ((Below.refl _ w).alloc Zl _))).mono ?_;rintro e D⟨rfl,n⟩;rw[H0.o,q0z];have Ak:q7n D w.heap.size:=q7n.kept ⟨_,_,heap_alloc_new w (.cells #[.int .i64 0,.int .i64 0] 57)⟩ (n.block _ (by simp));have k0:D.cell? ⟨w,0,none⟩=some (.int .i64 0):=((q1z n).1 _ _ (by simp)).trans (by simp[go_sem]);have k1:D.cell? ⟨w,1,none⟩=some (.int .i64 0):=((q1z n).1 _ _ (by simp)).trans (by simp[go_sem]);have V:Hid (Below w w D):=((Below.refl _ w).alloc Zl _).trans (n.mono (by simp));have i:w.heap.size<D.heap.size:=by have:=n.size;simp at this;omega
 have O:Hid (D.cell? ⟨w,0,none⟩=some (.int .i64 0)/\D.cell? ⟨w,1,none⟩=some (.int .i64 0)/\q7n D w.heap.size):=⟨k0,k1,Ak⟩;clear Ak k0 k1 n;obtain⟨s,hs,Aj⟩:=(HN.o.W V.o).s Av;have Aq:Hid (q1k s D a ds):=Aj;clear Aj;go_wp2_with fail;refine(y.o s D Aq.o hs).mono ?_;rintro e B⟨rfl,f,K⟩;have q:Hid (Below w w B):=V.o.trans (K.mono V.o.size);have Az:=K.size;have Au:D.heap.size+1<B.heap.size:=f.row.lt;have P:Hid (B.cell? ⟨w,0,none⟩=some (.int .i64 0)/\B.cell? ⟨w,1,none⟩=some (.int .i64 0)/\q7n B w.heap.size):=⟨(K.cell (p:=⟨w,0,none⟩) i).trans O.o.1,(K.cell (p:=⟨w,1,none⟩) i).trans O.o.2.1,O.o.2.2.kept (K.block _ i)⟩
 have x:Hid (Inv (B.heap.size+1) (D.heap.size+1) B.heap.size wd (q0a t) ((B.alloc (.map #[] 0)).alloc (.cells #[.slice (some ⟨D.heap.size+1,0,none⟩) ds.length ds.length,.int .i64 wd,.map (some B.heap.size)] 119)) (fun _ _=>false)):=by
  refine⟨⟨?_,?_,?_⟩,?_,?_,fun p c h=>by cases h⟩
  ·rw[z.o];simp[go_sem]
  ·simp[go_sem]
  ·rw[z.o];exact f.kept ((Below.heap_alloc _ _ _ (by simp;omega)).trans (Below.heap_alloc _ _ _ Au))
  ·simp[go_sem]
  ·exact(Mem.made B _).kept (Below.heap_alloc _ _ _ (by simp))
 have Aa:Hid (∀W S,Inv (B.heap.size+1) (D.heap.size+1) B.heap.size wd (q0a t) W S->Calls prog 63 #[.pointer (some ⟨B.heap.size+1,0,none⟩),.agg #[.int .i64 0,.int .i64 0]] W fun e w'=>e=.returned (.agg #[.int .i64 (crs (q0a t) wd 0 0).o,.int .i64 (crs (q0a t) wd 0 0).l,.int .i64 (crs (q0a t) wd 0 0).ch,.int .i64 (crs (q0a t) wd 0 0).np,.int .i64 (crs (q0a t) wd 0 0).nc])/\Left (B.heap.size+1) (D.heap.size+1) B.heap.size wd (q0a t) S 0 0 0 W w'):=fun W S h=>by
  have:=Ab.o _ _ _ W S h
  rw[if_pos Af]at this;exact this
 clear f K;go_wp2_with fail;refine(Aa.o _ _ x.o).mono ?_;rintro e H⟨rfl,L,S',hI,_,_,Ah⟩;have C:((B.alloc (.map #[] 0)).alloc (.cells #[.slice (some ⟨D.heap.size+1,0,none⟩) ds.length ds.length,.int .i64 wd,.map (some B.heap.size)] 119)).heap.size=B.heap.size+1+1:=by simp
 have Aw:=L.size;rw[C]at Aw;have Ad:Below w w ((B.alloc (.map #[] 0)).alloc (.cells #[.slice (some ⟨D.heap.size+1,0,none⟩) ds.length ds.length,.int .i64 wd,.map (some B.heap.size)] 119)):=k0g (k0g q.o _) _;have X:Hid (Below w w H):=Ad.trans ((L.mono (B':=w.heap.size) (by rw[C];omega)).W (by omega))
 have Q:Hid (H.cell? ⟨w,0,none⟩=some (.int .i64 0)/\H.cell? ⟨w,1,none⟩=some (.int .i64 0)/\q7n H w.heap.size):=
  ⟨(L.cell (p:=⟨w,0,none⟩) (by rw[C];simp;omega) (by simp;omega)).trans (ka (ka P.o.1 _) _),(L.cell (p:=⟨w,1,none⟩) (by rw[C];simp;omega) (by simp;omega)).trans (ka (ka P.o.2.1 _) _),P.o.2.2.kept ((L.block _ (by rw[C];omega) (by omega)).trans ((Below.heap_alloc _ _ _ (by simp;omega)).trans (Below.heap_alloc _ _ _ (by omega))))⟩
 have Y:Hid (Inv (B.heap.size+1) (D.heap.size+1) B.heap.size wd (q0a t) H S'/\S' 0 0=true):=⟨hI,Ah Af⟩;clear L hI Ah Ad C x Aa Ab y q P O;generalize Ai:crs (q0a t) wd 0 0=k at *;have Ap:Hid (crs (q0a t) wd 0 0=k):=Ai;clear Ai;go_wp2_with fail;refine(u.o _ _ _ _ _ (Y.o.1.alloc _) Y.o.2).mono ?_;rintro e J⟨⟨U,wc,rfl,A⟩,E⟩;obtain⟨_,_,Ax,Ae,_⟩:=k7p A;have d:Below w w J:=(k0g X.o _).trans (E.mono (by have:=X.o.size;simp;omega));have r:Hid (Below w w J):=d;have G:H.heap.size<J.heap.size:=by have:=E.size;simp at this;omega
 have m:=X.o.size
 have Z:Hid (J.cell? ⟨w,0,none⟩=some (.int .i64 0)/\J.cell? ⟨w,1,none⟩=some (.int .i64 0)/\q7n J w.heap.size):=
  ⟨(E.cell (p:=⟨w,0,none⟩) (by simp;omega)).trans (ka Q.o.1 _),(E.cell (p:=⟨w,1,none⟩) (by simp;omega)).trans (ka Q.o.2.1 _),Q.o.2.2.kept ((E.block _ (by simp;omega)).trans (Below.heap_alloc _ _ _ (by omega)))⟩
 have u0:J.drew.cell? ⟨H,0,none⟩=some (.int .i64 k.o):=(E.cell (p:=⟨H,0,none⟩) (by simp)).trans (by simp[go_sem]);have u1:J.drew.cell? ⟨H,1,none⟩=some (.int .i64 k.l):=(E.cell (p:=⟨H,1,none⟩) (by simp)).trans (by simp[go_sem])
 have As:Hid (Calls prog 65 #[.slice a ds.length cap,.slice U (vv (q0a t) wd 0 0).2.length wc] J.drew fun e w'=>e=.returned (.string (shS (q5v ds (vv (q0a t) wd 0 0).2)))/\Below J.drew.heap.size J.drew w'):=
  j2v ds (vv (q0a t) wd 0 0).2 a U cap wc hc Ax At.o J.drew (HN.o.W d.drew) (q8x.W Ae (Below.refl _ J).drew)
 have Ar:Hid (∀W:World,(∀b,H.heap.size<=b->b<J.heap.size->W.heap[b]?=J.heap[b]?)->W.ownsRow w.heap.size 3 1 (.slice U (vv (q0a t) wd 0 0).2.length wc) (vv (q0a t) wd 0 0).2.length (q0j (vv (q0a t) wd 0 0).2)):=fun W hW=>by
  have h1:=z0n (w':=W) A fun b hb=>hW b (by have:=v9d A hb;simp at this;omega) (z0o A hb).1
  exact v5p h1 (by simp;omega)
 have M:Hid (w.heap.size<H.heap.size):=(show w.heap.size<H.heap.size by omega);clear A Ae d E u Y Q;generalize Ao:(vv (q0a t) wd 0 0).2=us at *;generalize An:shS (q5v ds us)=tx at *;have Ac:Hid ((vv (q0a t) wd 0 0).2=us/\shS (q5v ds us)=tx):=⟨Ao,An⟩;clear Ao An;go_wp2_with fail
 go_region_held3 (fun w'=>w'.cell? ⟨H,0,none⟩=some (.int .i64 k.o)/\w'.cell? ⟨H,1,none⟩=some (.int .i64 k.l))
  (first|with_reducible exact⟨u0,u1⟩|with_reducible exact⟨u07,u17⟩|with_reducible exact⟨(cso (.inl (Nat.ne_of_lt M.o))).trans ((cso (.inl (Nat.ne_of_lt M.o))).trans u07),(cso (.inl (Nat.ne_of_lt M.o))).trans ((cso (.inl (Nat.ne_of_lt M.o))).trans u17)⟩)
  ((go_at_call 65;refine As.o.mono ?_;rintro e w7⟨rfl,I⟩;have u07:=(I.cell (p:=⟨H,0,none⟩) G).trans u0;have u17:=(I.cell (p:=⟨H,1,none⟩) G).trans u1;have k0:=(I.cell (p:=⟨w,0,none⟩) (Nat.lt_of_le_of_lt m G)).trans Z.o.1;have k1:=(I.cell (p:=⟨w,1,none⟩) (Nat.lt_of_le_of_lt m G)).trans Z.o.2.1;have Al:=Z.o.2.2.kept (I.block w.heap.size (Nat.lt_of_le_of_lt m G));have f0:w7.frozen? ⟨w,0,none⟩=false:=Al.frozen;have f1:w7.frozen? ⟨w,1,none⟩=false:=Al.frozen))
 all_goals
  go_wp2;refine bodyPost_ret (v:=.tuple #[.string tx,.slice U us.length wc,.agg #[.int .i64 k.o,.int .i64 k.l],.nilIface]) (by simp[results,Tryz.results24,go_sem,k0,k1]) rfl ?_;rw[Ac.o.1,Ac.o.2,Ap.o];refine⟨⟨U,wc,rfl,Ar.o _ fun b hb1 hb2=>?_⟩,?_⟩
  ·have h5:=M.o;exact(Below.heap_setCell _ _ _ _ (by simp;omega)).trans ((Below.heap_setCell _ _ _ _ (by simp;omega)).trans (I.block b hb2))
  ·exact((r.o.drew.trans (I.mono r.o.size)).setCell (p:=⟨w,0,none⟩) Zl _).setCell (p:=⟨w,1,none⟩) Zl _
theorem j2f(ds:List Nd)(wd:Int)(a:Option Addr)(cap:Nat)(hc:ds.length<=cap)(w:World)(hN:q1u w a ds):
  Calls prog 24 #[.slice a ds.length cap,.int .i64 wd] w fun e w'=>z7j ds wd w e w':=by
 by_cases h:q3d ds=0
 ·by_cases A:wd<0\/100<wd
  ·exact k8q ds wd a cap w hN h A
  ·obtain⟨n,rfl⟩:∃n:Nat,wd=n:=⟨wd.toNat,by omega⟩;exact v9z ds _ (q3u h) (q9f h) (q5c h).1 n (by omega) a cap hc w hN
 ·exact v2h ds wd a cap w hN h
def q1s(ds:List Nd):List Value:=ds.flatMap fun x=>[.int .i64 x.op,.string x.tx,.int .i64 x.n]
theorem q9m:∀ds:List Nd,(q1s ds).length=ds.length*3
 | []=>rfl
 | x::r=>by
  have:=q9m r
  unfold q1s at this⊢;rw[List.flatMap_cons,List.length_append,this,List.length_cons];simp;omega
theorem k4m(a b:List Nd):q1s (a++b)=q1s a++q1s b:=by simp[q1s,List.flatMap_append]
theorem z1x:∀(ds:List Nd)(i:Nat)(h:i<ds.length),(q1s ds)[i*3]?=some (.int .i64 ds[i].op)/\(q1s ds)[i*3+1]?=some (.string ds[i].tx)/\(q1s ds)[i*3+2]?=some (.int .i64 ds[i].n)
 | x::r,0,_=>by simp[q1s]
 | x::r,i+1,h=>by
  have h1:=z1x r i (by simpa using h);have e:q1s (x::r)=.int .i64 x.op::.string x.tx::.int .i64 x.n::q1s r:=by simp[q1s]
  rw[e,show(i+1)*3=i*3+1+1+1 by omega];exact h1
theorem k4o(ds:List Nd):∀u∈q1s ds,u.oneCell'=true:=by
 intro u B;obtain⟨x,_,A⟩:=List.mem_flatMap.1 B;simp at A;rcases A with rfl|rfl|rfl<;>rfl
theorem k4n(ds:List Nd)(j:Nat)(u:Value)(h:(q1s ds)[j]?=some u):∃i,∃hi:i<ds.length,(j=i*3/\u=.int .i64 ds[i].op)\/(j=i*3+1/\u=.string ds[i].tx)\/(j=i*3+2/\u=.int .i64 ds[i].n):=by
 have E:j<ds.length*3:=by rw[<-q9m];exact(List.getElem?_eq_some_iff.1 h).1
 have hi:j / 3<ds.length:=by omega
 obtain⟨A,B,C⟩:=z1x ds (j / 3) hi;refine⟨j / 3,hi,?_⟩;have D:j=j / 3*3\/j=j / 3*3+1\/j=j / 3*3+2:=by omega
 rcases D with e|e|e
 ·rw[<-e,h]at A;exact .inl ⟨e,Option.some.inj A⟩
 ·rw[<-e,h]at B;exact .inr (.inl ⟨e,Option.some.inj B⟩)
 ·rw[<-e,h]at C;exact .inr (.inr ⟨e,Option.some.inj C⟩)
theorem v8k:(prog.info? 177).map (fun i=>(i.zero,i.size,i.bytes))=some (some (.agg #[.int .i64 0,.string ⟨#[]⟩,.int .i64 0]),3,32):=by kernel_rfl
theorem k7r{B:Nat}{w:World}{a:Option Addr}{n cap:Nat}{ds:List Nd}(h:w.ownsRow B 177 3 (.slice a n cap) ds.length (q1s ds)):n=ds.length/\ds.length<=cap/\q1u w a ds:=by
 rcases h.2 with⟨D,H⟩|⟨g,c,M,D,_,L,K,_,P,C⟩
 ·simp only[Value.slice.injEq]at D;obtain⟨rfl,rfl,rfl⟩:=D;refine⟨H.symm,by omega,fun i hi=>?_⟩;omega
 ·simp only[Value.slice.injEq]at D;obtain⟨rfl,rfl,rfl⟩:=D;refine⟨rfl,K,fun i hi=>?_⟩
  have J:g<w.heap.size:=by
   rcases Nat.lt_or_ge g w.heap.size with G|G
   ·exact G
   ·simp[Array.getElem?_eq_none G]at L
  have A:∀k u,(q1s ds)[k]?=some u->w.cell? ⟨g,k,none⟩=some u:=by
   intro k u E;rw[<-C]at E
   have I:k<ds.length*3:=by
    have:=(List.getElem?_eq_some_iff.1 E).1
    simp at this;omega
   rw[List.getElem?_take_of_lt I]at E;simp only[World.cell?,L];simpa using E
  obtain⟨H,N,O⟩:=z1x ds i hi;refine⟨g,0,rfl,J,?_,?_,?_⟩
  ·rw[Nat.zero_add];exact A _ _ H
  ·rw[Nat.zero_add];exact A _ _ N
  ·rw[Nat.zero_add];exact A _ _ O
theorem j7x{w:World}{b o:Nat}{ds:List Nd}(h:q1u w (some ⟨b,o,none⟩) ds):∀j u,(q1s ds)[j]?=some u->w.cell? ((⟨b,o,none⟩:Addr).add j)=some u:=by
 intro j u H;obtain⟨i,G,E⟩:=k4n ds j u H;obtain⟨I,J,e,_,A,B,C⟩:=h i G;simp only[Option.some.injEq,Addr.mk.injEq,and_true]at e;obtain⟨rfl,rfl⟩:=e
 have D:∀k,(⟨b,o,none⟩:Addr).add k=⟨b,o+k,none⟩:=by
  intro k;unfold Addr.add
  split
  ·rename_i h;subst h;rfl
  ·rfl
 rw[D];rcases E with⟨rfl,rfl⟩|⟨rfl,rfl⟩|⟨rfl,rfl⟩
 ·exact A
 ·rw[show o+(i*3+1)=o+i*3+1 by omega];exact B
 ·rw[show o+(i*3+2)=o+i*3+2 by omega];exact C
theorem z2u(b o k:Nat):(⟨b,o,none⟩:Addr).add k=⟨b,o+k,none⟩:=by
 unfold Addr.add
 split
 ·rename_i h;subst h;rfl
 ·rfl
theorem k5t{w:World}{G:Array Oper}{D:List Oper}{o:Oper}{a:Act}{Q:Exit->Act->World->Prop}(J:o.guard=none)(s x:Operand)
  (ho:o.op=.call {callee:=.builtin .append,args:=#[s,x],argTypes:=#[42,42]})
  (B:Nat) (v:Value) (xs:List ByteArray) (hs:a.eval s=v) (C:q1x B v xs w)
  (wa:Option Addr) (n:Nat) (ws:List ByteArray) (hn:ws.length=n) (wc:Nat) (hx:a.eval x=.slice wa n wc) (hW:Wds w wa ws) (L:wa=none->n=0/\wc=0)
  (m:Nat) (hm:xs.length+n=m) (hb:m<=1000000) (E:B<=w.heap.size)
  (h:∀A c w',q1x B (.slice A m c) (xs++ws) w'->w.grownBy w' v.ownBlock->wpList prog G Q D (a.put o.dst (.slice A m c)) w'):wpList prog G Q (o::D) a w:=by
 subst hn hm;obtain⟨X,W,R,S,U⟩:=info_parts q9d
 have V:∀H w',q1x B H (xs++ws) w'->w.grownBy w' v.ownBlock->wpList prog G Q D (a.put o.dst H) w':=by
  intro H w' I O
  obtain⟨A,c,rfl⟩:∃A c,H=.slice A (xs.length+ws.length) c:=by
   rcases I.2 with⟨N,M⟩|⟨g,c,Y,N,_⟩
   ·rw[List.length_append]at M;exact⟨none,0,by rw[N,M]⟩
   ·rw[List.length_append]at N;exact⟨_,c,N⟩
  exact h A c w' I O
 cases wa with
 | none=>
  obtain⟨M,rfl⟩:=L rfl;obtain rfl:ws=[]:=List.eq_nil_of_length_eq_zero M;refine wpList_append_own_none J s x 42 ho B 9 X 1 Tryz.underlying42 W v xs.length (strCells xs) hs C hx ?_;refine V v w ?_ ⟨rfl,rfl,rfl,Nat.le_refl _,fun _ _ _=>rfl⟩;rw[List.append_nil];exact C
 | some ad=>
  refine wpList_append_own w J s x 42 ho B 9 X _ 1 16 Tryz.underlying42 W R S U rfl (by decide) v xs.length (strCells xs) hs C ad ws.length wc (strCells ws) hx (by simp[strCells]) ?_ ?_ (by unfold maxLen;omega) (by omega) E ?_
  ·intro j u P;have K:j<ws.length:=by have:=(List.getElem?_eq_some_iff.1 P).1;simpa[strCells]using this
   obtain⟨b,o,e,_,c⟩:=hW j K;simp only[Option.some.injEq]at e;subst e;rw[z2u]
   have:u=.string ws[j]:=by simp[strCells,K]at P;exact P.symm
   rw[this];exact c
  ·intro u Z;obtain⟨x,_,rfl⟩:=List.mem_map.1 Z;rfl
  ·intro H w' I O _;rw[<-q2f]at I;refine V H w' ?_ O;show w'.ownsRow _ _ _ _ _ _;rw[List.length_append];exact I
def q4j(ks:List Int):List Value:=ks.map fun k=>.int .i64 k
theorem z2i(a b:List Int):q4j (a++b)=q4j a++q4j b:=by simp[q4j]
def z9y(B:Nat)(v:Value)(ks:List Int)(w:World):Prop:=w.ownsRow B 3 1 v ks.length (q4j ks)
theorem v2a{w:World}{G:Array Oper}{D:List Oper}{o:Oper}{a:Act}{Q:Exit->Act->World->Prop}(J:o.guard=none)(s x:Operand)
  (ho:o.op=.call {callee:=.builtin .append,args:=#[s,x],argTypes:=#[43,43]})
  (B:Nat) (v:Value) (xs:List Int) (hs:a.eval s=v) (C:z9y B v xs w)
  (wa:Option Addr) (n:Nat) (ws:List Int) (hn:ws.length=n) (wc:Nat) (hx:a.eval x=.slice wa n wc) (hW:q8x w wa ws) (L:wa=none->n=0/\wc=0)
  (m:Nat) (hm:xs.length+n=m) (hb:m<=1000000) (E:B<=w.heap.size)
  (h:∀A c w',z9y B (.slice A m c) (xs++ws) w'->w.grownBy w' v.ownBlock->wpList prog G Q D (a.put o.dst (.slice A m c)) w'):wpList prog G Q (o::D) a w:=by
 subst hn hm;obtain⟨X,W,R,S,U⟩:=info_parts z2l
 have V:∀H w',z9y B H (xs++ws) w'->w.grownBy w' v.ownBlock->wpList prog G Q D (a.put o.dst H) w':=by
  intro H w' I O
  obtain⟨A,c,rfl⟩:∃A c,H=.slice A (xs.length+ws.length) c:=by
   rcases I.2 with⟨N,M⟩|⟨g,c,Y,N,_⟩
   ·rw[List.length_append]at M;exact⟨none,0,by rw[N,M]⟩
   ·rw[List.length_append]at N;exact⟨_,c,N⟩
  exact h A c w' I O
 cases wa with
 | none=>
  obtain⟨M,rfl⟩:=L rfl;obtain rfl:ws=[]:=List.eq_nil_of_length_eq_zero M;refine wpList_append_own_none J s x 43 ho B 3 X 1 Tryz.underlying43 W v xs.length (q4j xs) hs C hx ?_;refine V v w ?_ ⟨rfl,rfl,rfl,Nat.le_refl _,fun _ _ _=>rfl⟩;rw[List.append_nil];exact C
 | some ad=>
  refine wpList_append_own w J s x 43 ho B 3 X _ 1 8 Tryz.underlying43 W R S U rfl (by decide) v xs.length (q4j xs) hs C ad ws.length wc (q4j ws) hx (by simp[q4j]) ?_ ?_ (by unfold maxLen;omega) (by omega) E ?_
  ·intro j u P;have K:j<ws.length:=by have:=(List.getElem?_eq_some_iff.1 P).1;simpa[q4j]using this
   obtain⟨b,o,e,_,c⟩:=hW j K;simp only[Option.some.injEq]at e;subst e;rw[z2u]
   have:u=.int .i64 ws[j]:=by simp[q4j,K]at P;exact P.symm
   rw[this];exact c
  ·intro u Z;obtain⟨x,_,rfl⟩:=List.mem_map.1 Z;rfl
  ·intro H w' I O _;rw[<-z2i]at I;refine V H w' ?_ O;show w'.ownsRow _ _ _ _ _ _;rw[List.length_append];exact I
def q5z(B:Nat)(v:Value)(xs:List Nd)(w:World):Prop:=w.ownsRow B 177 3 v xs.length (q1s xs)
theorem q5z.nods{B:Nat}{w:World}{A:Option Addr}{n c:Nat}{xs:List Nd}(h:q5z B (.slice A n c) xs w):q1u w A xs:=(k7r h).2.2
theorem q5z.none{B:Nat}{w:World}{A:Option Addr}{n c:Nat}{xs:List Nd}(h:q5z B (.slice A n c) xs w):n=xs.length/\(A=none->n=0/\c=0):=by
 rcases h.2 with⟨C,E⟩|⟨g,G,D,C,_⟩
 ·simp only[Value.slice.injEq]at C;obtain⟨rfl,rfl,rfl⟩:=C;exact⟨E.symm,fun _=>⟨rfl,rfl⟩⟩
 ·simp only[Value.slice.injEq]at C;obtain⟨rfl,rfl,rfl⟩:=C;exact⟨rfl,fun e=>by cases e⟩
theorem z7q{w:World}{H:Array Oper}{D:List Oper}{o:Oper}{a:Act}{Q:Exit->Act->World->Prop}(K:o.guard=none)(s x:Operand)
  (ho:o.op=.call {callee:=.builtin .append,args:=#[s,x],argTypes:=#[53,53]})
  (B:Nat) (v:Value) (xs:List Nd) (hs:a.eval s=v) (C:q5z B v xs w)
  (wa:Option Addr) (n:Nat) (ws:List Nd) (hn:ws.length=n) (wc:Nat) (hx:a.eval x=.slice wa n wc) (hW:q1u w wa ws) (L:wa=none->n=0/\wc=0)
  (m:Nat) (hm:xs.length+n=m) (hb:m<=1000000) (G:B<=w.heap.size)
  (h:∀A c w',q5z B (.slice A m c) (xs++ws) w'->w.grownBy w' v.ownBlock->wpList prog H Q D (a.put o.dst (.slice A m c)) w'):wpList prog H Q (o::D) a w:=by
 subst hn hm;obtain⟨W,V,P,R,S⟩:=info_parts v8k
 have U:∀I w',q5z B I (xs++ws) w'->w.grownBy w' v.ownBlock->wpList prog H Q D (a.put o.dst I) w':=by
  intro I w' J N
  obtain⟨A,c,rfl⟩:∃A c,I=.slice A (xs.length+ws.length) c:=by
   rcases J.2 with⟨M,E⟩|⟨g,c,X,M,_⟩
   ·rw[List.length_append]at E;exact⟨.none,0,by rw[M,E]⟩
   ·rw[List.length_append]at M;exact⟨_,c,M⟩
  exact h A c w' J N
 cases wa with
 | none=>
  obtain⟨E,rfl⟩:=L rfl;obtain rfl:ws=[]:=List.eq_nil_of_length_eq_zero E;refine wpList_append_own_none K s x 53 ho B 177 W 3 Tryz.underlying53 V v xs.length (q1s xs) hs C hx ?_;refine U v w ?_ ⟨rfl,rfl,rfl,Nat.le_refl _,fun _ _ _=>rfl⟩;rw[List.append_nil];exact C
 | some ad=>
  have O:ws=[]\/∃b o,ad=⟨b,o,Option.none⟩:=by
   rcases Nat.eq_zero_or_pos ws.length with E|E
   ·exact .inl (List.eq_nil_of_length_eq_zero E)
   ·obtain⟨b,o,e,_⟩:=hW 0 E;exact .inr ⟨b,o,by simpa using e⟩
  refine wpList_append_own w K s x 53 ho B 177 W _ 3 32 Tryz.underlying53 V P R S rfl (by decide) v xs.length (q1s xs) hs C ad ws.length wc (q1s ws) hx (q9m ws) ?_ (k4o ws) (by unfold maxLen;omega) (by omega) G ?_
  ·rcases O with rfl|⟨b,o,rfl⟩
   ·intro j u Y;simp[q1s]at Y
   ·exact j7x hW
  ·intro I w' J N _;rw[<-k4m]at J;refine U I w' ?_ N;show w'.ownsRow _ _ _ _ _ _;rw[List.length_append];exact J
theorem q5z.down{B B':Nat}{v:Value}{xs:List Nd}{w:World}(h:q5z B v xs w)(hB:B'<=B):q5z B' v xs w:=by
 refine⟨h.1,?_⟩;rcases h.2 with D|⟨g,c,C,E,G,A⟩
 ·exact .inl D
 ·exact .inr ⟨g,c,C,E,by omega,A⟩
theorem q5z.kept{B:Nat}{v:Value}{xs:List Nd}{w w':World}(h:q5z B v xs w)(hk:∀g,B<=g->g<w.heap.size->w'.heap[g]?=w.heap[g]?):q5z B v xs w':=by
 refine⟨h.1,?_⟩;rcases h.2 with G|⟨g,c,C,H,D,E,A⟩
 ·exact .inl G
 ·exact .inr ⟨g,c,C,H,D,(hk g D (Array.getElem?_eq_some_iff.1 E).1).trans E,A⟩
theorem q5z.one(w:World)(x:Nd):q5z w.heap.size (.slice (some ⟨w.heap.size,0,Option.none⟩) 1 1) [x] (w.alloc (.cells #[.int .i64 x.op,.string x.tx,.int .i64 x.n] 177)):=by
 have A:(w.alloc (.cells #[.int .i64 x.op,.string x.tx,.int .i64 x.n] 177)).heap[w.heap.size]?=some (.cells #[.int .i64 x.op,.string x.tx,.int .i64 x.n] 177 (0,0)):=by
  show(w.heap.push _)[w.heap.size]?=_
  simp
 exact⟨rfl,.inr ⟨w.heap.size,1,_,rfl,Nat.le_refl _,A,Nat.le_refl _,by unfold maxLen;decide,rfl,rfl⟩⟩
def NdV(w:World)(v:Value)(xs:List Nd):Prop:=∃A c,v=.slice A xs.length c/\q1u w A xs/\(A=none->xs.length=0/\c=0)
theorem NdV.W{w w':World}{v:Value}{xs:List Nd}(h:NdV w v xs)(hb:Below w w w'):NdV w' v xs:=by
 obtain⟨A,c,e,B,C⟩:=h;exact⟨A,c,e,B.W hb,C⟩
theorem q5z.val{B:Nat}{w:World}{A:Option Addr}{c:Nat}{xs:List Nd}(h:q5z B (.slice A xs.length c) xs w):NdV w (.slice A xs.length c) xs:=⟨A,c,rfl,h.nods,h.none.2⟩
def NdR(w:World)(xs:List Nd)(e:Ending)(w':World):Prop:=∃A c,e=.returned (.slice A xs.length c)/\q5z w.heap.size (.slice A xs.length c) xs w'/\Below w w w'
theorem NdR.val{w:World}{xs:List Nd}{e:Ending}{w':World}(h:NdR w xs e w'):∃v,e=.returned v/\NdV w' v xs/\Below w w w':=by
 obtain⟨A,c,e,B,C⟩:=h;exact⟨_,e,B.val,C⟩
theorem NdR.from{w w0:World}{xs:List Nd}{e:Ending}{w':World}(h:NdR w xs e w')(hb:Below w0 w0 w):NdR w0 xs e w':=by
 obtain⟨A,c,e,B,C⟩:=h;exact⟨A,c,e,B.down hb.size,q0e hb Zl C⟩
theorem q1q(s:ByteArray)(w:World):Calls prog 125 #[.string s] w fun e w'=>NdR w [⟨1,s,0⟩] e w':=by
 have B:=hid (q5z.one w ⟨1,s,0⟩);have A:Hid (∀O:Obj,Below w w (w.alloc O)):=fun O=>(Below.refl _ w).alloc Zl O
 go_in;go_wp2;go_ret;exact⟨_,1,rfl,B.o,A.o _⟩
theorem q3g(x:Nd){xs:List Nd}{v:Value}(w:World)(hx:NdV w v xs)(hl:xs.length<=100000):Calls prog 128 #[.agg #[.int .i64 x.op,.string x.tx,.int .i64 x.n],v] w fun e w'=>NdR w (x::xs) e w':=by
 obtain⟨A,c,rfl,U,E⟩:=hx;obtain⟨C,D,B⟩:=x;have X:Hid (q1u w A xs):=U;have I:Hid (A=none->xs.length=0/\c=0):=E;clear U E;generalize V:xs.length=n at hl I⊢;have H:Hid (xs.length=n):=V;clear V
 have R:Hid (q5z w.heap.size (.slice (some ⟨w.heap.size+1,0,none⟩) 1 1) [⟨C,D,B⟩] ((w.alloc (.cells #[.int .i64 C,.string D,.int .i64 B] 177)).alloc (.cells #[.int .i64 C,.string D,.int .i64 B] 177))):=by
  have h:=(q5z.one (w.alloc (.cells #[.int .i64 C,.string D,.int .i64 B] 177)) ⟨C,D,B⟩).down (B':=w.heap.size) (by rw[World.size_alloc];omega);rw[World.size_alloc]at h;exact h
 have G:Hid (Below w w ((w.alloc (.cells #[.int .i64 C,.string D,.int .i64 B] 177)).alloc (.cells #[.int .i64 C,.string D,.int .i64 B] 177))):=((Below.refl _ w).alloc Zl _).alloc (by rw[World.size_alloc];omega) _;have N:Hid (q1u ((w.alloc (.cells #[.int .i64 C,.string D,.int .i64 B] 177)).alloc (.cells #[.int .i64 C,.string D,.int .i64 B] 177)) A xs):=X.o.W G.o;simp only;go_in;go_wp2_with(at_builtin;refine z7q rfl _ _ rfl w.heap.size _ [⟨C,D,B⟩] rfl R.o A n xs H.o c rfl N.o I.o (1+n) rfl (by omega) (by simp only[World.size_alloc];omega) ?_);intro Q S P J L;have K:Below w w P:=G.o.grown L (by simp only[World.size_alloc];omega) (fun k hk=>(World.ownsRow.lt R.o k hk).1);have O:Hid (q5z w.heap.size (.slice Q (1+n) S) (⟨C,D,B⟩::xs) P):=J;have M:Hid (Below w w P):=K;clear J L K;go_wp2;go_ret;have e:(⟨C,D,B⟩::xs:List Nd).length=1+n:=by rw[List.length_cons,H.o];omega
 exact⟨Q,S,by rw[e];rfl,by rw[e];exact O.o,M.o⟩
theorem q1a{xs ys:List Nd}{v u:Value}(w:World)(hx:NdV w v xs)(hy:NdV w u ys)(hl:xs.length+ys.length<=100000):Calls prog 129 #[v,u] w fun e w'=>NdR w (⟨6,⟨#[]⟩,0⟩::(xs++ys)) e w':=by
 obtain⟨A,c,rfl,i,D⟩:=hx;obtain⟨R,f,rfl,h,B⟩:=hy;have q:Hid (q1u w A xs):=i;have p:Hid (q1u w R ys):=h;have K:Hid (A=none->xs.length=0/\c=0):=D;have I:Hid (R=none->ys.length=0/\f=0):=B;clear i D h B;generalize l:xs.length=n at hl K⊢;generalize j:ys.length=m at hl I⊢;have G:Hid (xs.length=n):=l;have H:Hid (ys.length=m):=j;clear l j;have Z:Hid (q5z w.heap.size (.slice (some ⟨w,0,none⟩) 1 1) [⟨6,⟨#[]⟩,0⟩] (w.alloc (.cells #[.int .i64 6,.string ⟨#[]⟩,.int .i64 0] 177))):=q5z.one w ⟨6,⟨#[]⟩,0⟩;have E:Hid (Below w w (w.alloc (.cells #[.int .i64 6,.string ⟨#[]⟩,.int .i64 0] 177))):=(Below.refl _ w).alloc Zl _;have J:Hid (q1u (w.alloc (.cells #[.int .i64 6,.string ⟨#[]⟩,.int .i64 0] 177)) A xs):=q.o.W E.o;go_in;go_wp2_with(at_builtin;refine z7q rfl _ _ rfl w.heap.size _ [⟨6,⟨#[]⟩,0⟩] rfl Z.o A n xs G.o c rfl J.o K.o (1+n) rfl (by omega) (by simp only[World.size_alloc];omega) ?_);intro o r S M P;have C:Below w w S:=E.o.grown P (by simp only[World.size_alloc];omega) (fun k hk=>(World.ownsRow.lt Z.o k hk).1);have L:Hid (q5z w.heap.size (.slice o (1+n) r) (⟨6,⟨#[]⟩,0⟩::xs) S):=M;have U:Hid (Below w w S):=C;have Y:Hid (q1u S R ys):=p.o.W C;have s:=C.size
 have X:Hid ((⟨6,⟨#[]⟩,0⟩::xs:List Nd).length+m=1+n+m):=by
  show _=_;rw[List.length_cons,G.o];omega
 clear M P C Z E J;go_wp2_with(at_builtin;refine z7q rfl _ _ rfl w.heap.size _ (⟨6,⟨#[]⟩,0⟩::xs) rfl L.o R m ys H.o f rfl Y.o I.o (1+n+m) X.o (by omega) (by omega) ?_);intro d g b N Q;have O:Below w w b:=U.o.grown Q (by omega) (fun k hk=>(World.ownsRow.lt L.o k hk).1);have a:Hid (q5z w.heap.size (.slice d (1+n+m) g) (⟨6,⟨#[]⟩,0⟩::(xs++ys)) b):=N;have V:Hid (Below w w b):=O;clear N Q O;go_wp2;go_ret;have e:(⟨6,⟨#[]⟩,0⟩::(xs++ys):List Nd).length=1+n+m:=by rw[List.length_cons,List.length_append,G.o,H.o];omega
 exact⟨d,g,by rw[e];rfl,by rw[e];exact a.o,V.o⟩
theorem q6h(c:UInt8)(w:World):Calls prog 74 #[.int .u8 (c.toNat:Int)] w fun e w'=>e=.returned (.bool (q2j c))/\w=w':=by
 by_cases B:(97:Int)<=(c.toNat:Int)
 ·by_cases C:(c.toNat:Int)<=122
  ·have A:Hid (q2j c=true):=by show q2j c=true;simp[q2j];omega
   go_in;go_wp2;go_ret;exact⟨by rw[A.o];rfl,rfl⟩
  ·have A:Hid (q2j c=false):=by show q2j c=false;simp[q2j];omega
   go_in;go_wp2;go_ret;exact⟨by rw[A.o];rfl,rfl⟩
 ·have A:Hid (q2j c=false):=by show q2j c=false;simp[q2j];omega
  go_in;go_wp2;go_ret;exact⟨by rw[A.o];rfl,rfl⟩
end Go.Proofs.YthcpdohdppkmkaaGreatDoor
