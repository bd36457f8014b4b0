import Derived.Test.YtelcnplcpboonaaGreatDoorPb42
import Derived.Test.YtelcnplcpboonaaGreatDoorPb37
import Derived.Test.YtelcnplcpboonaaGreatDoorPb34
import Derived.Test.YtelcnplcpboonaaGreatDoorPb36
open Go.Proofs.Tryz
namespace Go.Proofs.YtelcnplcpboonaaGreatDoor
open Go Go.RowKit
set_option maxRecDepth 100000
set_option maxHeartbeats 4000000
theorem j1y(ds:List Nd)(ws:List Int)(a wa:Option Addr)(A wc:Nat)(hc:ds.length<=A)(B:ws.length<=wc)(hl:ws.length<=9223372036854775807)(w:World)(hN:q2z w a ds)(hI:z4j w wa ws):
  Calls prog 205 #[.slice a ds.length A,.slice wa ws.length wc] w fun e w'=>e=.returned (.string (shS (q6r ds ws)))/\Below w w w':=by
 have C:Hid (Calls prog 233 #[.slice a ds.length A,.slice wa ws.length wc] w fun e w'=>e=.returned (.tuple #[.string (shS (q6r ds ws)),q0s (shE (q6r ds ws))])/\Below w w w'):=j9e ds ws a wa A wc hc B hl w hN hI;clear hN hI hc B hl;generalize shS (q6r ds ws)=s at *;generalize q0s (shE (q6r ds ws))=v at *;go_in;go_wp2_with fail;refine C.o.mono ?_;rintro e E⟨rfl,D⟩;go_wp2;go_ret;exact⟨rfl,D⟩
def bE(ds:List Nd)(wd:Int):Int:=if q2o ds=0 then(if wd<0\/100<wd then 1 else 0)else q2o ds
open Classical in
noncomputable def bA(ds:List Nd)(wd:Int):Crs:=if h:q2o ds=0 then(if wd<0\/100<wd then((0,0),[])else bs wd.toNat 0 [(0,v6c ds h)])else((0,0),[])
noncomputable def bT(ds:List Nd)(wd:Int):ByteArray:=if bE ds wd=0 then shS (q6r ds (bA ds wd).2)else⟨#[]⟩
theorem v5u{ds:List Nd}{wd:Int}(h:bE ds wd≠0):bA ds wd=((0,0),[]):=by
 unfold bE at h;unfold bA
 split
 ·rename_i h0;rw[if_pos h0]at h
  split at h
  ·rename_i h1;rw[if_pos h1]
  ·exact absurd rfl h
 ·rfl
theorem j1e{ds:List Nd}{wd:Nat}{t:Tr}(ht:t.Wf)(e:ds=t.N)(hl:ds.length<=400)(hw:wd<=100):bE ds wd=0/\bA ds wd=bs wd 0 [(0,t)]:=by
 have h:q2o ds=0:=by rw[e];exact q9n ht (by rw[<-e];exact hl)
 have A:¬((wd:Int)<0\/(100:Int)<wd):=by omega
 refine⟨by rw[bE,if_pos h,if_neg A],?_⟩;rw[bA,dif_pos h,if_neg A,z6r h ht e,Int.toNat_natCast]
theorem y2z{t:Tr}(ht:t.Wf)(wd:Nat):vv (q0a t) wd 0 0=bs wd 0 [(0,t)]:=by rw[vv,(z7w ht).kont]
theorem v3v{w:World}{B B' e A n:Nat}{v:Value}{xs:List Value}(h:w.ownsRow B e A v n xs)(hB:B'<=B):w.ownsRow B' e A v n xs:=by
 refine⟨h.1,?_⟩;rcases h.2 with E|⟨g,c,D,rfl,G,C⟩
 ·exact .inl E
 ·exact .inr ⟨g,c,D,rfl,Nat.le_trans hB G,C⟩
theorem j6p(w:World)(B:Nat):w.ownsRow B 3 1 (.slice none 0 0) 0 (q0v []):=⟨rfl,.inl ⟨rfl,rfl⟩⟩
def z6g(ds:List Nd)(wd:Int)(w:World)(e:Ending)(w':World):Prop:=
 (∃wa wc,e=.returned (.tuple #[.string (bT ds wd),.slice wa (bA ds wd).2.length wc,.agg #[.int .i64 (bA ds wd).1.1,.int .i64 (bA ds wd).1.2],q0s (bE ds wd)])/\w'.ownsRow w.heap.size 3 1 (.slice wa (bA ds wd).2.length wc) (bA ds wd).2.length (q0v (bA ds wd).2))/\Below w w w'
theorem v0o(ds:List Nd)(wd:Int)(a:Option Addr)(C:Nat)(w:World)(hN:q2z w a ds)(h:q2o ds≠0):
  Calls prog 157 #[.slice a ds.length C,.int .i64 wd] w fun e w'=>z6g ds wd w e w':=by
 have E:bE ds wd=q2o ds:=by rw[bE,if_neg h]
 have J:=v5u (ds:=ds) (wd:=wd) (by rw[E];exact h);have K:bT ds wd=⟨#[]⟩:=by rw[bT,if_neg (by rw[E];exact h)]
 have L:Hid (∀O,q2z (w.alloc O) a ds):=fun O=>hN.W ((Below.refl _ w).alloc Zl O)
 have H:Hid (q2o ds≠0):=h;unfold z6g;rw[E,J,K,q0h h];clear hN h E J K;go_in;go_wp2_with fail;refine(q2h ds a C _ (L.o _)).mono ?_;rintro e D⟨rfl,G⟩;rw[q0h H.o];obtain⟨A,B⟩:=q0t G;have M:D.cell? ⟨w,0,none⟩=some (.int .i64 0):=(A _ _ (by simp)).trans (by simp[go_sem]);have N:D.cell? ⟨w,1,none⟩=some (.int .i64 0):=(A _ _ (by simp)).trans (by simp[go_sem]);have P:D.frozen? ⟨w,0,none⟩=false:=(B _ _ (by simp)).trans (by simp[go_sem]);have Q:D.frozen? ⟨w,1,none⟩=false:=(B _ _ (by simp)).trans (by simp[go_sem]);have I:Below w w D:=((Below.refl _ w).alloc Zl _).trans (G.mono (by simp));clear A B G;go_wp2;refine bodyPost_ret (v:=.tuple #[.string ⟨#[]⟩,.slice none 0 0,.agg #[.int .i64 0,.int .i64 0],.iface 50 (.int .i64 (q2o ds))]) (by simp[results,Tryz.results157,go_sem,M,N]) rfl ?_;exact⟨⟨none,0,rfl,j6p _ _⟩,(I.setCell (p:=⟨w,0,none⟩) Zl _).setCell (p:=⟨w,1,none⟩) Zl _⟩
theorem k7n(ds:List Nd)(wd:Int)(a:Option Addr)(C:Nat)(w:World)(hN:q2z w a ds)(h:q2o ds=0)(hw:wd<0\/100<wd):
  Calls prog 157 #[.slice a ds.length C,.int .i64 wd] w fun e w'=>z6g ds wd w e w':=by
 have E:bE ds wd=1:=by rw[bE,if_pos h,if_pos hw]
 have J:=v5u (ds:=ds) (wd:=wd) (by rw[E];decide);have K:bT ds wd=⟨#[]⟩:=by rw[bT,if_neg (by rw[E];decide)]
 have L:Hid (∀O,q2z (w.alloc O) a ds):=fun O=>hN.W ((Below.refl _ w).alloc Zl O)
 have H:Hid (q2o ds=0):=h;unfold z6g;rw[E,J,K,z5e];clear hN h E J K;rcases hw with hw|hw
 case' inr=>have M:¬wd<0:=by omega
 all_goals
  go_in;go_wp2_with fail;refine(q2h ds a C _ (L.o _)).mono ?_;rintro e D⟨rfl,G⟩;rw[H.o,q0q];obtain⟨A,B⟩:=q0t G;have N:D.cell? ⟨w,0,none⟩=some (.int .i64 0):=(A _ _ (by simp)).trans (by simp[go_sem]);have P:D.cell? ⟨w,1,none⟩=some (.int .i64 0):=(A _ _ (by simp)).trans (by simp[go_sem]);have Q:D.frozen? ⟨w,0,none⟩=false:=(B _ _ (by simp)).trans (by simp[go_sem]);have R:D.frozen? ⟨w,1,none⟩=false:=(B _ _ (by simp)).trans (by simp[go_sem]);have I:Below w w D:=((Below.refl _ w).alloc Zl _).trans (G.mono (by simp));clear A B G;go_wp2;refine bodyPost_ret (v:=.tuple #[.string ⟨#[]⟩,.slice none 0 0,.agg #[.int .i64 0,.int .i64 0],.iface 50 (.int .i64 1)]) (by simp[results,Tryz.results157,go_sem,N,P]) rfl ?_;exact⟨⟨none,0,rfl,j6p _ _⟩,(I.setCell (p:=⟨w,0,none⟩) Zl _).setCell (p:=⟨w,1,none⟩) Zl _⟩
theorem v8h(ds:List Nd)(t:Tr)(hd:ds=t.N)(ht:t.Wf)(hl:ds.length<=400)(wd:Nat)(hw:wd<=100)(a:Option Addr)(C:Nat)(hc:ds.length<=C)(w:World)(hN:q2z w a ds):
  Calls prog 157 #[.slice a ds.length C,.int .i64 wd] w fun e w'=>z6g ds wd w e w':=by
 obtain⟨e0,e1⟩:=j1e ht hd hl hw;have U:=y2z ht wd;have e2:bT ds wd=shS (q6r ds (vv (q0a t) wd 0 0).2):=by rw[bT,if_pos e0,e1,U]
 have HR:Hid (z6g ds wd w=fun e w'=>(∃V wc,e=.returned (.tuple #[.string (shS (q6r ds (vv (q0a t) wd 0 0).2)),.slice V (vv (q0a t) wd 0 0).2.length wc,.agg #[.int .i64 (crs (q0a t) wd 0 0).o,.int .i64 (crs (q0a t) wd 0 0).l],.nilIface])/\w'.ownsRow w.heap.size 3 1 (.slice V (vv (q0a t) wd 0 0).2.length wc) (vv (q0a t) wd 0 0).2.length (q0v (vv (q0a t) wd 0 0).2))/\Below w w w'):=by
  show z6g ds wd w=_;have h3:=(j2p (wd:=wd) (c:=0) (z7w ht) (Nat.zero_le _)).1
  funext e w'
  unfold z6g;rw[e0,e1,e2,q0q,<-U];have h4:((vv (q0a t) wd 0 0).1.1:Int)=(crs (q0a t) wd 0 0).o:=by rw[h3]
  have h5:((vv (q0a t) wd 0 0).1.2:Int)=(crs (q0a t) wd 0 0).l:=by rw[h3]
  rw[h4,h5]
 rw[HR.o];have Ag:0<(q0a t).length:=by rw[q2d];exact t.pos
 have Ah:(q0a t).length=ds.length:=by rw[q2d,hd];rfl
 have h0:q2o ds=0:=by rw[hd];exact q9n ht (by rw[<-hd];exact hl)
 have An:t.sz<=400:=by unfold Tr.sz;rw[<-hd];exact hl
 have Aw:ds≠[]:=by rw[hd];have:=t.pos;exact List.length_pos_iff.1 this
 have HN:Hid (q2z w a ds):=hN;have H0:Hid (q2o ds=0):=h0;have Ac:Hid (∀sb g mb,j0y sb g mb wd (q0a t) 0 0):=fun sb g mb=>v4b sb g mb ht An hw (q0a t).length 0 0 (by omega) (Nat.zero_le _) (Nat.zero_le _)
 have x:Hid (∀sb g mb(W:World)S,Inv sb g mb wd (q0a t) W S->S 0 0=true->Calls prog 204 #[.pointer (some ⟨sb,0,none⟩)] W fun e w'=>(∃a C,e=.returned (.slice a (vv (q0a t) wd 0 0).2.length C)/\w'.ownsRow W.heap.size 3 1 (.slice a (vv (q0a t) wd 0 0).2.length C) (vv (q0a t) wd 0 0).2.length (q0v (vv (q0a t) wd 0 0).2))/\Below W W w'):=fun sb g mb W S hI hS=>z8s sb g mb ht An hw W S hI hS
 have HD:Hid (ds=t.N):=hd;have Aa:Hid ((q0a t).length=ds.length):=Ah
 have Au:Hid ((vv (q0a t) wd 0 0).2.length<=9223372036854775807):=by
  show(vv (q0a t) wd 0 0).2.length<=_
  obtain⟨a',ha⟩:=j1o t wd;have hb:=z1u t wd;rw[q3a,<-U]at hb;have h1:=(z0a hb).1;have h2:=q8b t _ h1;rw[<-hd]at h2;omega
 have z:Hid (∀(s:Nat)(W:World),q0w s W a ds->s<W.heap.size->Calls prog 202 #[.slice a ds.length C,.int .i64 wd] W fun e w'=>e=.returned (.agg #[.slice (some ⟨W.heap.size+1,0,none⟩) ds.length ds.length,.int .i64 wd])/\PwR w' (W.heap.size+1) ds.length (fun j=>q2 (q1e (q0a t) j))/\Below W W w'):=fun s W h1 h2=>z8u ds t HD.o ht hl a C s wd hc W h1 h2
 have Az:=@run_makeMap prog;have A1:¬(wd:Int)<0:=by omega
 have A2:¬(100:Int)<(wd:Int):=by omega
 clear hN h0 hd Ah e0 e1 e2 U HR;go_in;go_wp2_with fail;refine(q2h ds a C _ (HN.o.W ((Below.refl _ w).alloc Zl _))).mono ?_;rintro e E⟨rfl,q⟩;rw[H0.o,q0q];have Al:z2j E w.heap.size:=z2j.kept ⟨_,_,heap_alloc_new w (.cells #[.int .i64 0,.int .i64 0] 120)⟩ (q.block _ (by simp));have k0:E.cell? ⟨w,0,none⟩=some (.int .i64 0):=((q0t q).1 _ _ (by simp)).trans (by simp[go_sem]);have k1:E.cell? ⟨w,1,none⟩=some (.int .i64 0):=((q0t q).1 _ _ (by simp)).trans (by simp[go_sem]);have X:Hid (Below w w E):=((Below.refl _ w).alloc Zl _).trans (q.mono (by simp));have m:w.heap.size<E.heap.size:=by have:=q.size;simp at this;omega
 have P:Hid (E.cell? ⟨w,0,none⟩=some (.int .i64 0)/\E.cell? ⟨w,1,none⟩=some (.int .i64 0)/\z2j E w.heap.size):=⟨k0,k1,Al⟩;clear Al k0 k1 q;obtain⟨s,hs,Ak⟩:=(HN.o.W X.o).s Aw;have Ar:Hid (q0w s E a ds):=Ak;clear Ak;go_wp2_with fail;refine(z.o s E Ar.o hs).mono ?_;rintro e B⟨rfl,i,L⟩;have r:Hid (Below w w B):=X.o.trans (L.mono X.o.size);have A0:=L.size;have Av:E.heap.size+1<B.heap.size:=i.row.lt;have Q:Hid (B.cell? ⟨w,0,none⟩=some (.int .i64 0)/\B.cell? ⟨w,1,none⟩=some (.int .i64 0)/\z2j B w.heap.size):=⟨(L.cell (p:=⟨w,0,none⟩) m).trans P.o.1,(L.cell (p:=⟨w,1,none⟩) m).trans P.o.2.1,P.o.2.2.kept (L.block _ m)⟩
 have y:Hid (Inv (B.heap.size+1) (E.heap.size+1) B.heap.size wd (q0a t) ((B.alloc (.map #[] 0)).alloc (.cells #[.slice (some ⟨E.heap.size+1,0,none⟩) ds.length ds.length,.int .i64 wd,.map (some B.heap.size)] 278)) (fun _ _=>false)):=by
  refine⟨⟨?_,?_,?_⟩,?_,?_,fun p c h=>by cases h⟩
  ·rw[Aa.o];simp[go_sem]
  ·simp[go_sem]
  ·rw[Aa.o];exact i.kept ((Below.heap_alloc _ _ _ (by simp;omega)).trans (Below.heap_alloc _ _ _ Av))
  ·simp[go_sem]
  ·exact(Mem.made B _).kept (Below.heap_alloc _ _ _ (by simp))
 have Ab:Hid (∀W S,Inv (B.heap.size+1) (E.heap.size+1) B.heap.size wd (q0a t) W S->Calls prog 203 #[.pointer (some ⟨B.heap.size+1,0,none⟩),.agg #[.int .i64 0,.int .i64 0]] W fun e w'=>e=.returned (.agg #[.int .i64 (crs (q0a t) wd 0 0).o,.int .i64 (crs (q0a t) wd 0 0).l,.int .i64 (crs (q0a t) wd 0 0).ch,.int .i64 (crs (q0a t) wd 0 0).np,.int .i64 (crs (q0a t) wd 0 0).nc])/\Left (B.heap.size+1) (E.heap.size+1) B.heap.size wd (q0a t) S 0 0 0 W w'):=fun W S h=>by
  have:=Ac.o _ _ _ W S h
  rw[if_pos Ag]at this;exact this
 clear i L;go_wp2_with fail;refine(Ab.o _ _ y.o).mono ?_;rintro e I⟨rfl,M,S',hI,_,_,Ai⟩;have D:((B.alloc (.map #[] 0)).alloc (.cells #[.slice (some ⟨E.heap.size+1,0,none⟩) ds.length ds.length,.int .i64 wd,.map (some B.heap.size)] 278)).heap.size=B.heap.size+1+1:=by simp
 have Ax:=M.size;rw[D]at Ax;have Ae:Below w w ((B.alloc (.map #[] 0)).alloc (.cells #[.slice (some ⟨E.heap.size+1,0,none⟩) ds.length ds.length,.int .i64 wd,.map (some B.heap.size)] 278)):=v0k (v0k r.o _) _;have Y:Hid (Below w w I):=Ae.trans ((M.mono (B':=w.heap.size) (by rw[D];omega)).W (by omega))
 have R:Hid (I.cell? ⟨w,0,none⟩=some (.int .i64 0)/\I.cell? ⟨w,1,none⟩=some (.int .i64 0)/\z2j I w.heap.size):=
  ⟨(M.cell (p:=⟨w,0,none⟩) (by rw[D];simp;omega) (by simp;omega)).trans (ka (ka Q.o.1 _) _),(M.cell (p:=⟨w,1,none⟩) (by rw[D];simp;omega) (by simp;omega)).trans (ka (ka Q.o.2.1 _) _),Q.o.2.2.kept ((M.block _ (by rw[D];omega) (by omega)).trans ((Below.heap_alloc _ _ _ (by simp;omega)).trans (Below.heap_alloc _ _ _ (by omega))))⟩
 have Z:Hid (Inv (B.heap.size+1) (E.heap.size+1) B.heap.size wd (q0a t) I S'/\S' 0 0=true):=⟨hI,Ai Ag⟩;clear M hI Ai Ae D y Ab Ac z r Q P;generalize Aj:crs (q0a t) wd 0 0=k at *;have Aq:Hid (crs (q0a t) wd 0 0=k):=Aj;clear Aj;go_wp2_with fail;refine(x.o _ _ _ _ _ (Z.o.1.alloc _) Z.o.2).mono ?_;rintro e K⟨⟨V,wc,rfl,A⟩,G⟩;obtain⟨_,_,Ay,Af,_⟩:=v3r A;have f:Below w w K:=(v0k Y.o _).trans (G.mono (by have:=Y.o.size;simp;omega));have u:Hid (Below w w K):=f;have H:I.heap.size<K.heap.size:=by have:=G.size;simp at this;omega
 have n:=Y.o.size
 have d:Hid (K.cell? ⟨w,0,none⟩=some (.int .i64 0)/\K.cell? ⟨w,1,none⟩=some (.int .i64 0)/\z2j K w.heap.size):=
  ⟨(G.cell (p:=⟨w,0,none⟩) (by simp;omega)).trans (ka R.o.1 _),(G.cell (p:=⟨w,1,none⟩) (by simp;omega)).trans (ka R.o.2.1 _),R.o.2.2.kept ((G.block _ (by simp;omega)).trans (Below.heap_alloc _ _ _ (by omega)))⟩
 have u0:K.drew.cell? ⟨I,0,none⟩=some (.int .i64 k.o):=(G.cell (p:=⟨I,0,none⟩) (by simp)).trans (by simp[go_sem]);have u1:K.drew.cell? ⟨I,1,none⟩=some (.int .i64 k.l):=(G.cell (p:=⟨I,1,none⟩) (by simp)).trans (by simp[go_sem])
 have At:Hid (Calls prog 205 #[.slice a ds.length C,.slice V (vv (q0a t) wd 0 0).2.length wc] K.drew fun e w'=>e=.returned (.string (shS (q6r ds (vv (q0a t) wd 0 0).2)))/\Below K.drew.heap.size K.drew w'):=
  j1y ds (vv (q0a t) wd 0 0).2 a V C wc hc Ay Au.o K.drew (HN.o.W f.drew) (z4j.W Af (Below.refl _ K).drew)
 have As:Hid (∀W:World,(∀b,I.heap.size<=b->b<K.heap.size->W.heap[b]?=K.heap[b]?)->W.ownsRow w.heap.size 3 1 (.slice V (vv (q0a t) wd 0 0).2.length wc) (vv (q0a t) wd 0 0).2.length (q0v (vv (q0a t) wd 0 0).2)):=fun W hW=>by
  have h1:=q9h (w':=W) A fun b hb=>hW b (by have:=v7j A hb;simp at this;omega) (q9i A hb).1
  exact v3v h1 (by simp;omega)
 have O:Hid (w.heap.size<I.heap.size):=(show w.heap.size<I.heap.size by omega);clear A Af f G x Z R;generalize Ap:(vv (q0a t) wd 0 0).2=us at *;generalize Ao:shS (q6r ds us)=tx at *;have Ad:Hid ((vv (q0a t) wd 0 0).2=us/\shS (q6r ds us)=tx):=⟨Ap,Ao⟩;clear Ap Ao;go_wp2_with fail
 go_region_held3 (fun w'=>w'.cell? ⟨I,0,none⟩=some (.int .i64 k.o)/\w'.cell? ⟨I,1,none⟩=some (.int .i64 k.l))
  (first|with_reducible exact⟨u0,u1⟩|with_reducible exact⟨u07,u17⟩|with_reducible exact⟨(cso (.inl (Nat.ne_of_lt O.o))).trans ((cso (.inl (Nat.ne_of_lt O.o))).trans u07),(cso (.inl (Nat.ne_of_lt O.o))).trans ((cso (.inl (Nat.ne_of_lt O.o))).trans u17)⟩)
  ((go_at_call 205;refine At.o.mono ?_;rintro e w7⟨rfl,J⟩;have u07:=(J.cell (p:=⟨I,0,none⟩) H).trans u0;have u17:=(J.cell (p:=⟨I,1,none⟩) H).trans u1;have k0:=(J.cell (p:=⟨w,0,none⟩) (Nat.lt_of_le_of_lt n H)).trans d.o.1;have k1:=(J.cell (p:=⟨w,1,none⟩) (Nat.lt_of_le_of_lt n H)).trans d.o.2.1;have Am:=d.o.2.2.kept (J.block w.heap.size (Nat.lt_of_le_of_lt n H));have f0:w7.frozen? ⟨w,0,none⟩=false:=Am.frozen;have f1:w7.frozen? ⟨w,1,none⟩=false:=Am.frozen))
 all_goals
  go_wp2;refine bodyPost_ret (v:=.tuple #[.string tx,.slice V us.length wc,.agg #[.int .i64 k.o,.int .i64 k.l],.nilIface]) (by simp[results,Tryz.results157,go_sem,k0,k1]) rfl ?_;rw[Ad.o.1,Ad.o.2,Aq.o];refine⟨⟨V,wc,rfl,As.o _ fun b hb1 hb2=>?_⟩,?_⟩
  ·have h5:=O.o;exact(Below.heap_setCell _ _ _ _ (by simp;omega)).trans ((Below.heap_setCell _ _ _ _ (by simp;omega)).trans (J.block b hb2))
  ·exact((u.o.drew.trans (J.mono u.o.size)).setCell (p:=⟨w,0,none⟩) Zl _).setCell (p:=⟨w,1,none⟩) Zl _
theorem j1g(ds:List Nd)(wd:Int)(a:Option Addr)(A:Nat)(hc:ds.length<=A)(w:World)(hN:q2z w a ds):
  Calls prog 157 #[.slice a ds.length A,.int .i64 wd] w fun e w'=>z6g ds wd w e w':=by
 by_cases h:q2o ds=0
 ·by_cases B:wd<0\/100<wd
  ·exact k7n ds wd a A w hN h B
  ·obtain⟨n,rfl⟩:∃n:Nat,wd=n:=⟨wd.toNat,by omega⟩;exact v8h ds _ (q4b h) (z0f h) (q5b h).1 n (by omega) a A hc w hN
 ·exact v0o ds wd a A w hN h
theorem j1n{t:List Td}(h:q8g t=0)(n:Nat)(hn:n<=100)(A:Option Addr)(c:Nat)(w:World)(hc:(q7d t).length<=c)(hN:q2z w A (q7d t)):
  Calls prog 157 #[.slice A (q7d t).length c,.int .i64 (n:Int)] w fun e w'=>(∃s wa wl wc,∃q1 q2:Int,e=.returned (.tuple #[.string (wbS s),.slice wa wl wc,.agg #[.int .i64 q1,.int .i64 q2],.nilIface])/\dcL n t=s++[10]/\s.length<=2000000)/\Below w w w':=by
 obtain⟨I,J,E,L⟩:=j4r h;obtain⟨D,G⟩:=j1e (wd:=n) (z1d I J).w E (by rw[E];exact L) hn;have K:(q1a t).best n=some (bs n 0 [(0,q1a t)]):=by rw[z1u,q3a]
 obtain⟨_,C,_⟩:=z0a K
 have H:bT (q7d t) (n:Int)=wbS ((q1a t).txt (bs n 0 [(0,q1a t)]).2):=by
  rw[bT,if_pos D,G,v2i h,C];rfl
 refine(j1g (q7d t) (n:Int) A c hc w hN).mono ?_;rintro e w'⟨⟨wa,wc,rfl,_⟩,B⟩;refine⟨⟨_,wa,_,wc,_,_,by rw[H,D,q0q],rfl,?_⟩,B⟩;exact v6r h C
theorem j3m{tx:ByteArray}(h:q3k tx=0)(n:Nat)(h1:10<=n)(h2:n<=100)(A:Option Addr)(c:Nat)(w:World)(hc:(q0i (btL tx)).length<=c)(hW:Wds w A ((q0i (btL tx)).map wbS)):
  Calls prog 154 #[.slice A (q0i (btL tx)).length c,.int .i64 ((n:Int)-2)] w fun e w'=>(∃L c,e=.returned (.tuple #[.slice L (q2l (n-2) ((q0i (btL tx)).map wbS)).length c,.nilIface])/\q1n w (.slice L (q2l (n-2) ((q0i (btL tx)).map wbS)).length c) (q2l (n-2) ((q0i (btL tx)).map wbS)) w')/\Below w w w':=by
 have e:((n:Int)-2)=((n-2:Nat):Int):=by omega
 have C:q5o ((q0i (btL tx)).map wbS) ((n-2:Nat):Int)=0:=by
  have D:q1h ((q0i (btL tx)).map wbS)=0:=h;rw[q5o,if_neg (by simp[D]),if_neg (by omega)]
 have B:=v5l ((q0i (btL tx)).map wbS) A c (n-2) w (by rw[List.length_map];exact hc) hW C;rw[List.length_map]at B;rw[e];exact B
theorem j6g:∀(ls:List ByteArray),ls≠[]->[35,32]++Lib.join (ls.map fun x=>x.data.toList) [10,35,32]++[10]=ls.flatMap ntF
 | [],h=>absurd rfl h
 | [l],_=>by simp[Lib.join_one,ntF,btL]
 | l::u::r,_=>by
  have ih:=j6g (u::r) (by simp);rw[List.flatMap_cons,<-ih];simp[Lib.join_cons,Lib.joinTail,ntF,btL]
theorem k6a{tx:ByteArray}(n:Nat)(h0:q0i (btL tx)≠[]):ntL n tx=[35,32]++Lib.join ((q2l (n-2) ((q0i (btL tx)).map wbS)).map fun x=>x.data.toList) [10,35,32]++[10]:=by
 have A:q2l (n-2) ((q0i (btL tx)).map wbS)≠[]:=by
  rw[q5c _ (by simpa using h0)];simp
 rw[j6g _ A,ntL,if_neg h0];rfl
set_option maxHeartbeats 8000000
theorem k6q{n:Nat}(h1:10<=n)(h2:n<=100)(w:World):Calls prog 38 #[.int .i64 (n:Int)] w fun e w'=>e=.returned .nilIface/\w=w':=by
 have A:¬(n:Int)<10:=by omega
 have B:¬100<(n:Int):=by omega
 go_in;go_wp2;go_ret;exact⟨rfl,rfl⟩
theorem y2i{wd:Int}(h:wd<10\/100<wd)(w:World):Calls prog 38 #[.int .i64 wd] w fun e w'=>e=.returned (.iface 50 (.int .i64 1))/\w=w':=by
 by_cases A:wd<10
 ·go_in;go_wp2;go_ret;exact⟨rfl,rfl⟩
 ·have B:100<wd:=by omega
  go_in;go_wp2;go_ret;exact⟨rfl,rfl⟩
theorem j6w{t:List Td}(h:q0c t=0)(h9:opT t=9)(n:Nat)(Aa:10<=n)(Ab:n<=100)(a:Option Addr)(M:Nat)(w:World)(hc:t.length<=M)(hN:Tds w a t)(V:z4i t)(ht:q7n w):
  Calls prog 121 #[.slice a t.length M,.int .i64 (n:Int)] w fun e w'=>e=.returned (.tuple #[.string (wbS (q5g n t)),.nilIface])/\Below w w w':=by
 obtain⟨_,_,y,p⟩:=z7b h h9;have I:=j6e h h9;rw[k0e h h9]
 have D:Hid (Calls prog 153 #[.slice a t.length M] w fun e w'=>(∃A c,e=.returned (.tuple #[.slice A (q0i (btL (txT t))).length c,.nilIface])/\Wds w' A ((q0i (btL (txT t))).map wbS)/\(q0i (btL (txT t))).length<=c)/\Below w w w'):=by
  refine(k2y t a M w ht hc hN V).mono ?_;rintro e w'⟨⟨A,c,he,hW,hl⟩,hb⟩;rw[p]at hW hl;rw[List.length_map]at hl;exact⟨⟨A,c,by rw[he,y,p,q0q,List.length_map],hW,hl⟩,hb⟩
 have C:Hid (∀(W:World)(A:Option Addr)(c:Nat),(q0i (btL (txT t))).length<=c->Wds W A ((q0i (btL (txT t))).map wbS)->Calls prog 154 #[.slice A (q0i (btL (txT t))).length c,.int .i64 ((n:Int)-2)] W fun e w'=>(∃L c,e=.returned (.tuple #[.slice L (q2l (n-2) ((q0i (btL (txT t))).map wbS)).length c,.nilIface])/\q1n W (.slice L (q2l (n-2) ((q0i (btL (txT t))).map wbS)).length c) (q2l (n-2) ((q0i (btL (txT t))).map wbS)) w')/\Below W W w'):=fun W A c q1 q2=>j3m I n Aa Ab A c W q1 q2
 have z:=k5y I;by_cases O:q0i (btL (txT t))=[]
 ·have R:Hid (ntL n (txT t)=[35,10]):=(show _=_ by rw[ntL,if_pos O]);generalize ntL n (txT t)=L at R⊢;rw[O]at D C;simp only[List.map_nil,q5d,List.length_nil]at D C;clear hN V ht y p I h h9 z O;go_in;go_wp2_with fail;refine D.o.mono ?_;rintro e E⟨⟨Y,S,rfl,G,H⟩,b⟩;have P:Hid (Below w w E):=b;have K:Hid (Calls prog 154 #[.slice Y 0 S,.int .i64 ((n:Int)-2)] E fun e w'=>(∃L c,e=.returned (.tuple #[.slice L 0 c,.nilIface])/\q1n E (.slice L 0 c) [] w')/\Below E E w'):=C.o E Y S H G;clear b G H C D;go_wp2_with fail;refine K.o.mono ?_;rintro e X⟨⟨r,v,rfl,_⟩,d⟩;have Q:Hid (Below w w X):=q0g P.o Zl d;clear d;go_wp2;go_ret2;exact⟨by rw[R.o];rfl,Q.o⟩
 ·have l:=q8s (n-2) _ ((q0i (btL (txT t))).map wbS) Zl;have k:=z.1
  have N:q2l (n-2) ((q0i (btL (txT t))).map wbS)≠[]:=by
   rw[q5c _ (by simpa using O)];simp
  have R:Hid (wbS (ntL n (txT t))=(⟨#[35,32]⟩:ByteArray)++wbS (Lib.join ((q2l (n-2) ((q0i (btL (txT t))).map wbS)).map fun x=>x.data.toList) [10,35,32])++(⟨#[10]⟩:ByteArray)):=by
   show _=_;rw[k6a n O,<-q2f,<-q2f];rfl
  have f:=j6f I n
  have U:(wbS (Lib.join ((q2l (n-2) ((q0i (btL (txT t))).map wbS)).map fun x=>x.data.toList) [10,35,32])).size<=100000:=by
   rw[k6a n O,List.length_append,List.length_append]at f;rw[q7t];omega
  have m:0<(q0i (btL (txT t))).length:=List.length_pos_iff.2 O;generalize ntL n (txT t)=L at R⊢;generalize q2l (n-2) ((q0i (btL (txT t))).map wbS)=ls at C R l U N
  have u:Hid (∀(W:World)(A:Option Addr)(c B:Nat),q1n B (.slice A ls.length c) ls W->Calls prog 155 #[.slice A ls.length c,.string ⟨#[10,35,32]⟩] W fun e w'=>e=.returned (.string (wbS (Lib.join (ls.map fun x=>x.data.toList) [10,35,32])))/\Below W W w'):=fun W A c B hS=>by
   obtain⟨_,q2,hA⟩:=k0z hS;have Ac:=List.length_pos_iff.2 N;rcases hA with⟨_,q,_⟩|⟨g,rfl,hg⟩
   ·omega
   ·refine join_sh g 0 c ls ⟨#[10,35,32]⟩ W ?_ hg (by omega) q2 ?_
    ·intro j x hx;obtain⟨hj,rfl⟩:=List.getElem?_eq_some_iff.1 hx;obtain⟨b',o',e,_,S⟩:=q9k hS j hj;simp only[Option.some.injEq,Addr.mk.injEq,and_true]at e;obtain⟨rfl,rfl⟩:=e;exact S
    ·rw[q7t]at U
     show(Lib.join (ls.map fun x=>x.data.toList) [10,35,32]).length<=_
     omega
  generalize wbS (Lib.join (ls.map fun x=>x.data.toList) [10,35,32])=J at u R U
  generalize(q0i (btL (txT t))).map wbS=ws at D C
  generalize(q0i (btL (txT t))).length=nw at D C m
  have o:((ls.length:Int)==0)=false:=by
   have:=List.length_pos_iff.2 N
   simp;omega
  have g1:¬9223372036854775807<2+J.size:=by omega
  have g2:¬9223372036854775807<2+J.size+1:=by omega
  clear hN V ht y p I h h9 z O f l k N;go_in;go_wp2_with fail;refine D.o.mono ?_;rintro e E⟨⟨Y,S,rfl,G,H⟩,b⟩;have P:Hid (Below w w E):=b;have K:Hid (Calls prog 154 #[.slice Y nw S,.int .i64 ((n:Int)-2)] E fun e w'=>(∃L c,e=.returned (.tuple #[.slice L ls.length c,.nilIface])/\q1n E (.slice L ls.length c) ls w')/\Below E E w'):=C.o E Y S H G;clear b G H C D;go_wp2_with fail;refine K.o.mono ?_;rintro e X⟨⟨r,v,rfl,i⟩,d⟩;have Q:Hid (Below w w X):=q0g P.o Zl d;have Z:Hid (Calls prog 155 #[.slice r ls.length v,.string ⟨#[10,35,32]⟩] X fun e w'=>e=.returned (.string J)/\Below X X w'):=u.o X r v _ i;clear d i u K;generalize ls.length=nl at Z o⊢;go_wp2_with fail;refine Z.o.mono ?_;rintro e w3⟨rfl,b3⟩;have s:Hid (Below w w w3):=q0g Q.o Zl b3;clear b3;go_wp2;go_ret2;exact⟨by rw[R.o];rfl,s.o⟩
theorem k9e{t:List Td}(h:q0c t=0)(h9:opT t≠9)(n:Nat)(g:n<=100)(a:Option Addr)(D:Nat)(w:World)(hc:t.length<=D)(hN:Tds w a t)(I:z4i t)(ht:q7n w):
  Calls prog 122 #[.slice a t.length D,.int .i64 (n:Int)] w fun e w'=>e=.returned (.tuple #[.string (if pgE t=0 then wbS (q5g n t)else⟨#[]⟩),q0s (pgE t)])/\Below w w w':=by
 have B:Hid (Calls prog 156 #[.slice a t.length D] w fun e w'=>(∃A c,e=.returned (.tuple #[.slice A (q7d t).length c,q0s (q8g t)])/\q2z w' A (q7d t)/\(q7d t).length<=c)/\Below w w w'):=k8r t a D w ht.pow hc hN I;rw[j6r h h9,k6c h h9];by_cases G:q8g t=0
 ·have C:Hid (∀(W:World)(A:Option Addr)(c:Nat),(q7d t).length<=c->q2z W A (q7d t)->Calls prog 157 #[.slice A (q7d t).length c,.int .i64 (n:Int)] W fun e w'=>(∃s X Y wc,∃J K:Int,e=.returned (.tuple #[.string (wbS s),.slice X Y wc,.agg #[.int .i64 J,.int .i64 K],.nilIface])/\dcL n t=s++[10]/\s.length<=2000000)/\Below W W w'):=fun W A c J K=>j1n G n g A c W J K
  rw[if_pos G,G,q0q];rw[G,q0q]at B;generalize dcL n t=L at C⊢;generalize q7d t=xs at B C;clear hN I ht h h9 G;go_in;go_wp2_with fail;refine B.o.mono ?_;rintro e M⟨⟨Z,d,rfl,P,Q⟩,V⟩;have b:Hid (Below w w M):=V;have H:Hid (Calls prog 157 #[.slice Z xs.length d,.int .i64 (n:Int)] M fun e w'=>(∃s X Y wc,∃J K:Int,e=.returned (.tuple #[.string (wbS s),.slice X Y wc,.agg #[.int .i64 J,.int .i64 K],.nilIface])/\L=s++[10]/\s.length<=2000000)/\Below M M w'):=C.o M Z d Q P;clear V P Q C B;generalize xs.length=nx at H⊢;go_wp2_with fail;refine H.o.mono ?_;rintro e k⟨⟨s,X,Y,wc,J,K,rfl,j,R⟩,i⟩;have N:Hid (Below w w k):=q0g b.o Zl i;have O:Hid (wbS L=wbS s++(⟨#[10]⟩:ByteArray)):=(show _=_ by rw[j,<-q2f];rfl);have f:(wbS s).size<=2000000:=by rw[q7t];exact R
  clear i j R H;generalize wbS s=S at O f⊢;have l:¬9223372036854775807<S.size+1:=by omega
  go_wp2;go_ret2;exact⟨by rw[O.o];rfl,by first|exact N.o|exact q0g N.o Zl (q1c k _)⟩
 ·rw[if_neg G];have U:=(show Hid (_=_)from q0h G);generalize q0s (q8g t)=E at B U⊢;generalize q7d t=xs at B;generalize q8g t=z at U;clear hN I ht h h9 G;go_in;go_wp2_with fail;refine B.o.mono ?_;rintro e M⟨⟨Z,d,rfl,_,_⟩,V⟩;rw[U.o];generalize xs.length=nx;go_wp2;go_ret2;exact⟨by rw[U.o];rfl,V⟩
theorem k3m:y9y:=by
 intro t a D U w g L A Q;by_cases M:U<10\/100<U
 ·have X:Hid (Calls prog 38 #[.int .i64 U] w fun e w'=>e=.returned (.iface 50 (.int .i64 1))/\w=w'):=y2i M w;have B:k0d t U=1:=by rw[k0d,if_pos M]
  rw[z7r (by rw[B];decide),B];clear L A Q B M;go_in;go_wp2_with fail;refine X.o.mono ?_;rintro e i⟨rfl,rfl⟩;go_wp2;go_ret2;exact⟨rfl,Below.refl _ _⟩
 ·obtain⟨n,rfl⟩:∃n:Nat,U=(n:Int):=⟨U.toNat,by omega⟩;have Z:10<=n:=by omega
  have O:n<=100:=by omega
  have X:Hid (Calls prog 38 #[.int .i64 (n:Int)] w fun e w'=>e=.returned .nilIface/\w=w'):=k6q Z O w;have V:Hid (Calls prog 119 #[.slice a t.length D] w fun e w'=>e=.returned (q0s (q0c t))/\Below w w w'):=q5z t a D w g L A;by_cases H:q0c t=0
  ·obtain⟨l,b,o,rfl,p,d,P⟩:=k3p H L;have I:Hid (∀W:World,Below w w W->W.cell? ⟨b,o,none⟩=some (.int .i64 (opT t))):=fun W h=>((q0t h).1 _ _ p).trans d
   have q:(0:Int)<(t.length:Int):=by omega
   have B:k0d t (n:Int)=pgE t:=z7q M H;rw[H]at V;by_cases K:opT t=9
   ·have C:Hid (∀W:World,Below w w W->Calls prog 121 #[.slice (some ⟨b,o,none⟩) t.length D,.int .i64 (n:Int)] W fun e w'=>e=.returned (.tuple #[.string (wbS (q5g n t)),.nilIface])/\Below W W w'):=fun W h=>j6w H K n Z O _ D W g (L.W h) A (Q.W h)
    rw[K]at I;rw[k3l (by rw[B];exact k6n K),B,k6n K,q0q];clear L A Q B M d P H K;generalize wbS (q5g n t)=S at C⊢;go_in;go_wp2_with fail;refine X.o.mono ?_;rintro e i⟨rfl,rfl⟩;go_wp2_with fail;refine V.o.mono ?_;rintro e R⟨rfl,J⟩;rw[q0q];have P:=I.o R J;have G:Hid (Below w w R):=J;clear J;go_wp2_with fail;refine(C.o _ G.o).mono ?_;rintro e j⟨rfl,Y⟩;have N:Hid (Below w w j):=q0g G.o Zl Y;clear Y P;go_wp2;go_ret2;exact⟨rfl,N.o⟩
   ·have C:Hid (∀W:World,Below w w W->Calls prog 122 #[.slice (some ⟨b,o,none⟩) t.length D,.int .i64 (n:Int)] W fun e w'=>e=.returned (.tuple #[.string (j9y t (n:Int)),q0s (k0d t (n:Int))])/\Below W W w'):=fun W h=>by
     have k:=k9e H K n O (some ⟨b,o,none⟩) D W g (L.W h) A (Q.W h);have m:(if pgE t=0 then wbS (q5g n t)else⟨#[]⟩)=j9y t (n:Int):=by rw[j9y,B];rfl
     rw[m,<-B]at k;exact k
    have f:(opT t==9)=false:=by simp[K]
    clear L A Q B M d P H K;generalize opT t=op0 at I f;generalize j9y t (n:Int)=S at C⊢;generalize q0s (k0d t (n:Int))=E at C⊢;go_in;go_wp2_with fail;refine X.o.mono ?_;rintro e i⟨rfl,rfl⟩;go_wp2_with fail;refine V.o.mono ?_;rintro e R⟨rfl,J⟩;rw[q0q];have P:=I.o R J;have G:Hid (Below w w R):=J;clear J;go_wp2_with fail;refine(C.o _ G.o).mono ?_;rintro e j⟨rfl,Y⟩;have N:Hid (Below w w j):=q0g G.o Zl Y;clear Y P;go_wp2;go_ret2;exact⟨rfl,N.o⟩
  ·have B:k0d t (n:Int)=q0c t:=by rw[k0d,if_neg M,if_pos H]
   rw[z7r (by rw[B];exact H),B];have c:Hid (q0s (q0c t)=.iface 50 (.int .i64 (q0c t))):=q0h H;generalize q0s (q0c t)=E at V c⊢;generalize q0c t=z at c;clear L A Q B M H;go_in;go_wp2_with fail;refine X.o.mono ?_;rintro e i⟨rfl,rfl⟩;go_wp2_with fail;refine V.o.mono ?_;rintro e R⟨rfl,J⟩;rw[c.o];go_wp2;go_ret2;exact⟨by rw[c.o];rfl,J⟩
structure v0a(ps:List (List Td))(n:Nat)(w0:World)(i:Nat)(wr:World):Prop where
 le:i<=ps.length
 z:fmE (ps.drop i)=fmE ps
 x:IsX 38 w0.heap.size w0.heap.size (Lib.byteCells (q2j n (ps.take i))) [] wr
 bl:Below w0 w0 wr
 ln:(q2j n (ps.take i)).length<=i*2000001
theorem y5b:q9v 38 2:=by unfold q9v;kernel_rfl
theorem y9s:38≠5:=by decide
theorem k6p{s:ByteArray}{ps:List (List Td)}{k:Int}(h:q6l s ps k 0):∀t∈ps,z4i t:=fun t ht x hx=>Nat.le_trans (j6y (q9c h).2.1 t ht x hx) (by decide)
theorem k6l{ps:List (List Td)}{i:Nat}(h:i<ps.length):ps.drop i=ps[i]::ps.drop (i+1):=List.drop_eq_getElem_cons h
theorem k6m{ps:List (List Td)}{i:Nat}(wd:Nat)(h:i<ps.length):q2j wd (ps.take (i+1))=q2j wd (ps.take i)++q5g wd ps[i]:=by
 rw[q2j,List.take_succ_eq_append_getElem h,List.flatMap_append];simp[q2j]
theorem v9l:y9p:=by
 intro s b w ht;by_cases u:b<10\/100<b
 ·have HW:Hid (Calls prog 38 #[.int .i64 b] w fun e H=>e=.returned (.iface 50 (.int .i64 1))/\w=H):=y2i u w;have I:Hid (z2f s b w (.returned (.tuple #[.string ⟨#[]⟩,.int .i64 0,q0s 1])) w):=⟨_,_,_,rfl,.range u,Below.refl _ _⟩;clear ht u;go_in;go_wp2_with fail;refine HW.o.mono ?_;rintro e w1⟨rfl,rfl⟩;go_wp2;go_ret3;exact I.o
 ·obtain⟨n,rfl⟩:∃n:Nat,b=(n:Int):=⟨b.toNat,by omega⟩;have Aj:10<=n:=by omega
  have Ak:n<=100:=by omega
  have K:Hid (¬((n:Int)<10\/100<(n:Int))):=u;have HW:Hid (Calls prog 38 #[.int .i64 (n:Int)] w fun e H=>e=.returned .nilIface/\w=H):=k6q Aj Ak w;have Ae:Hid (Calls prog 63 #[.string s] w fun e H=>∃ps k f A c,e=.returned (.tuple #[.slice A ps.length c,.int .i64 k,q0s f])/\q6l s ps k f/\Prg H A ps/\ps.length<=c/\Below w w H):=z1h s w ht;have HT:Hid (q7n w):=ht;clear ht u;go_in;go_wp2_with fail;refine HW.o.mono ?_;rintro e w1⟨rfl,rfl⟩;go_wp2_with fail;refine Ae.o.mono ?_;rintro e B⟨ps,k,f,A,c,rfl,a,hP,_,l⟩;have g:Hid (Below w w B):=l;by_cases y:f=0
  ·subst y;obtain⟨rfl,_,p,P⟩:=q9c a;have Ab:=(show Hid (∀t∈ps,z4i t)from k6p a);have d:Hid (∀t∈ps,q0c t=0):=P;have j:Hid (q6l s ps 0 0):=a;have HP:Hid (Prg B A ps):=hP;have Af:Hid (q7n B):=HT.o.W l;have Ad:Hid (v0a ps n B 0 (B.alloc (.cells #[.pointer none,.slice none 0 0] 38))):=⟨Nat.zero_le _,rfl,IsX.fresh 38 B [],q1c B _,by simp[q2j]⟩;rw[q0q];clear a hP l P;generalize r:ps.length=np at p⊢;have Ac:Hid (ps.length=np):=r;clear r;go_wp2_with fail
   go_loopw [31] (fun x wr=>∃i:Nat,x=.int .i64 (i:Int)/\v0a ps n B i wr) (fun x _=>np-(intOf x).toNat)
   case atStart=>exact⟨0,rfl,Ad.o⟩
   case round=>
    obtain⟨i,rfl,D⟩:=hrel;have An:=Ac.o;have Am:=D.le;have Ao:=D.ln;by_cases Ap:i<np
    ·have Ah:(i:Int)<(np:Int):=by omega
     have X:i<ps.length:=by omega
     obtain⟨b0,o0,A0,c0,rfl,Al,d0,U,R⟩:=(HP.o.W D.bl) i X;have L:=d.o ps[i] (List.getElem_mem _);have C:Hid (Calls prog 89 #[.slice A0 ps[i].length c0,.int .i64 (n:Int)] wr fun e H=>e=.returned (.tuple #[.string (j9y ps[i] (n:Int)),q0s (k0d ps[i] (n:Int))])/\Below wr wr H):=k3m ps[i] A0 c0 (n:Int) wr U R (Ab.o ps[i] (List.getElem_mem _)) (Af.o.W D.bl);have Z:k0d ps[i] (n:Int)=pgE ps[i]:=z7q K.o L;have V:=k6l X;have M:=D.z;rw[V]at M;have v:=(show Hid (_=_)from M);have J:=(show Hid (_=_)from k6m (ps:=ps) n X);have HV:Hid (v0a ps n B i wr):=D;by_cases G:pgE ps[i]=0
     ·have Ai:=k3n L G n;rw[k3l (by rw[Z];exact G),Z,G,q0q]at C
      have h:Hid (∀W,Below wr wr W->Calls prog 10 #[.pointer (some ⟨B,0,none⟩),.string (wbS (q5g n ps[i]))] W fun e H=>(∃z,e=.returned (.tuple #[z,.nilIface]))/\v0a ps n B (i+1) H):=fun W hb=>by
       have Aq:=D.bl.size;refine(q6e 38 B.heap.size B.heap.size (Lib.byteCells (q2j n (ps.take i))) [] (wbS (q5g n ps[i])) W y5b y9s (D.x.grew hb) (by rw[Lib.byteCells_length,q7t];omega) (by have:=hb.size;omega)).mono ?_;rintro e H⟨rfl,q1,q2,_⟩;refine⟨⟨_,rfl⟩,by omega,?_,?_,?_,?_⟩
       ·have:=v.o
        rw[q5p G]at this;exact this
       ·rw[J.o,q2r];exact q1
       ·exact(q0g D.bl Zl hb).trans (q2.W Zl)
       ·rw[J.o,List.length_append];omega
      clear D V M L R U Z G Ai v J;generalize wbS (q5g n ps[i])=S at C h;generalize ps[i].length=tn at d0 C;go_wp2_with fail;refine C.o.mono ?_;rintro e Y⟨rfl,O⟩;have Aa:Hid (Below wr wr Y):=O;clear O;go_wp2_with fail;refine(h.o _ Aa.o).mono ?_;rintro e w4⟨⟨q,rfl⟩,h4⟩;have Ag:Hid (v0a ps n B (i+1) w4):=h4;clear h4;go_wp2;refine⟨⟨i+1,by go_num,Ag.o⟩,?_⟩;simp[intOf];omega
     ·have I:Hid (∀W,Below wr wr W->z2f s (n:Int) w (.returned (.tuple #[.string ⟨#[]⟩,.int .i64 0,q0s (pgE ps[i])])) W):=fun W hb=>by
       have q:=v.o;rw[z6x G]at q;have q2:=j9w.full K.o j.o (by rw[<-q];exact G);rw[<-q]at q2;exact⟨_,_,_,rfl,q2,q0g g.o Zl (q0g D.bl Zl hb)⟩
      have N:=(show Hid (_=_)from q0h G);rw[z7r (by rw[Z];exact G),Z]at C;clear D V M L R U Z G v J;generalize q0s (pgE ps[i])=E at C I N;generalize pgE ps[i]=z at N;generalize ps[i].length=tn at d0 C;go_wp2_with fail;refine C.o.mono ?_;rintro e Y⟨rfl,O⟩;have Q:Hid (z2f s (n:Int) w (.returned (.tuple #[.string ⟨#[]⟩,.int .i64 0,E])) Y):=I.o Y O;clear O;rw[N.o];go_wp2;go_ret3;rw[<-N.o];exact Q.o
    ·have Ah:¬(i:Int)<(np:Int):=by omega
     have o:ps.take i=ps:=List.take_of_length_le (by omega);have m:ps.drop i=[]:=List.drop_eq_nil_of_le (by omega);have G:=D.z;rw[m]at G;have hx:=D.x;rw[o]at hx;have HO:Hid (Calls prog 12 #[.pointer (some ⟨B,0,none⟩)] wr fun e H=>e=.returned (.string (wbS (q2j n ps)))/\Below B wr H):=z2d _ _ _ _ _ _ hx;have I:Hid (∀W,Below B wr W->z2f s (n:Int) w (.returned (.tuple #[.string (wbS (q2j n ps)),.int .i64 0,q0s 0])) W):=fun W hb=>⟨_,_,_,rfl,.ok K.o j.o G.symm,q0g g.o Zl (D.bl.trans hb)⟩
     clear D o m G hx;generalize wbS (q2j n ps)=S at HO I;go_wp2_with fail;refine HO.o.mono ?_;rintro e Y⟨rfl,O⟩;have Q:Hid (z2f s (n:Int) w (.returned (.tuple #[.string S,.int .i64 0,q0s 0])) Y):=I.o Y O;clear O;go_wp2;go_ret3;exact Q.o
  ·have I:Hid (z2f s (n:Int) w (.returned (.tuple #[.string ⟨#[]⟩,.int .i64 k,q0s f])) B):=⟨_,_,_,rfl,.bad K.o a y,l⟩;have N:=(show Hid (_=_)from q0h y);generalize q0s f=E at I N⊢;clear a hP l y;rw[N.o];generalize ps.length=np;go_wp2;go_ret3;rw[<-N.o];exact I.o
end Go.Proofs.YtelcnplcpboonaaGreatDoor
