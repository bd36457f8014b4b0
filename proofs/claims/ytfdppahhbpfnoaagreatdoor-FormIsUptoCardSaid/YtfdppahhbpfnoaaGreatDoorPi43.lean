import Derived.Test.YtfdppahhbpfnoaaGreatDoorPi41
import Derived.Test.YtfdppahhbpfnoaaGreatDoorPi40
import Derived.Test.YtfdppahhbpfnoaaGreatDoorPi32
import Derived.Test.YtfdppahhbpfnoaaGreatDoorPi34
open Go.Proofs.Tryz
namespace Go.Proofs.YtfdppahhbpfnoaaGreatDoor
open Go Go.RowKit
set_option maxRecDepth 100000
set_option maxHeartbeats 4000000
theorem j2v(ds:List Nd)(ws:List Int)(a wa:Option Addr)(cap wc:Nat)(hc:ds.length<=cap)(A:ws.length<=wc)(hl:ws.length<=9223372036854775807)(w:World)(hN:q1p w a ds)(hI:q7r w wa ws):
  Calls prog 111 #[.slice a ds.length cap,.slice wa ws.length wc] w fun e w'=>e=.returned (.string (shS (q5y ds ws)))/\Below w w w':=by
 have B:Hid (Calls prog 19 #[.slice a ds.length cap,.slice wa ws.length wc] w fun e w'=>e=.returned (.tuple #[.string (shS (q5y ds ws)),q1v (shE (q5y ds ws))])/\Below w w w'):=v0q ds ws a wa cap wc hc A hl w hN hI;clear hN hI hc A hl;generalize shS (q5y ds ws)=s at *;generalize q1v (shE (q5y ds ws))=v at *;go_in;go_wp2_with fail;refine B.o.mono ?_;rintro e D⟨rfl,C⟩;go_wp2;go_ret;exact⟨rfl,C⟩
def bE(ds:List Nd)(wd:Int):Int:=if q3f ds=0 then(if wd<0\/100<wd then 1 else 0)else q3f ds
open Classical in
noncomputable def bA(ds:List Nd)(wd:Int):Crs:=if h:q3f ds=0 then(if wd<0\/100<wd then((0,0),[])else bs wd.toNat 0 [(0,v6x ds h)])else((0,0),[])
noncomputable def bT(ds:List Nd)(wd:Int):ByteArray:=if bE ds wd=0 then shS (q5y ds (bA ds wd).2)else⟨#[]⟩
theorem v6p{ds:List Nd}{wd:Int}(h:bE ds wd≠0):bA ds wd=((0,0),[]):=by
 unfold bE at h;unfold bA
 split
 ·rename_i h0;rw[if_pos h0]at h
  split at h
  ·rename_i h1;rw[if_pos h1]
  ·exact absurd rfl h
 ·rfl
theorem j2d{ds:List Nd}{wd:Nat}{t:Tr}(ht:t.Wf)(e:ds=t.N)(hl:ds.length<=400)(hw:wd<=100):bE ds wd=0/\bA ds wd=bs wd 0 [(0,t)]:=by
 have h:q3f ds=0:=by rw[e];exact z1a ht (by rw[<-e];exact hl)
 have A:¬((wd:Int)<0\/(100:Int)<wd):=by omega
 refine⟨by rw[bE,if_pos h,if_neg A],?_⟩;rw[bA,dif_pos h,if_neg A,z8c h ht e,Int.toNat_natCast]
theorem y2g{t:Tr}(ht:t.Wf)(wd:Nat):vv (q0a t) wd 0 0=bs wd 0 [(0,t)]:=by rw[vv,(z9g ht).kont]
theorem v4r{w:World}{B B' e A n:Nat}{v:Value}{xs:List Value}(h:w.ownsRow B e A v n xs)(hB:B'<=B):w.ownsRow B' e A v n xs:=by
 refine⟨h.1,?_⟩;rcases h.2 with E|⟨g,c,D,rfl,G,C⟩
 ·exact .inl E
 ·exact .inr ⟨g,c,D,rfl,Nat.le_trans hB G,C⟩
theorem j8l(w:World)(B:Nat):w.ownsRow B 3 1 (.slice none 0 0) 0 (q0j []):=⟨rfl,.inl ⟨rfl,rfl⟩⟩
def z7l(ds:List Nd)(wd:Int)(w:World)(e:Ending)(w':World):Prop:=
 (∃wa wc,e=.returned (.tuple #[.string (bT ds wd),.slice wa (bA ds wd).2.length wc,.agg #[.int .i64 (bA ds wd).1.1,.int .i64 (bA ds wd).1.2],q1v (bE ds wd)])/\w'.ownsRow w.heap.size 3 1 (.slice wa (bA ds wd).2.length wc) (bA ds wd).2.length (q0j (bA ds wd).2))/\Below w w w'
theorem v1p(ds:List Nd)(wd:Int)(a:Option Addr)(cap:Nat)(w:World)(hN:q1p w a ds)(h:q3f ds≠0):
  Calls prog 71 #[.slice a ds.length cap,.int .i64 wd] w fun e w'=>z7l ds wd w e w':=by
 have D:bE ds wd=q3f ds:=by rw[bE,if_neg h]
 have I:=v6p (ds:=ds) (wd:=wd) (by rw[D];exact h);have J:bT ds wd=⟨#[]⟩:=by rw[bT,if_neg (by rw[D];exact h)]
 have K:Hid (∀O,q1p (w.alloc O) a ds):=fun O=>hN.W ((Below.refl _ w).alloc Zl O)
 have H:Hid (q3f ds≠0):=h;unfold z7l;rw[D,I,J,q0t h];clear hN h D I J;go_in;go_wp2_with fail;refine(q3e ds a cap _ (K.o _)).mono ?_;rintro e C⟨rfl,E⟩;rw[q0t H.o];obtain⟨A,B⟩:=q1y E;have L:C.cell? ⟨w,0,none⟩=some (.int .i64 0):=(A _ _ (by simp)).trans (by simp[go_sem]);have M:C.cell? ⟨w,1,none⟩=some (.int .i64 0):=(A _ _ (by simp)).trans (by simp[go_sem]);have N:C.frozen? ⟨w,0,none⟩=false:=(B _ _ (by simp)).trans (by simp[go_sem]);have P:C.frozen? ⟨w,1,none⟩=false:=(B _ _ (by simp)).trans (by simp[go_sem]);have G:Below w w C:=((Below.refl _ w).alloc Zl _).trans (E.mono (by simp));clear A B E;go_wp2;refine bodyPost_ret (v:=.tuple #[.string ⟨#[]⟩,.slice none 0 0,.agg #[.int .i64 0,.int .i64 0],.iface 23 (.int .i64 (q3f ds))]) (by simp[results,Tryz.results71,go_sem,L,M]) rfl ?_;exact⟨⟨none,0,rfl,j8l _ _⟩,(G.setCell (p:=⟨w,0,none⟩) Zl _).setCell (p:=⟨w,1,none⟩) Zl _⟩
theorem k8m(ds:List Nd)(wd:Int)(a:Option Addr)(cap:Nat)(w:World)(hN:q1p w a ds)(h:q3f ds=0)(hw:wd<0\/100<wd):
  Calls prog 71 #[.slice a ds.length cap,.int .i64 wd] w fun e w'=>z7l ds wd w e w':=by
 have D:bE ds wd=1:=by rw[bE,if_pos h,if_pos hw]
 have I:=v6p (ds:=ds) (wd:=wd) (by rw[D];decide);have J:bT ds wd=⟨#[]⟩:=by rw[bT,if_neg (by rw[D];decide)]
 have K:Hid (∀O,q1p (w.alloc O) a ds):=fun O=>hN.W ((Below.refl _ w).alloc Zl O)
 have H:Hid (q3f ds=0):=h;unfold z7l;rw[D,I,J,z6f];clear hN h D I J;rcases hw with hw|hw
 case' inr=>have L:¬wd<0:=by omega
 all_goals
  go_in;go_wp2_with fail;refine(q3e ds a cap _ (K.o _)).mono ?_;rintro e C⟨rfl,E⟩;rw[H.o,q1l];obtain⟨A,B⟩:=q1y E;have M:C.cell? ⟨w,0,none⟩=some (.int .i64 0):=(A _ _ (by simp)).trans (by simp[go_sem]);have N:C.cell? ⟨w,1,none⟩=some (.int .i64 0):=(A _ _ (by simp)).trans (by simp[go_sem]);have P:C.frozen? ⟨w,0,none⟩=false:=(B _ _ (by simp)).trans (by simp[go_sem]);have Q:C.frozen? ⟨w,1,none⟩=false:=(B _ _ (by simp)).trans (by simp[go_sem]);have G:Below w w C:=((Below.refl _ w).alloc Zl _).trans (E.mono (by simp));clear A B E;go_wp2;refine bodyPost_ret (v:=.tuple #[.string ⟨#[]⟩,.slice none 0 0,.agg #[.int .i64 0,.int .i64 0],.iface 23 (.int .i64 1)]) (by simp[results,Tryz.results71,go_sem,M,N]) rfl ?_;exact⟨⟨none,0,rfl,j8l _ _⟩,(G.setCell (p:=⟨w,0,none⟩) Zl _).setCell (p:=⟨w,1,none⟩) Zl _⟩
theorem v8z(ds:List Nd)(t:Tr)(hd:ds=t.N)(ht:t.Wf)(hl:ds.length<=400)(wd:Nat)(hw:wd<=100)(a:Option Addr)(cap:Nat)(hc:ds.length<=cap)(w:World)(hN:q1p w a ds):
  Calls prog 71 #[.slice a ds.length cap,.int .i64 wd] w fun e w'=>z7l ds wd w e w':=by
 obtain⟨e0,e1⟩:=j2d ht hd hl hw;have R:=y2g ht wd;have e2:bT ds wd=shS (q5y ds (vv (q0a t) wd 0 0).2):=by rw[bT,if_pos e0,e1,R]
 have HR:Hid (z7l ds wd w=fun e w'=>(∃U wc,e=.returned (.tuple #[.string (shS (q5y ds (vv (q0a t) wd 0 0).2)),.slice U (vv (q0a t) wd 0 0).2.length wc,.agg #[.int .i64 (crs (q0a t) wd 0 0).o,.int .i64 (crs (q0a t) wd 0 0).l],.nilIface])/\w'.ownsRow w.heap.size 3 1 (.slice U (vv (q0a t) wd 0 0).2.length wc) (vv (q0a t) wd 0 0).2.length (q0j (vv (q0a t) wd 0 0).2))/\Below w w w'):=by
  show z7l ds wd w=_;have h3:=(j3h (wd:=wd) (c:=0) (z9g ht) (Nat.zero_le _)).1
  funext e w'
  unfold z7l;rw[e0,e1,e2,q1l,<-R];have h4:((vv (q0a t) wd 0 0).1.1:Int)=(crs (q0a t) wd 0 0).o:=by rw[h3]
  have h5:((vv (q0a t) wd 0 0).1.2:Int)=(crs (q0a t) wd 0 0).l:=by rw[h3]
  rw[h4,h5]
 rw[HR.o];have Af:0<(q0a t).length:=by rw[q2y];exact t.pos
 have Ag:(q0a t).length=ds.length:=by rw[q2y,hd];rfl
 have h0:q3f ds=0:=by rw[hd];exact z1a ht (by rw[<-hd];exact hl)
 have Am:t.sz<=400:=by unfold Tr.sz;rw[<-hd];exact hl
 have Av:ds≠[]:=by rw[hd];have:=t.pos;exact List.length_pos_iff.1 this
 have HN:Hid (q1p w a ds):=hN;have H0:Hid (q3f ds=0):=h0;have Ab:Hid (∀sb g mb,j1v sb g mb wd (q0a t) 0 0):=fun sb g mb=>v4u sb g mb ht Am hw (q0a t).length 0 0 (by omega) (Nat.zero_le _) (Nat.zero_le _)
 have u:Hid (∀sb g mb(W:World)S,Inv sb g mb wd (q0a t) W S->S 0 0=true->Calls prog 110 #[.pointer (some ⟨sb,0,none⟩)] W fun e w'=>(∃a cap,e=.returned (.slice a (vv (q0a t) wd 0 0).2.length cap)/\w'.ownsRow W.heap.size 3 1 (.slice a (vv (q0a t) wd 0 0).2.length cap) (vv (q0a t) wd 0 0).2.length (q0j (vv (q0a t) wd 0 0).2))/\Below W W w'):=fun sb g mb W S hI hS=>k0f sb g mb ht Am hw W S hI hS
 have HD:Hid (ds=t.N):=hd;have z:Hid ((q0a t).length=ds.length):=Ag
 have At:Hid ((vv (q0a t) wd 0 0).2.length<=9223372036854775807):=by
  show(vv (q0a t) wd 0 0).2.length<=_
  obtain⟨a',ha⟩:=k0h t wd;have hb:=q9w t wd;rw[q3o,<-R]at hb;have h1:=(q6d hb).1;have h2:=q8i t _ h1;rw[<-hd]at h2;omega
 have y:Hid (∀(s:Nat)(W:World),q1i s W a ds->s<W.heap.size->Calls prog 108 #[.slice a ds.length cap,.int .i64 wd] W fun e w'=>e=.returned (.agg #[.slice (some ⟨W.heap.size+1,0,none⟩) ds.length ds.length,.int .i64 wd])/\PwR w' (W.heap.size+1) ds.length (fun j=>q2 (q1o (q0a t) j))/\Below W W w'):=fun s W h1 h2=>k0j ds t HD.o ht hl a cap s wd hc W h1 h2
 have Ay:=@run_makeMap prog;have A0:¬(wd:Int)<0:=by omega
 have A1:¬(100:Int)<(wd:Int):=by omega
 clear hN h0 hd Ag e0 e1 e2 R HR;go_in;go_wp2_with fail;refine(q3e ds a cap _ (HN.o.W ((Below.refl _ w).alloc Zl _))).mono ?_;rintro e D⟨rfl,n⟩;rw[H0.o,q1l];have Ak:q7u D w.heap.size:=q7u.kept ⟨_,_,heap_alloc_new w (.cells #[.int .i64 0,.int .i64 0] 54)⟩ (n.block _ (by simp));have k0:D.cell? ⟨w,0,none⟩=some (.int .i64 0):=((q1y n).1 _ _ (by simp)).trans (by simp[go_sem]);have k1:D.cell? ⟨w,1,none⟩=some (.int .i64 0):=((q1y n).1 _ _ (by simp)).trans (by simp[go_sem]);have V:Hid (Below w w D):=((Below.refl _ w).alloc Zl _).trans (n.mono (by simp));have i:w.heap.size<D.heap.size:=by have:=n.size;simp at this;omega
 have O:Hid (D.cell? ⟨w,0,none⟩=some (.int .i64 0)/\D.cell? ⟨w,1,none⟩=some (.int .i64 0)/\q7u D w.heap.size):=⟨k0,k1,Ak⟩;clear Ak k0 k1 n;obtain⟨s,hs,Aj⟩:=(HN.o.W V.o).s Av;have Aq:Hid (q1i s D a ds):=Aj;clear Aj;go_wp2_with fail;refine(y.o s D Aq.o hs).mono ?_;rintro e B⟨rfl,f,K⟩;have q:Hid (Below w w B):=V.o.trans (K.mono V.o.size);have Az:=K.size;have Au:D.heap.size+1<B.heap.size:=f.row.lt;have P:Hid (B.cell? ⟨w,0,none⟩=some (.int .i64 0)/\B.cell? ⟨w,1,none⟩=some (.int .i64 0)/\q7u B w.heap.size):=⟨(K.cell (p:=⟨w,0,none⟩) i).trans O.o.1,(K.cell (p:=⟨w,1,none⟩) i).trans O.o.2.1,O.o.2.2.kept (K.block _ i)⟩
 have x:Hid (Inv (B.heap.size+1) (D.heap.size+1) B.heap.size wd (q0a t) ((B.alloc (.map #[] 0)).alloc (.cells #[.slice (some ⟨D.heap.size+1,0,none⟩) ds.length ds.length,.int .i64 wd,.map (some B.heap.size)] 170)) (fun _ _=>false)):=by
  refine⟨⟨?_,?_,?_⟩,?_,?_,fun p c h=>by cases h⟩
  ·rw[z.o];simp[go_sem]
  ·simp[go_sem]
  ·rw[z.o];exact f.kept ((Below.heap_alloc _ _ _ (by simp;omega)).trans (Below.heap_alloc _ _ _ Au))
  ·simp[go_sem]
  ·exact(Mem.made B _).kept (Below.heap_alloc _ _ _ (by simp))
 have Aa:Hid (∀W S,Inv (B.heap.size+1) (D.heap.size+1) B.heap.size wd (q0a t) W S->Calls prog 109 #[.pointer (some ⟨B.heap.size+1,0,none⟩),.agg #[.int .i64 0,.int .i64 0]] W fun e w'=>e=.returned (.agg #[.int .i64 (crs (q0a t) wd 0 0).o,.int .i64 (crs (q0a t) wd 0 0).l,.int .i64 (crs (q0a t) wd 0 0).ch,.int .i64 (crs (q0a t) wd 0 0).np,.int .i64 (crs (q0a t) wd 0 0).nc])/\Left (B.heap.size+1) (D.heap.size+1) B.heap.size wd (q0a t) S 0 0 0 W w'):=fun W S h=>by
  have:=Ab.o _ _ _ W S h
  rw[if_pos Af]at this;exact this
 clear f K;go_wp2_with fail;refine(Aa.o _ _ x.o).mono ?_;rintro e H⟨rfl,L,S',hI,_,_,Ah⟩;have C:((B.alloc (.map #[] 0)).alloc (.cells #[.slice (some ⟨D.heap.size+1,0,none⟩) ds.length ds.length,.int .i64 wd,.map (some B.heap.size)] 170)).heap.size=B.heap.size+1+1:=by simp
 have Aw:=L.size;rw[C]at Aw;have Ad:Below w w ((B.alloc (.map #[] 0)).alloc (.cells #[.slice (some ⟨D.heap.size+1,0,none⟩) ds.length ds.length,.int .i64 wd,.map (some B.heap.size)] 170)):=k0g (k0g q.o _) _;have X:Hid (Below w w H):=Ad.trans ((L.mono (B':=w.heap.size) (by rw[C];omega)).W (by omega))
 have Q:Hid (H.cell? ⟨w,0,none⟩=some (.int .i64 0)/\H.cell? ⟨w,1,none⟩=some (.int .i64 0)/\q7u H w.heap.size):=
  ⟨(L.cell (p:=⟨w,0,none⟩) (by rw[C];simp;omega) (by simp;omega)).trans (ka (ka P.o.1 _) _),(L.cell (p:=⟨w,1,none⟩) (by rw[C];simp;omega) (by simp;omega)).trans (ka (ka P.o.2.1 _) _),P.o.2.2.kept ((L.block _ (by rw[C];omega) (by omega)).trans ((Below.heap_alloc _ _ _ (by simp;omega)).trans (Below.heap_alloc _ _ _ (by omega))))⟩
 have Y:Hid (Inv (B.heap.size+1) (D.heap.size+1) B.heap.size wd (q0a t) H S'/\S' 0 0=true):=⟨hI,Ah Af⟩;clear L hI Ah Ad C x Aa Ab y q P O;generalize Ai:crs (q0a t) wd 0 0=k at *;have Ap:Hid (crs (q0a t) wd 0 0=k):=Ai;clear Ai;go_wp2_with fail;refine(u.o _ _ _ _ _ (Y.o.1.alloc _) Y.o.2).mono ?_;rintro e J⟨⟨U,wc,rfl,A⟩,E⟩;obtain⟨_,_,Ax,Ae,_⟩:=z9b A;have d:Below w w J:=(k0g X.o _).trans (E.mono (by have:=X.o.size;simp;omega));have r:Hid (Below w w J):=d;have G:H.heap.size<J.heap.size:=by have:=E.size;simp at this;omega
 have m:=X.o.size
 have Z:Hid (J.cell? ⟨w,0,none⟩=some (.int .i64 0)/\J.cell? ⟨w,1,none⟩=some (.int .i64 0)/\q7u J w.heap.size):=
  ⟨(E.cell (p:=⟨w,0,none⟩) (by simp;omega)).trans (ka Q.o.1 _),(E.cell (p:=⟨w,1,none⟩) (by simp;omega)).trans (ka Q.o.2.1 _),Q.o.2.2.kept ((E.block _ (by simp;omega)).trans (Below.heap_alloc _ _ _ (by omega)))⟩
 have u0:J.drew.cell? ⟨H,0,none⟩=some (.int .i64 k.o):=(E.cell (p:=⟨H,0,none⟩) (by simp)).trans (by simp[go_sem]);have u1:J.drew.cell? ⟨H,1,none⟩=some (.int .i64 k.l):=(E.cell (p:=⟨H,1,none⟩) (by simp)).trans (by simp[go_sem])
 have As:Hid (Calls prog 111 #[.slice a ds.length cap,.slice U (vv (q0a t) wd 0 0).2.length wc] J.drew fun e w'=>e=.returned (.string (shS (q5y ds (vv (q0a t) wd 0 0).2)))/\Below J.drew.heap.size J.drew w'):=
  j2v ds (vv (q0a t) wd 0 0).2 a U cap wc hc Ax At.o J.drew (HN.o.W d.drew) (q7r.W Ae (Below.refl _ J).drew)
 have Ar:Hid (∀W:World,(∀b,H.heap.size<=b->b<J.heap.size->W.heap[b]?=J.heap[b]?)->W.ownsRow w.heap.size 3 1 (.slice U (vv (q0a t) wd 0 0).2.length wc) (vv (q0a t) wd 0 0).2.length (q0j (vv (q0a t) wd 0 0).2)):=fun W hW=>by
  have h1:=z0p (w':=W) A fun b hb=>hW b (by have:=v8c A hb;simp at this;omega) (z0q A hb).1
  exact v4r h1 (by simp;omega)
 have M:Hid (w.heap.size<H.heap.size):=(show w.heap.size<H.heap.size by omega);clear A Ae d E u Y Q;generalize Ao:(vv (q0a t) wd 0 0).2=us at *;generalize An:shS (q5y ds us)=tx at *;have Ac:Hid ((vv (q0a t) wd 0 0).2=us/\shS (q5y ds us)=tx):=⟨Ao,An⟩;clear Ao An;go_wp2_with fail
 go_region_held3 (fun w'=>w'.cell? ⟨H,0,none⟩=some (.int .i64 k.o)/\w'.cell? ⟨H,1,none⟩=some (.int .i64 k.l))
  (first|with_reducible exact⟨u0,u1⟩|with_reducible exact⟨u07,u17⟩|with_reducible exact⟨(cso (.inl (Nat.ne_of_lt M.o))).trans ((cso (.inl (Nat.ne_of_lt M.o))).trans u07),(cso (.inl (Nat.ne_of_lt M.o))).trans ((cso (.inl (Nat.ne_of_lt M.o))).trans u17)⟩)
  ((go_at_call 111;refine As.o.mono ?_;rintro e w7⟨rfl,I⟩;have u07:=(I.cell (p:=⟨H,0,none⟩) G).trans u0;have u17:=(I.cell (p:=⟨H,1,none⟩) G).trans u1;have k0:=(I.cell (p:=⟨w,0,none⟩) (Nat.lt_of_le_of_lt m G)).trans Z.o.1;have k1:=(I.cell (p:=⟨w,1,none⟩) (Nat.lt_of_le_of_lt m G)).trans Z.o.2.1;have Al:=Z.o.2.2.kept (I.block w.heap.size (Nat.lt_of_le_of_lt m G));have f0:w7.frozen? ⟨w,0,none⟩=false:=Al.frozen;have f1:w7.frozen? ⟨w,1,none⟩=false:=Al.frozen))
 all_goals
  go_wp2;refine bodyPost_ret (v:=.tuple #[.string tx,.slice U us.length wc,.agg #[.int .i64 k.o,.int .i64 k.l],.nilIface]) (by simp[results,Tryz.results71,go_sem,k0,k1]) rfl ?_;rw[Ac.o.1,Ac.o.2,Ap.o];refine⟨⟨U,wc,rfl,Ar.o _ fun b hb1 hb2=>?_⟩,?_⟩
  ·have h5:=M.o;exact(Below.heap_setCell _ _ _ _ (by simp;omega)).trans ((Below.heap_setCell _ _ _ _ (by simp;omega)).trans (I.block b hb2))
  ·exact((r.o.drew.trans (I.mono r.o.size)).setCell (p:=⟨w,0,none⟩) Zl _).setCell (p:=⟨w,1,none⟩) Zl _
theorem j2f(ds:List Nd)(wd:Int)(a:Option Addr)(cap:Nat)(hc:ds.length<=cap)(w:World)(hN:q1p w a ds):
  Calls prog 71 #[.slice a ds.length cap,.int .i64 wd] w fun e w'=>z7l ds wd w e w':=by
 by_cases h:q3f ds=0
 ·by_cases A:wd<0\/100<wd
  ·exact k8m ds wd a cap w hN h A
  ·obtain⟨n,rfl⟩:∃n:Nat,wd=n:=⟨wd.toNat,by omega⟩;exact v8z ds _ (q3u h) (q9h h) (q5d h).1 n (by omega) a cap hc w hN
 ·exact v1p ds wd a cap w hN h
def Bx(w:World)(b:Nat)(o l:Int):Prop:=w.cell? ⟨b,0,none⟩=some (.int .i64 o)/\w.cell? ⟨b,1,none⟩=some (.int .i64 l)
theorem Bx.W{w w':World}{b:Nat}{o l:Int}(h:Bx w b o l)(hb:Below w w w'):Bx w' b o l:=
 ⟨(hb.cell (p:=⟨b,0,none⟩) (World.block_lt_of_cell? w ⟨b,0,none⟩ h.1)).trans h.1,(hb.cell (p:=⟨b,1,none⟩) (World.block_lt_of_cell? w ⟨b,0,none⟩ h.1)).trans h.2⟩
theorem Bx.alloc{w:World}{b:Nat}{o l:Int}(h:Bx w b o l)(O:Obj):Bx (w.alloc O) b o l:=⟨ka h.1 O,ka h.2 O⟩
theorem Bx.new(w:World)(o l:Int)(T:TypeId):Bx (w.alloc (.cells #[.int .i64 o,.int .i64 l] T)) w.heap.size o l:=⟨by simp[go_sem],by simp[go_sem]⟩
theorem Bx.drew{w:World}{b:Nat}{o l:Int}(h:Bx w b o l):Bx w.drew b o l:=h
def q5s(G:Nat)(w:World)(a:Option Addr)(ws:List Int):Prop:=
 ∀i(h:i<ws.length),∃b o,a=some ⟨b,o,none⟩/\b<w.heap.size/\G<=b/\w.cell? ⟨b,o+i,none⟩=some (.int .i64 ws[i])
theorem q5s.ints{G:Nat}{w:World}{a:Option Addr}{ws:List Int}(h:q5s G w a ws):q7r w a ws:=by
 intro i B;obtain⟨b,o,e,A,_,c⟩:=h i B;exact⟨b,o,e,A,c⟩
theorem q5s.W{G:Nat}{w w':World}{a:Option Addr}{ws:List Int}(h:q5s G w a ws)(hb:Below w w w'):q5s G w' a ws:=by
 intro i C;obtain⟨b,o,e,A,B,c⟩:=h i C;exact⟨b,o,e,Nat.lt_of_lt_of_le A hb.size,B,(hb.cell (p:=⟨b,o+i,none⟩) A).trans c⟩
theorem q5s.far2{G g:Nat}{w:World}{a:Option Addr}{ws:List Int}{v v':Value}(h:q5s G w a ws)(hg:g<G):q5s G ((w.setCell ⟨g,0,none⟩ v).setCell ⟨g,1,none⟩ v') a ws:=by
 intro i D;obtain⟨b,o,e,B,C,c⟩:=h i D;have E:w.heap.size<=((w.setCell ⟨g,0,none⟩ v).setCell ⟨g,1,none⟩ v').heap.size:=(((Below.refl 0 w).setCell (p:=⟨g,0,none⟩) (Nat.zero_le _) v).setCell (p:=⟨g,1,none⟩) (Nat.zero_le _) v').size;have A:g≠b:=by omega
 exact⟨b,o,e,Nat.lt_of_lt_of_le B E,C,(cso (.inl A)).trans ((cso (.inl A)).trans c)⟩
theorem q5s.drew{G:Nat}{w:World}{a:Option Addr}{ws:List Int}(h:q5s G w a ws):q5s G w.drew a ws:=h
theorem q5s.down{G G':Nat}{w:World}{a:Option Addr}{ws:List Int}(h:q5s G w a ws)(hg:G'<=G):q5s G' w a ws:=by
 intro i C;obtain⟨b,o,e,A,B,c⟩:=h i C;exact⟨b,o,e,A,Nat.le_trans hg B,c⟩
def k8k(G:Nat)(w:World)(a:Option Addr)(ls:List (List Int)):Prop:=
 ∀i(h:i<ls.length),∃b o a' c',a=some ⟨b,o,none⟩/\b<w.heap.size/\w.cell? ⟨b,o+i,none⟩=some (.slice a' ls[i].length c')/\ls[i].length<=c'/\q5s G w a' ls[i]
theorem j1e{G:Nat}{w:World}{a:Option Addr}{ls:List (List Int)}(h:∀g,(∀k,g=some k->k<G)->q1x g w a ls):k8k G w a ls:=by
 intro i J;obtain⟨b,o,K,L,e,P,_,c,Q,R,_⟩:=h none (fun _ q=>by cases q) i J;refine⟨b,o,K,L,e,P,c,Q,fun j hj=>?_⟩;obtain⟨H,U,I,O,_,M⟩:=R j hj;refine⟨H,U,I,O,?_,M⟩;apply Nat.le_of_not_lt;intro E;obtain⟨W,Y,V,N,B,_,_,A,_,D,_⟩:=h (some H) (fun k q=>by cases q;exact E) i J;rw[e]at B;simp only[Option.some.injEq,Addr.mk.injEq,and_true]at B;obtain⟨rfl,rfl⟩:=B;rw[c]at A;simp only[Option.some.injEq,Value.slice.injEq,true_and]at A;obtain⟨X,Z,C,_,S,_⟩:=D j hj;rw[<-A.1,I]at C;simp only[Option.some.injEq,Addr.mk.injEq,and_true]at C;exact S (by rw[C.1])
def BOk(g:Nat)(t:Tr)(wd k b:Nat)(tx wy:Value)(w:World):Prop:=
 (k=0/\tx=.string ⟨#[]⟩/\wy=.slice none 0 0/\Bx w b 0 0)\/(∃u wa wc,fm ((t.ways.take k).map fun u=>(t.cst wd u,u))=some (t.cst wd u,u)/\tx=.string (shS (t.show u))/\wy=.slice wa u.length wc/\q5s (g+1) w wa u/\Bx w b (t.cst wd u).1 (t.cst wd u).2)
theorem j2c(t:Tr)(ht:t.Wf)(ds:List Nd)(hd:ds=t.N)(hl:ds.length<=400)(a:Option Addr)(cap:Nat)(w:World)(hN:q1p w a ds):
  Calls prog 63 #[.slice a ds.length cap] w fun e w'=>((t.ways.length<=300/\∃a' c',e=.returned (.tuple #[.slice a' t.ways.length c',.bool true])/\k8k w.heap.size w' a' t.ways)\/(300<t.ways.length/\e=.returned (.tuple #[.slice none 0 0,.bool false])))/\Below w w w':=by
 have I:∀O:Obj,Below w w (w.alloc O):=fun O=>(Below.refl _ w).alloc Zl O
 have G:Hid (Calls prog 94 #[.slice a ds.length cap,.int .i64 0,.slice (some ⟨w,0,none⟩) 1 1,.int .i64 300] (w.alloc (.cells #[.slice none 0 0] 45)) fun e w'=>∃a' c',e=.returned (.slice a' (t.tl [[]]).length c')/\k8k w.heap.size w' a' (t.tl [[]])/\Below w w w'):=by
  have P:∀H,(∀k,H=some k->k<w.heap.size)->q1x H (w.alloc (.cells #[.slice none 0 0] 45)) (some ⟨w,0,none⟩) [[]]:=by
   intro H J i Y;obtain rfl:i=0:=by simp at Y;omega
   exact⟨w.heap.size,0,none,0,rfl,by simp,fun q=>by have:=J _ q.symm;omega,by simp[go_sem],by simp,fun j hj=>by simp at hj,fun _=>⟨rfl,rfl⟩⟩
  refine(z0v ds a cap hl t ht (by rw[<-hd];exact hl) 0 [] [[]] (some ⟨w,0,none⟩) 1 0 _ (by rw[<-hd];simp) (hN.W (I _)) (P none (fun _ h=>by cases h)) (by simp) (by simp) (by simp) (by rw[<-hd];omega)).mono ?_;rintro e w'⟨a',c',rfl,_,B,C⟩;exact⟨a',c',rfl,j1e fun g hg=>B g (fun k q=>by have:=hg k q;simp;omega) (P g hg),(I _).trans (C.mono (by simp))⟩
 have A:=y5n t;generalize X:t.tl [[]]=L at G A;clear X hd hN I;rcases A with⟨D,M⟩|⟨D,M⟩
 ·subst M;have U:¬(300:Int)<(t.ways.length:Int):=by omega
  have E:Hid (t.ways.length<=300):=D;go_in;go_wp2_with fail;refine G.o.mono ?_;rintro e Q⟨K,S,rfl,B,C⟩;have R:Hid (k8k w.heap.size Q K t.ways):=B;clear B;go_wp2;go_ret2;exact⟨.inl ⟨E.o,_,_,rfl,R.o⟩,C⟩
 ·have V:(300:Int)<(L.length:Int):=by omega
  have E:Hid (300<t.ways.length):=D;clear D;go_in;go_wp2_with fail;refine G.o.mono ?_;rintro e Q⟨K,S,rfl,B,C⟩;clear B;go_wp2;go_ret2;exact⟨.inr ⟨E.o,rfl⟩,C⟩
def BOR(t:Tr)(wd:Nat)(w:World)(e:Ending)(w':World):Prop:=
 ((t.ways.length<=300/\∃u wa wc,t.best wd=some (t.cst wd u,u)/\e=.returned (.tuple #[.string (shS (t.show u)),.slice wa u.length wc,.agg #[.int .i64 (t.cst wd u).1,.int .i64 (t.cst wd u).2],.bool true])/\q5s w.heap.size w' wa u)\/(300<t.ways.length/\e=.returned (.tuple #[.string ⟨#[]⟩,.slice none 0 0,.agg #[.int .i64 0,.int .i64 0],.bool false])))/\Below w w w'
theorem v5x{t:Tr}(ht:t.Wf){ds:List Nd}(hd:ds=t.N)(hl:ds.length<=400)(wd:Nat){u:List Int}(hu:u∈t.ways):
  shE (t.show u)=0/\u.length<=400/\∀W:World,Calls prog 20 #[.string (shS (t.show u)),.int .i64 wd] W fun e w'=>e=.returned (.agg #[.int .i64 (t.cst wd u).1,.int .i64 (t.cst wd u).2])/\Below W W w':=by
 obtain⟨s,A⟩:=(z4v t u).2 hu;have D:q5y ds u=.ok s:=by rw[z2g ht hd hl,A]
 obtain⟨G,C⟩:=j8x D;have E:t.txt u=s:=by rw[Tr.txt,A]
 refine⟨by rw[A];rfl,C,fun W=>?_⟩;have B:(shS (t.show u)).data.toList=s:=by rw[A];simp[shS]
 have:=j8u (shS (t.show u)) wd W (by rw[Lib.size_eq,B];omega)
 rw[B,v9r]at this;rw[Tr.cst,E];exact this
theorem k8l(t:Tr)(ht:t.Wf)(ds:List Nd)(hd:ds=t.N)(hl:ds.length<=400)(wd:Nat)(a:Option Addr)(cap:Nat)(w:World)(hN:q1p w a ds):
  Calls prog 27 #[.slice a ds.length cap,.int .i64 wd] w fun e w'=>BOR t wd w e w':=by
 have HN:Hid (q1p w a ds):=hN;have HO:Hid (∀(W:World),q1p W a ds->Calls prog 63 #[.slice a ds.length cap] W _):=fun W h1=>j2c t ht ds hd hl a cap W h1
 have HV:Hid (∀k(h:k<t.ways.length),(∀(W:World)I M,t.ways[k].length<=M->q1p W a ds->q7r W I t.ways[k]->Calls prog 64 #[.slice a ds.length cap,.slice I t.ways[k].length M] W fun e w'=>e=.returned (.tuple #[.string (shS (t.show t.ways[k])),.int .i64 0])/\Below W W w')
   /\∀W:World,Calls prog 20 #[.string (shS (t.show t.ways[k])),.int .i64 wd] W fun e w'=>e=.returned (.agg #[.int .i64 (t.cst wd t.ways[k]).1,.int .i64 (t.cst wd t.ways[k]).2])/\Below W W w'):=fun k h=>by
  obtain⟨h1,h2,Y⟩:=v5x ht hd hl wd (List.getElem_mem h);refine⟨fun W I M k1 k2 k3=>?_,Y⟩
  have:=j0o t ht ds hd hl a I cap M t.ways[k] k1 (by omega) W k2 k3
  rw[h1]at this;exact this
 have A1:Hid (0<t.ways.length):=by
  obtain⟨b,hb⟩:=k0h t wd;exact List.length_pos_of_mem (q6d hb).1
 clear hN ht hd hl;go_in;have m:=Bx.new w 0 0 54;have hf:q7u (w.alloc (.cells #[.int .i64 0,.int .i64 0] 54)) w.heap.size:=⟨_,_,heap_alloc_new w _⟩;go_wp2_with fail;refine(HO.o _ (HN.o.W (k0g Zb _))).mono ?_;rintro e A⟨h1,b1⟩;have B1:Below w w A:=z5w Zb Zl b1;have Ac:=m.W b1;have O:q7u A w.heap.size:=hf.kept (b1.block _ (by simp));have C:w.heap.size<A.heap.size:=O.lt;clear m hf b1;rcases h1 with⟨Ag,a1,c1,rfl,Au⟩|⟨Ag,rfl⟩
 ·have n:k8k (w.heap.size+1) A a1 t.ways:=by simpa using Au
  have A2:Hid (k8k (w.heap.size+1) A a1 t.ways):=n;have Am:Hid (Bx A w.heap.size 0 0/\q7u A w.heap.size):=⟨Ac,O⟩;have x:Hid (t.ways.length<=300):=Ag;clear Au n Ac O;have Av:=Bx.new A 0 0 54;have Ar:q7u (A.alloc (.cells #[.int .i64 0,.int .i64 0] 54)) A.heap.size:=⟨_,_,heap_alloc_new A _⟩;go_wp2
  go_loopw [10,11,13] (fun tx wy i wr=>Below w w wr/\Below A A wr/\q7u wr A.heap.size/\∃k:Nat,k<=t.ways.length/\i=.int .i64 k/\BOk w.heap.size t wd k A.heap.size tx wy wr) (fun _ _ i _=>t.ways.length-(intOf i).toNat)
  case atStart=>exact⟨k0g B1 _,(Below.refl _ A).alloc Zl _,Ar,0,Nat.zero_le _,rfl,.inl ⟨rfl,rfl,rfl,Av⟩⟩
  case round=>
   clear Av Ar;obtain⟨Z,B,hF,k,hk,rfl,Aq⟩:=hrel;have R:Hid (BOk w.heap.size t wd k A.heap.size _ _ wr):=Aq;clear Aq;by_cases Ai:k<t.ways.length
   ·obtain⟨hS,hC⟩:=HV.o k Ai;obtain⟨z,o0,y,M,ea,Ap,cw,Ae,Ab⟩:=A2.o k Ai;subst ea;have cr:wr.cell? ⟨z,o0+k,none⟩=some (.slice y t.ways[k].length M):=(B.cell (p:=⟨z,o0+k,none⟩) Ap).trans cw;have HI:Hid (q7r wr y t.ways[k]):=Ab.ints.W B;have r:Hid (q5s (w.heap.size+1) A y t.ways[k]):=Ab;have Af:=y0b (f:=fun u=>(t.cst wd u,u)) Ai;clear cw Ab;generalize t.ways[k]=u at cr hS hC HI r Af Ae;generalize hs:shS (t.show u)=s at hS hC;have o:Hid (fm ((t.ways.take (k+1)).map fun u=>(t.cst wd u,u))=q6g (fm ((t.ways.take k).map fun u=>(t.cst wd u,u))) (some (t.cst wd u,u))):=Af;clear Af;generalize hK:t.cst wd u=K at hC;have D:Hid (shS (t.show u)=s/\t.cst wd u=K):=⟨hs,hK⟩;have An:Hid (∀(W:World)I M,u.length<=M->q1p W a ds->q7r W I u->Calls prog 64 #[.slice a ds.length cap,.slice I u.length M] W fun e w'=>e=.returned (.tuple #[.string s,.int .i64 0])/\Below W W w'):=hS;have Aj:Hid (∀W:World,Calls prog 20 #[.string s,.int .i64 wd] W fun e w'=>e=.returned (.agg #[.int .i64 K.1,.int .i64 K.2])/\Below W W w'):=hC;have hi:(k:Int)<(t.ways.length:Int):=by omega
    have j:Hid (q7u wr A.heap.size):=hF;have l:z<wr.heap.size:=Nat.lt_of_lt_of_le Ap B.size;clear hs hK hS hC hF;rcases R.o with⟨G,rfl,rfl,Q⟩|⟨u0,I,wc,H,rfl,rfl,U,Q⟩
    ·have Az:Hid (k=0):=G;have A5:((k:Int)==0)=true:=by simp[G]
     have HX:Hid (Bx wr A.heap.size 0 0):=Q;clear Q R G;go_wp2_with fail;refine(An.o _ _ _ Ae (HN.o.W Z) HI.o).mono ?_;rintro e w2⟨rfl,b2⟩;have H2:Hid (Below wr wr w2):=b2;clear b2;go_wp2_with fail;refine(Aj.o _).mono ?_;rintro e E⟨rfl,b3⟩;have Y:=q0d H2.o Zl b3;have X:Below wr wr (E.alloc (.cells #[.int .i64 K.1,.int .i64 K.2] 54)):=k0g Y _;have P:q7u (E.alloc (.cells #[.int .i64 K.1,.int .i64 K.2] 54)) A.heap.size:=j.o.kept (X.block _ j.o.lt);have V:A.heap.size<E.heap.size:=Nat.lt_of_lt_of_le j.o.lt Y.size;have Ad:=HX.o.W X;have Aa:=Bx.new E K.1 K.2 54;have L:Hid (Below wr wr (E.alloc (.cells #[.int .i64 K.1,.int .i64 K.2] 54))):=X;clear b3 Y H2;obtain⟨y0,y1⟩:=Ad;obtain⟨e0,e1⟩:=Aa;have f0:(E.alloc (.cells #[.int .i64 K.1,.int .i64 K.2] 54)).frozen? ⟨A,0,none⟩=false:=P.frozen;have f1:(E.alloc (.cells #[.int .i64 K.1,.int .i64 K.2] 54)).frozen? ⟨A,1,none⟩=false:=P.frozen;have d4:(E.alloc (.cells #[.int .i64 K.1,.int .i64 K.2] 54)).cell? ⟨z,o0+k,none⟩=some (.slice y u.length M):=(X.cell (p:=⟨z,o0+k,none⟩) l).trans cr;have Ax:Hid (q7u (E.alloc (.cells #[.int .i64 K.1,.int .i64 K.2] 54)) A.heap.size):=P;have As:E.heap.size≠A.heap.size:=Nat.ne_of_gt V;clear X P cr
     go_upto_region 12 with fail
     generalize E.alloc (.cells #[.int .i64 K.1,.int .i64 K.2] 54)=w4 at *;go_wp2
     go_roundw
     case rel=>
      refine⟨((Z.trans (L.o.mono Z.size)).setCell (p:=⟨A,0,none⟩) (Nat.le_of_lt C) _).setCell (p:=⟨A,1,none⟩) (Nat.le_of_lt C) _,((B.trans (L.o.mono B.size)).setCell (p:=⟨A,0,none⟩) Zl _).setCell (p:=⟨A,1,none⟩) Zl _,Ax.o.set.set,k+1,by omega,by go_num,.inr ⟨u,y,M,?_,by rw[D.o.1],rfl,?_,?_⟩⟩
      ·rw[o.o,Az.o];rfl
      ·exact r.o.W (((B.trans (L.o.mono B.size)).setCell (p:=⟨A,0,none⟩) Zl _).setCell (p:=⟨A,1,none⟩) Zl _)
      ·rw[D.o.2];exact⟨(cso (.inr (by omega))).trans (css y0),css ((cso (.inr (by omega))).trans y1)⟩
     case measure=>simp[intOf];omega
    ·have G:k≠0:=by rintro rfl;simp[fm]at H
     have A5:((k:Int)==0)=false:=by simp[G]
     have Ak:Hid (fm ((t.ways.take k).map fun u=>(t.cst wd u,u))=some (t.cst wd u0,u0)):=H;have q:Hid (q5s (w.heap.size+1) wr I u0):=U;generalize At:shS (t.show u0)=s0;generalize Ao:t.cst wd u0=K0 at Q;have J:Hid (shS (t.show u0)=s0/\t.cst wd u0=K0):=⟨At,Ao⟩;have HX:Hid (Bx wr A.heap.size K0.1 K0.2):=Q;clear Q R H U At Ao G;cases Ah:decide (q2w K K0)
     all_goals
      have Al:=(show Hid (decide (q2w K K0)=_)from Ah)
      have A0:Hid (∀W,Calls prog 65 #[.agg #[.int .i64 (K.1:Int),.int .i64 (K.2:Int)],.agg #[.int .i64 (K0.1:Int),.int .i64 (K0.2:Int)]] W fun e w'=>e=.returned (.bool _)/\Below W W w'):=fun W=>by
       have:=j8w K K0 W
       rw[Ah]at this;exact this
      clear Ah;go_wp2_with fail;refine(An.o _ _ _ Ae (HN.o.W Z) HI.o).mono ?_;rintro e w2⟨rfl,b2⟩;have H2:Hid (Below wr wr w2):=b2;clear b2;go_wp2_with fail;refine(Aj.o _).mono ?_;rintro e E⟨rfl,b3⟩;have Y:=q0d H2.o Zl b3;have X:Below wr wr (E.alloc (.cells #[.int .i64 K.1,.int .i64 K.2] 54)):=k0g Y _;have P:q7u (E.alloc (.cells #[.int .i64 K.1,.int .i64 K.2] 54)) A.heap.size:=j.o.kept (X.block _ j.o.lt);have V:A.heap.size<E.heap.size:=Nat.lt_of_lt_of_le j.o.lt Y.size;have Ad:=HX.o.W X;have Aa:=Bx.new E K.1 K.2 54;have L:Hid (Below wr wr (E.alloc (.cells #[.int .i64 K.1,.int .i64 K.2] 54))):=X;clear b3 Y H2;obtain⟨x0,x1⟩:=Ad;obtain⟨e0,e1⟩:=Aa;go_wp2_with fail;refine(A0.o _).mono ?_;rintro e w5⟨rfl,b5⟩;have h5:=q0d L.o Zl b5;have A4:=HX.o.W h5;have A3:=(Bx.new E K.1 K.2 54).W b5;have c:q7u w5 A.heap.size:=j.o.kept (h5.block _ j.o.lt);have d5:w5.cell? ⟨z,o0+k,none⟩=some (.slice y u.length M):=(h5.cell (p:=⟨z,o0+k,none⟩) l).trans cr;obtain⟨y0,y1⟩:=A4;obtain⟨g0,g1⟩:=A3;have f0:w5.frozen? ⟨A,0,none⟩=false:=c.frozen;have f1:w5.frozen? ⟨A,1,none⟩=false:=c.frozen;have As:E.heap.size≠A.heap.size:=Nat.ne_of_gt V;have g:Hid (Below wr wr w5/\q7u w5 A.heap.size):=⟨h5,c⟩;clear X P cr x0 x1 e0 e1 b5 h5 c L;go_wp2
      go_roundw
     ·case rel=>
       refine⟨Z.trans (g.o.1.mono Z.size),B.trans (g.o.1.mono B.size),g.o.2,k+1,by omega,by go_num,.inr ⟨u0,I,wc,?_,by rw[J.o.1],rfl,q.o.W g.o.1,by rw[J.o.2];exact⟨y0,y1⟩⟩⟩;rw[o.o,Ak.o];show some (z9x _ _)=_;rw[z9x,if_neg (by rw[D.o.2,J.o.2];exact of_decide_eq_false Al.o)]
     ·case measure=>simp[intOf];omega
     ·case rel=>
       refine⟨((Z.trans (g.o.1.mono Z.size)).setCell (p:=⟨A,0,none⟩) (Nat.le_of_lt C) _).setCell (p:=⟨A,1,none⟩) (Nat.le_of_lt C) _,((B.trans (g.o.1.mono B.size)).setCell (p:=⟨A,0,none⟩) Zl _).setCell (p:=⟨A,1,none⟩) Zl _,g.o.2.set.set,k+1,by omega,by go_num,.inr ⟨u,y,M,?_,by rw[D.o.1],rfl,?_,?_⟩⟩
       ·rw[o.o,Ak.o];show some (z9x _ _)=_;rw[z9x,if_pos (by rw[D.o.2,J.o.2];exact of_decide_eq_true Al.o)]
       ·exact r.o.W (((B.trans (g.o.1.mono B.size)).setCell (p:=⟨A,0,none⟩) Zl _).setCell (p:=⟨A,1,none⟩) Zl _)
       ·rw[D.o.2];exact⟨(cso (.inr (by omega))).trans (css y0),css ((cso (.inr (by omega))).trans y1)⟩
     ·case measure=>simp[intOf];omega
   ·have A6:k=t.ways.length:=by omega
    subst A6;have A9:Hid (Below A A wr):=B;have m:=Am.o.1.W B;have S:q7u wr w.heap.size:=Am.o.2.kept (B.block _ C);have r0:wr.drew.cell? ⟨w,0,none⟩=some (.int .i64 0):=m.1;have r1:wr.drew.cell? ⟨w,1,none⟩=some (.int .i64 0):=m.2;have f0:wr.drew.frozen? ⟨w,0,none⟩=false:=S.frozen;have f1:wr.drew.frozen? ⟨w,1,none⟩=false:=S.frozen;have A7:wr.cell? ⟨w,0,none⟩=some (.int .i64 0):=m.1;have A8:wr.cell? ⟨w,1,none⟩=some (.int .i64 0):=m.2;have Ba:wr.frozen? ⟨w,0,none⟩=false:=S.frozen;have Bb:wr.frozen? ⟨w,1,none⟩=false:=S.frozen;have d:w.heap.size≠A.heap.size:=Nat.ne_of_lt C;clear S B hF m;rcases R.o with⟨G,_⟩|⟨u0,I,wc,H,rfl,rfl,U,Q⟩
    ·exact absurd G (Nat.ne_of_gt A1.o)
    ·have HU:Hid (t.best wd=some (t.cst wd u0,u0)):=by rw[List.take_length]at H;exact H
     have q:Hid (q5s (w.heap.size+1) wr I u0):=U;clear H U R;generalize hs:shS (t.show u0)=s;generalize hK:t.cst wd u0=K at Q;have D:Hid (shS (t.show u0)=s/\t.cst wd u0=K):=⟨hs,hK⟩;have x0:wr.drew.cell? ⟨A,0,none⟩=some (.int .i64 K.1):=Q.1;have x1:wr.drew.cell? ⟨A,1,none⟩=some (.int .i64 K.2):=Q.2;have p0:((wr.setCell ⟨w,0,none⟩ (.int .i64 K.1)).setCell ⟨w,1,none⟩ (.int .i64 K.2)).drew.cell? ⟨A,0,none⟩=some (.int .i64 K.1):=(cso (.inl d)).trans ((cso (.inl d)).trans Q.1);have p1:((wr.setCell ⟨w,0,none⟩ (.int .i64 K.1)).setCell ⟨w,1,none⟩ (.int .i64 K.2)).drew.cell? ⟨A,1,none⟩=some (.int .i64 K.2):=(cso (.inl d)).trans ((cso (.inl d)).trans Q.2);have Aw:Hid (Below w w ((wr.setCell ⟨w,0,none⟩ (.int .i64 K.1)).setCell ⟨w,1,none⟩ (.int .i64 K.2)).drew):=((Z.setCell (p:=⟨w,0,none⟩) Zl _).setCell (p:=⟨w,1,none⟩) Zl _).drew;have Ay:Hid (q5s w.heap.size ((wr.setCell ⟨w,0,none⟩ (.int .i64 K.1)).setCell ⟨w,1,none⟩ (.int .i64 K.2)).drew I u0):=((q.o.far2 (Nat.lt_succ_self _)).drew).down (Nat.le_succ _);clear hs hK Q;go_wp2_with fail
     go_region_held3 (fun w'=>w'.cell? ⟨A,0,none⟩=some (.int .i64 K.1)/\w'.cell? ⟨A,1,none⟩=some (.int .i64 K.2))
      (first|with_reducible exact⟨x0,x1⟩|with_reducible exact⟨p0,p1⟩) (fail)
     all_goals
      go_wp2;refine bodyPost_ret (v:=.tuple #[.string s,.slice I u0.length wc,.agg #[.int .i64 K.1,.int .i64 K.2],.bool true]) (by simp[results,Tryz.results27,go_sem,A7,A8]) rfl ?_;refine⟨.inl ⟨x.o,u0,I,wc,HU.o,by rw[D.o.1,D.o.2],?_⟩,Aw.o⟩;exact Ay.o
 ·have x:Hid (300<t.ways.length):=Ag;obtain⟨r0,r1⟩:=Ac;have f0:A.frozen? ⟨w,0,none⟩=false:=O.frozen;have f1:A.frozen? ⟨w,1,none⟩=false:=O.frozen;clear O;go_wp2;exact bodyPost_ret (v:=.tuple #[.string ⟨#[]⟩,.slice none 0 0,.agg #[.int .i64 0,.int .i64 0],.bool false]) (by simp[results,Tryz.results27,go_sem,r0,r1]) rfl ⟨.inr ⟨x.o,rfl⟩,(B1.setCell (p:=⟨w,0,none⟩) Zl _).setCell (p:=⟨w,1,none⟩) Zl _⟩
end Go.Proofs.YtfdppahhbpfnoaaGreatDoor
