/- Texts as one: Bs1, BstU, BstX, Plain, PlainR, BstC, RLs, RCst, OwnI, WayN, GatW. -/
import Derived.Test.YthjapabokcajhaaGreatDoorPi21
import Derived.Laws.Cover3
open Go.Proofs.Tryz
namespace Go.Proofs.YthjapabokcajhaaGreatDoor
open Go Go.RowKit
set_option maxRecDepth 100000
set_option maxHeartbeats 4000000
theorem j2j(ds:List Nd)(ws:List Int)(a wa:Option Addr)(cap wc:Nat)(hc:ds.length<=cap)(hwc:ws.length<=wc)(hl:ws.length<=9223372036854775807)(w:World)(hN:q1u w a ds)(hI:q9e w wa ws):
  Calls prog 111 #[.slice a ds.length cap,.slice wa ws.length wc] w fun e w'=>e=.returned (.string (shS (q5v ds ws)))/\Below w w w':=by
 have HC:Hid (Calls prog 19 #[.slice a ds.length cap,.slice wa ws.length wc] w fun e w'=>e=.returned (.tuple #[.string (shS (q5v ds ws)),q1y (shE (q5v ds ws))])/\Below w w w'):=v0c ds ws a wa cap wc hc hwc hl w hN hI;clear hN hI hc hwc hl;generalize shS (q5v ds ws)=s at *;generalize q1y (shE (q5v ds ws))=v at *;go_in;go_wp2_with fail;refine HC.o.mono ?_;rintro e w2⟨rfl,hb⟩;go_wp2;go_ret;exact⟨rfl,hb⟩
def bE(ds:List Nd)(wd:Int):Int:=if q3c ds=0 then(if wd<0\/100<wd then 1 else 0)else q3c ds
open Classical in
noncomputable def bA(ds:List Nd)(wd:Int):Crs:=if h:q3c ds=0 then(if wd<0\/100<wd then((0,0),[])else bs wd.toNat 0 [(0,v6o ds h)])else((0,0),[])
noncomputable def bT(ds:List Nd)(wd:Int):ByteArray:=if bE ds wd=0 then shS (q5v ds (bA ds wd).2)else⟨#[]⟩
theorem v6h{ds:List Nd}{wd:Int}(h:bE ds wd≠0):bA ds wd=((0,0),[]):=by
 unfold bE at h;unfold bA
 split
 ·rename_i h0;rw[if_pos h0]at h
  split at h
  ·rename_i h1;rw[if_pos h1]
  ·exact absurd rfl h
 ·rfl
theorem j1q{ds:List Nd}{wd:Nat}{t:Tr}(ht:t.Wf)(e:ds=t.nodes)(hl:ds.length<=400)(hw:wd<=100):bE ds wd=0/\bA ds wd=bs wd 0 [(0,t)]:=by
 have h:q3c ds=0:=by rw[e];exact z1b ht (by rw[<-e];exact hl)
 have hn:¬((wd:Int)<0\/(100:Int)<wd):=by omega
 refine⟨by rw[bE,if_pos h,if_neg hn],?_⟩;rw[bA,dif_pos h,if_neg hn,z8f h ht e,Int.toNat_natCast]
theorem y2g{t:Tr}(ht:t.Wf)(wd:Nat):vv (q0a t) wd 0 0=bs wd 0 [(0,t)]:=by rw[vv,(z9h ht).kont]
theorem v4f{w:World}{B B' e size n:Nat}{v:Value}{xs:List Value}(h:w.ownsRow B e size v n xs)(hB:B'<=B):w.ownsRow B' e size v n xs:=by
 refine⟨h.1,?_⟩;rcases h.2 with h0|⟨g,c,cur,rfl,hb,rest⟩
 ·exact .inl h0
 ·exact .inr ⟨g,c,cur,rfl,Nat.le_trans hB hb,rest⟩
theorem j7w(w:World)(B:Nat):w.ownsRow B 3 1 (.slice none 0 0) 0 (q0k []):=⟨rfl,.inl ⟨rfl,rfl⟩⟩
def z7p(ds:List Nd)(wd:Int)(w:World)(e:Ending)(w':World):Prop:=
 (∃wa wc,e=.returned (.tuple #[.string (bT ds wd),.slice wa (bA ds wd).2.length wc,.agg #[.int .i64 (bA ds wd).1.1,.int .i64 (bA ds wd).1.2],q1y (bE ds wd)])/\w'.ownsRow w.heap.size 3 1 (.slice wa (bA ds wd).2.length wc) (bA ds wd).2.length (q0k (bA ds wd).2))/\Below w w w'
theorem v1d(ds:List Nd)(wd:Int)(a:Option Addr)(cap:Nat)(w:World)(hN:q1u w a ds)(h:q3c ds≠0):
  Calls prog 71 #[.slice a ds.length cap,.int .i64 wd] w fun e w'=>z7p ds wd w e w':=by
 have e0:bE ds wd=q3c ds:=by rw[bE,if_neg h]
 have e1:=v6h (ds:=ds) (wd:=wd) (by rw[e0];exact h);have e2:bT ds wd=⟨#[]⟩:=by rw[bT,if_neg (by rw[e0];exact h)]
 have HN:Hid (∀O,q1u (w.alloc O) a ds):=fun O=>hN.below ((Below.refl _ w).alloc Zl O)
 have H:Hid (q3c ds≠0):=h;unfold z7p;rw[e0,e1,e2,q0w h];clear hN h e0 e1 e2;go_in;go_wp2_with fail;refine(q3b ds a cap _ (HN.o _)).mono ?_;rintro e w2⟨rfl,hB⟩;rw[q0w H.o];obtain⟨hcl,hfr⟩:=q1v hB;have k0:w2.cell? ⟨w.heap.size,0,none⟩=some (.int .i64 0):=(hcl _ _ (by simp)).trans (by simp[go_sem]);have k1:w2.cell? ⟨w.heap.size,1,none⟩=some (.int .i64 0):=(hcl _ _ (by simp)).trans (by simp[go_sem]);have f0:w2.frozen? ⟨w.heap.size,0,none⟩=false:=(hfr _ _ (by simp)).trans (by simp[go_sem]);have f1:w2.frozen? ⟨w.heap.size,1,none⟩=false:=(hfr _ _ (by simp)).trans (by simp[go_sem]);have hB2:Below w w w2:=((Below.refl _ w).alloc Zl _).trans (hB.mono (by simp));clear hcl hfr hB;go_wp2;refine bodyPost_ret (v:=.tuple #[.string ⟨#[]⟩,.slice none 0 0,.agg #[.int .i64 0,.int .i64 0],.iface 23 (.int .i64 (q3c ds))]) (by simp[results,Tryz.results71,go_sem,k0,k1]) rfl ?_;exact⟨⟨none,0,rfl,j7w _ _⟩,(hB2.setCell (p:=⟨w.heap.size,0,none⟩) Zl _).setCell (p:=⟨w.heap.size,1,none⟩) Zl _⟩
theorem k8c(ds:List Nd)(wd:Int)(a:Option Addr)(cap:Nat)(w:World)(hN:q1u w a ds)(h:q3c ds=0)(hw:wd<0\/100<wd):
  Calls prog 71 #[.slice a ds.length cap,.int .i64 wd] w fun e w'=>z7p ds wd w e w':=by
 have e0:bE ds wd=1:=by rw[bE,if_pos h,if_pos hw]
 have e1:=v6h (ds:=ds) (wd:=wd) (by rw[e0];decide);have e2:bT ds wd=⟨#[]⟩:=by rw[bT,if_neg (by rw[e0];decide)]
 have HN:Hid (∀O,q1u (w.alloc O) a ds):=fun O=>hN.below ((Below.refl _ w).alloc Zl O)
 have H:Hid (q3c ds=0):=h;unfold z7p;rw[e0,e1,e2,z6k];clear hN h e0 e1 e2;rcases hw with hw|hw
 case' inr=>have hw':¬wd<0:=by omega
 all_goals
  go_in;go_wp2_with fail;refine(q3b ds a cap _ (HN.o _)).mono ?_;rintro e w2⟨rfl,hB⟩;rw[H.o,q1m];obtain⟨hcl,hfr⟩:=q1v hB;have k0:w2.cell? ⟨w.heap.size,0,none⟩=some (.int .i64 0):=(hcl _ _ (by simp)).trans (by simp[go_sem]);have k1:w2.cell? ⟨w.heap.size,1,none⟩=some (.int .i64 0):=(hcl _ _ (by simp)).trans (by simp[go_sem]);have f0:w2.frozen? ⟨w.heap.size,0,none⟩=false:=(hfr _ _ (by simp)).trans (by simp[go_sem]);have f1:w2.frozen? ⟨w.heap.size,1,none⟩=false:=(hfr _ _ (by simp)).trans (by simp[go_sem]);have hB2:Below w w w2:=((Below.refl _ w).alloc Zl _).trans (hB.mono (by simp));clear hcl hfr hB;go_wp2;refine bodyPost_ret (v:=.tuple #[.string ⟨#[]⟩,.slice none 0 0,.agg #[.int .i64 0,.int .i64 0],.iface 23 (.int .i64 1)]) (by simp[results,Tryz.results71,go_sem,k0,k1]) rfl ?_;exact⟨⟨none,0,rfl,j7w _ _⟩,(hB2.setCell (p:=⟨w.heap.size,0,none⟩) Zl _).setCell (p:=⟨w.heap.size,1,none⟩) Zl _⟩
theorem v8p(ds:List Nd)(t:Tr)(hd:ds=t.nodes)(ht:t.Wf)(hl:ds.length<=400)(wd:Nat)(hw:wd<=100)(a:Option Addr)(cap:Nat)(hc:ds.length<=cap)(w:World)(hN:q1u w a ds):
  Calls prog 71 #[.slice a ds.length cap,.int .i64 wd] w fun e w'=>z7p ds wd w e w':=by
 obtain⟨e0,e1⟩:=j1q ht hd hl hw;have hvv:=y2g ht wd;have e2:bT ds wd=shS (q5v ds (vv (q0a t) wd 0 0).2):=by rw[bT,if_pos e0,e1,hvv]
 have HR:Hid (z7p ds wd w=fun e w'=>(∃wa wc,e=.returned (.tuple #[.string (shS (q5v ds (vv (q0a t) wd 0 0).2)),.slice wa (vv (q0a t) wd 0 0).2.length wc,.agg #[.int .i64 (crs (q0a t) wd 0 0).o,.int .i64 (crs (q0a t) wd 0 0).l],.nilIface])/\w'.ownsRow w.heap.size 3 1 (.slice wa (vv (q0a t) wd 0 0).2.length wc) (vv (q0a t) wd 0 0).2.length (q0k (vv (q0a t) wd 0 0).2))/\Below w w w'):=by
  show z7p ds wd w=_;have h3:=(j2w (wd:=wd) (c:=0) (z9h ht) (Nat.zero_le _)).1
  funext e w'
  unfold z7p;rw[e0,e1,e2,q1m,<-hvv];have h4:((vv (q0a t) wd 0 0).1.1:Int)=(crs (q0a t) wd 0 0).o:=by rw[h3]
  have h5:((vv (q0a t) wd 0 0).1.2:Int)=(crs (q0a t) wd 0 0).l:=by rw[h3]
  rw[h4,h5]
 rw[HR.o];have hR0:0<(q0a t).length:=by rw[q2v];exact t.pos
 have hRl:(q0a t).length=ds.length:=by rw[q2v,hd];rfl
 have h0:q3c ds=0:=by rw[hd];exact z1b ht (by rw[<-hd];exact hl)
 have hsz:t.sz<=400:=by unfold Tr.sz;rw[<-hd];exact hl
 have hne:ds≠[]:=by rw[hd];have:=t.pos;exact List.length_pos_iff.1 this
 have HN:Hid (q1u w a ds):=hN;have H0:Hid (q3c ds=0):=h0;have HSK:Hid (∀sb g mb,j1g sb g mb wd (q0a t) 0 0):=fun sb g mb=>v4i sb g mb ht hsz hw (q0a t).length 0 0 (by omega) (Nat.zero_le _) (Nat.zero_le _)
 have HCH:Hid (∀sb g mb(W:World)S,Inv sb g mb wd (q0a t) W S->S 0 0=true->Calls prog 110 #[.pointer (some ⟨sb,0,none⟩)] W fun e w'=>(∃a cap,e=.returned (.slice a (vv (q0a t) wd 0 0).2.length cap)/\w'.ownsRow W.heap.size 3 1 (.slice a (vv (q0a t) wd 0 0).2.length cap) (vv (q0a t) wd 0 0).2.length (q0k (vv (q0a t) wd 0 0).2))/\Below W W w'):=fun sb g mb W S hI hS=>k0e sb g mb ht hsz hw W S hI hS
 have HD:Hid (ds=t.nodes):=hd;have HRL:Hid ((q0a t).length=ds.length):=hRl
 have HWL:Hid ((vv (q0a t) wd 0 0).2.length<=9223372036854775807):=by
  show(vv (q0a t) wd 0 0).2.length<=_
  obtain⟨a',ha⟩:=k0g t wd;have hb:=q9y t wd;rw[q3i,<-hvv]at hb;have h1:=(q5z hb).1;have h2:=q8g t _ h1;rw[<-hd]at h2;omega
 have HPN:Hid (∀(s:Nat)(W:World),q1a s W a ds->s<W.heap.size->Calls prog 108 #[.slice a ds.length cap,.int .i64 wd] W fun e w'=>e=.returned (.agg #[.slice (some ⟨W.heap.size+1,0,none⟩) ds.length ds.length,.int .i64 wd])/\PwR w' (W.heap.size+1) ds.length (fun j=>q2 (q1o (q0a t) j))/\Below W W w'):=fun s W h1 h2=>k0i ds t HD.o ht hl a cap s wd hc W h1 h2
 have hmm:=@run_makeMap prog;have hw0:¬(wd:Int)<0:=by omega
 have hw1:¬(100:Int)<(wd:Int):=by omega
 clear hN h0 hd hRl e0 e1 e2 hvv HR;go_in;go_wp2_with fail;refine(q3b ds a cap _ (HN.o.below ((Below.refl _ w).alloc Zl _))).mono ?_;rintro e w2⟨rfl,hB⟩;rw[H0.o,q1m];have hr2:q7p w2 w.heap.size:=q7p.kept ⟨_,_,heap_alloc_new w (.cells #[.int .i64 0,.int .i64 0] 54)⟩ (hB.block _ (by simp));have k0:w2.cell? ⟨w.heap.size,0,none⟩=some (.int .i64 0):=((q1v hB).1 _ _ (by simp)).trans (by simp[go_sem]);have k1:w2.cell? ⟨w.heap.size,1,none⟩=some (.int .i64 0):=((q1v hB).1 _ _ (by simp)).trans (by simp[go_sem]);have HB2:Hid (Below w w w2):=((Below.refl _ w).alloc Zl _).trans (hB.mono (by simp));have hs2:w.heap.size<w2.heap.size:=by have:=hB.size;simp at this;omega
 have HK2:Hid (w2.cell? ⟨w.heap.size,0,none⟩=some (.int .i64 0)/\w2.cell? ⟨w.heap.size,1,none⟩=some (.int .i64 0)/\q7p w2 w.heap.size):=⟨k0,k1,hr2⟩;clear hr2 k0 k1 hB;obtain⟨s,hs,hns⟩:=(HN.o.below HB2.o).s hne;have HNS:Hid (q1a s w2 a ds):=hns;clear hns;go_wp2_with fail;refine(HPN.o s w2 HNS.o hs).mono ?_;rintro e w3⟨rfl,hpr,hb3⟩;have HB3:Hid (Below w w w3):=HB2.o.trans (hb3.mono HB2.o.size);have hs3:=hb3.size;have hg3:w2.heap.size+1<w3.heap.size:=hpr.row.lt;have HK3:Hid (w3.cell? ⟨w.heap.size,0,none⟩=some (.int .i64 0)/\w3.cell? ⟨w.heap.size,1,none⟩=some (.int .i64 0)/\q7p w3 w.heap.size):=⟨(hb3.cell (p:=⟨w.heap.size,0,none⟩) hs2).trans HK2.o.1,(hb3.cell (p:=⟨w.heap.size,1,none⟩) hs2).trans HK2.o.2.1,HK2.o.2.2.kept (hb3.block _ hs2)⟩
 have HI4:Hid (Inv (w3.heap.size+1) (w2.heap.size+1) w3.heap.size wd (q0a t) ((w3.alloc (.map #[] 0)).alloc (.cells #[.slice (some ⟨w2.heap.size+1,0,none⟩) ds.length ds.length,.int .i64 wd,.map (some w3.heap.size)] 170)) (fun _ _=>false)):=by
  refine⟨⟨?_,?_,?_⟩,?_,?_,fun p c h=>by cases h⟩
  ·rw[HRL.o];simp[go_sem]
  ·simp[go_sem]
  ·rw[HRL.o];exact hpr.kept ((Below.heap_alloc _ _ _ (by simp;omega)).trans (Below.heap_alloc _ _ _ hg3))
  ·simp[go_sem]
  ·exact(Mem.made w3 _).kept (Below.heap_alloc _ _ _ (by simp))
 have HSE:Hid (∀W S,Inv (w3.heap.size+1) (w2.heap.size+1) w3.heap.size wd (q0a t) W S->Calls prog 109 #[.pointer (some ⟨w3.heap.size+1,0,none⟩),.agg #[.int .i64 0,.int .i64 0]] W fun e w'=>e=.returned (.agg #[.int .i64 (crs (q0a t) wd 0 0).o,.int .i64 (crs (q0a t) wd 0 0).l,.int .i64 (crs (q0a t) wd 0 0).ch,.int .i64 (crs (q0a t) wd 0 0).np,.int .i64 (crs (q0a t) wd 0 0).nc])/\Left (w3.heap.size+1) (w2.heap.size+1) w3.heap.size wd (q0a t) S 0 0 0 W w'):=fun W S h=>by
  have:=HSK.o _ _ _ W S h
  rw[if_pos hR0]at this;exact this
 clear hpr hb3;go_wp2_with fail;refine(HSE.o _ _ HI4.o).mono ?_;rintro e w5⟨rfl,hbx,S',hI,_,_,hin⟩;have hsz4:((w3.alloc (.map #[] 0)).alloc (.cells #[.slice (some ⟨w2.heap.size+1,0,none⟩) ds.length ds.length,.int .i64 wd,.map (some w3.heap.size)] 170)).heap.size=w3.heap.size+1+1:=by simp
 have hs5:=hbx.size;rw[hsz4]at hs5;have hB4:Below w w ((w3.alloc (.map #[] 0)).alloc (.cells #[.slice (some ⟨w2.heap.size+1,0,none⟩) ds.length ds.length,.int .i64 wd,.map (some w3.heap.size)] 170)):=k0f (k0f HB3.o _) _;have HB5:Hid (Below w w w5):=hB4.trans ((hbx.mono (B':=w.heap.size) (by rw[hsz4];omega)).below (by omega))
 have HK5:Hid (w5.cell? ⟨w.heap.size,0,none⟩=some (.int .i64 0)/\w5.cell? ⟨w.heap.size,1,none⟩=some (.int .i64 0)/\q7p w5 w.heap.size):=
  ⟨(hbx.cell (p:=⟨w.heap.size,0,none⟩) (by rw[hsz4];simp;omega) (by simp;omega)).trans (ka (ka HK3.o.1 _) _),(hbx.cell (p:=⟨w.heap.size,1,none⟩) (by rw[hsz4];simp;omega) (by simp;omega)).trans (ka (ka HK3.o.2.1 _) _),HK3.o.2.2.kept ((hbx.block _ (by rw[hsz4];omega) (by omega)).trans ((Below.heap_alloc _ _ _ (by simp;omega)).trans (Below.heap_alloc _ _ _ (by omega))))⟩
 have HI5:Hid (Inv (w3.heap.size+1) (w2.heap.size+1) w3.heap.size wd (q0a t) w5 S'/\S' 0 0=true):=⟨hI,hin hR0⟩;clear hbx hI hin hB4 hsz4 HI4 HSE HSK HPN HB3 HK3 HK2;generalize hkk:crs (q0a t) wd 0 0=k at *;have HKE:Hid (crs (q0a t) wd 0 0=k):=hkk;clear hkk;go_wp2_with fail;refine(HCH.o _ _ _ _ _ (HI5.o.1.alloc _) HI5.o.2).mono ?_;rintro e w6⟨⟨wa,wc,rfl,hown6⟩,hb6⟩;obtain⟨_,_,hwc,hIw,_⟩:=k7f hown6;have hB6:Below w w w6:=(k0f HB5.o _).trans (hb6.mono (by have:=HB5.o.size;simp;omega));have HB6:Hid (Below w w w6):=hB6;have hlt6:w5.heap.size<w6.heap.size:=by have:=hb6.size;simp at this;omega
 have hw5:=HB5.o.size
 have HK6:Hid (w6.cell? ⟨w.heap.size,0,none⟩=some (.int .i64 0)/\w6.cell? ⟨w.heap.size,1,none⟩=some (.int .i64 0)/\q7p w6 w.heap.size):=
  ⟨(hb6.cell (p:=⟨w.heap.size,0,none⟩) (by simp;omega)).trans (ka HK5.o.1 _),(hb6.cell (p:=⟨w.heap.size,1,none⟩) (by simp;omega)).trans (ka HK5.o.2.1 _),HK5.o.2.2.kept ((hb6.block _ (by simp;omega)).trans (Below.heap_alloc _ _ _ (by omega)))⟩
 have u0:w6.drew.cell? ⟨w5.heap.size,0,none⟩=some (.int .i64 k.o):=(hb6.cell (p:=⟨w5.heap.size,0,none⟩) (by simp)).trans (by simp[go_sem]);have u1:w6.drew.cell? ⟨w5.heap.size,1,none⟩=some (.int .i64 k.l):=(hb6.cell (p:=⟨w5.heap.size,1,none⟩) (by simp)).trans (by simp[go_sem])
 have HSH:Hid (Calls prog 111 #[.slice a ds.length cap,.slice wa (vv (q0a t) wd 0 0).2.length wc] w6.drew fun e w'=>e=.returned (.string (shS (q5v ds (vv (q0a t) wd 0 0).2)))/\Below w6.drew.heap.size w6.drew w'):=
  j2j ds (vv (q0a t) wd 0 0).2 a wa cap wc hc hwc HWL.o w6.drew (HN.o.below hB6.drew) (q9e.below hIw (Below.refl _ w6).drew)
 have HOW:Hid (∀W:World,(∀b,w5.heap.size<=b->b<w6.heap.size->W.heap[b]?=w6.heap[b]?)->W.ownsRow w.heap.size 3 1 (.slice wa (vv (q0a t) wd 0 0).2.length wc) (vv (q0a t) wd 0 0).2.length (q0k (vv (q0a t) wd 0 0).2)):=fun W hW=>by
  have h1:=z0r (w':=W) hown6 fun b hb=>hW b (by have:=v7t hown6 hb;simp at this;omega) (z0s hown6 hb).1
  exact v4f h1 (by simp;omega)
 have HL5:Hid (w.heap.size<w5.heap.size):=(show w.heap.size<w5.heap.size by omega);clear hown6 hIw hB6 hb6 HCH HI5 HK5;generalize hus:(vv (q0a t) wd 0 0).2=us at *;generalize htx:shS (q5v ds us)=tx at *;have HUS:Hid ((vv (q0a t) wd 0 0).2=us/\shS (q5v ds us)=tx):=⟨hus,htx⟩;clear hus htx;go_wp2_with fail
 go_region_held3 (fun w'=>w'.cell? ⟨w5.heap.size,0,none⟩=some (.int .i64 k.o)/\w'.cell? ⟨w5.heap.size,1,none⟩=some (.int .i64 k.l))
  (first|with_reducible exact⟨u0,u1⟩|with_reducible exact⟨u07,u17⟩|with_reducible exact⟨(cso (.inl (Nat.ne_of_lt HL5.o))).trans ((cso (.inl (Nat.ne_of_lt HL5.o))).trans u07),(cso (.inl (Nat.ne_of_lt HL5.o))).trans ((cso (.inl (Nat.ne_of_lt HL5.o))).trans u17)⟩)
  ((go_at_call 111;refine HSH.o.mono ?_;rintro e w7⟨rfl,hb7⟩;have u07:=(hb7.cell (p:=⟨w5.heap.size,0,none⟩) hlt6).trans u0;have u17:=(hb7.cell (p:=⟨w5.heap.size,1,none⟩) hlt6).trans u1;have k0:=(hb7.cell (p:=⟨w.heap.size,0,none⟩) (Nat.lt_of_le_of_lt hw5 hlt6)).trans HK6.o.1;have k1:=(hb7.cell (p:=⟨w.heap.size,1,none⟩) (Nat.lt_of_le_of_lt hw5 hlt6)).trans HK6.o.2.1;have hr7:=HK6.o.2.2.kept (hb7.block w.heap.size (Nat.lt_of_le_of_lt hw5 hlt6));have f0:w7.frozen? ⟨w.heap.size,0,none⟩=false:=hr7.frozen;have f1:w7.frozen? ⟨w.heap.size,1,none⟩=false:=hr7.frozen))
 all_goals
  go_wp2;refine bodyPost_ret (v:=.tuple #[.string tx,.slice wa us.length wc,.agg #[.int .i64 k.o,.int .i64 k.l],.nilIface]) (by simp[results,Tryz.results71,go_sem,k0,k1]) rfl ?_;rw[HUS.o.1,HUS.o.2,HKE.o];refine⟨⟨wa,wc,rfl,HOW.o _ fun b hb1 hb2=>?_⟩,?_⟩
  ·have h5:=HL5.o;exact(Below.heap_setCell _ _ _ _ (by simp;omega)).trans ((Below.heap_setCell _ _ _ _ (by simp;omega)).trans (hb7.block b hb2))
  ·exact((HB6.o.drew.trans (hb7.mono HB6.o.size)).setCell (p:=⟨w.heap.size,0,none⟩) Zl _).setCell (p:=⟨w.heap.size,1,none⟩) Zl _
theorem j1s(ds:List Nd)(wd:Int)(a:Option Addr)(cap:Nat)(hc:ds.length<=cap)(w:World)(hN:q1u w a ds):
  Calls prog 71 #[.slice a ds.length cap,.int .i64 wd] w fun e w'=>z7p ds wd w e w':=by
 by_cases h:q3c ds=0
 ·by_cases hw:wd<0\/100<wd
  ·exact k8c ds wd a cap w hN h hw
  ·obtain⟨n,rfl⟩:∃n:Nat,wd=n:=⟨wd.toNat,by omega⟩;exact v8p ds _ (q3s h) (q9f h) (q4z h).1 n (by omega) a cap hc w hN
 ·exact v1d ds wd a cap w hN h
def Bx(w:World)(b:Nat)(o l:Int):Prop:=w.cell? ⟨b,0,none⟩=some (.int .i64 o)/\w.cell? ⟨b,1,none⟩=some (.int .i64 l)
theorem Bx.below{w w':World}{b:Nat}{o l:Int}(h:Bx w b o l)(hb:Below w w w'):Bx w' b o l:=
 ⟨(hb.cell (p:=⟨b,0,none⟩) (World.block_lt_of_cell? w ⟨b,0,none⟩ h.1)).trans h.1,(hb.cell (p:=⟨b,1,none⟩) (World.block_lt_of_cell? w ⟨b,0,none⟩ h.1)).trans h.2⟩
theorem Bx.new(w:World)(o l:Int)(T:TypeId):Bx (w.alloc (.cells #[.int .i64 o,.int .i64 l] T)) w.heap.size o l:=⟨by simp[go_sem],by simp[go_sem]⟩
end Go.Proofs.YthjapabokcajhaaGreatDoor
namespace Go.Proofs.YthjapabokcajhaaGreatDoor
open Go Go.Lib
def ovr(wd:Int)(n:Int):Int:=max (n-wd) 0
def over(wd:Int):List Int->Int
 | []=>0
 | n::r=>ovr wd n+over wd r
def stp(wd:Int)(x:Int × Int × Int)(b:UInt8):Int × Int × Int:=
 if b=10 then(x.1,x.2.1+1,0)else(if wd<x.2.2+1 then x.1+1 else x.1,x.2.1,x.2.2+1)
def stL(wd:Int)(l:List UInt8):Int × Int × Int:=l.foldl (stp wd) (0,0,0)
theorem v4s(wd:Int)(l:List UInt8)(b:UInt8):stL wd (l++[b])=stp wd (stL wd l) b:=by simp[stL]
theorem y5o(wd:Int)(l:List UInt8):∀(x:Int × Int × Int),0<=x.1->0<=x.2.1->0<=x.2.2->
  (0<=(l.foldl (stp wd) x).1/\(l.foldl (stp wd) x).1<=x.1+l.length)/\(0<=(l.foldl (stp wd) x).2.1/\(l.foldl (stp wd) x).2.1<=x.2.1+l.length)/\(0<=(l.foldl (stp wd) x).2.2/\(l.foldl (stp wd) x).2.2<=x.2.2+l.length):=by
 induction l with
 | nil=>intro x h1 h2 h3;simp;omega
 | cons b r ih=>
  intro x h1 h2 h3;have e:(b::r).foldl (stp wd) x=r.foldl (stp wd) (stp wd x b):=rfl;rw[e]
  have hs:0<=(stp wd x b).1/\(stp wd x b).1<=x.1+1/\0<=(stp wd x b).2.1/\(stp wd x b).2.1<=x.2.1+1/\0<=(stp wd x b).2.2/\(stp wd x b).2.2<=x.2.2+1:=by
   unfold stp;by_cases hb:b=10
   ·simp only[hb,if_true];omega
   ·simp only[hb,if_false];by_cases hw:wd<x.2.2+1
    ·simp only[hw,if_true];omega
    ·simp only[hw,if_false];omega
  have:=ih (stp wd x b) hs.1 hs.2.2.1 hs.2.2.2.2.1
  simp only[List.length_cons];omega
theorem y5l(wd:Int)(l:List UInt8):(0<=(stL wd l).1/\(stL wd l).1<=l.length)/\(0<=(stL wd l).2.1/\(stL wd l).2.1<=l.length)/\(0<=(stL wd l).2.2/\(stL wd l).2.2<=l.length):=by
 have:=y5o wd l (0,0,0) (by simp) (by simp) (by simp)
 simpa[stL]using this
theorem j9b(s:ByteArray)(k:Nat)(h:k<s.size):s.data.toList.take (k+1)=s.data.toList.take k++[s[k]]:=by
 rw[List.take_succ_eq_append_getElem (by simpa using h)];rfl
end Go.Proofs.YthjapabokcajhaaGreatDoor
namespace Go.Proofs.YthjapabokcajhaaGreatDoor
theorem j2v(wd:Nat):∀(l:List UInt8)(o n:Int)(c:Nat),l.foldl (stp wd) (o,n,(c:Int))=(o+(q2z wd c l).1,n+(q2z wd c l).2.1,((q2z wd c l).2.2:Int))
 | [],o,n,c=>by simp[q2z]
 | b::r,o,n,c=>by
  have e3:(b::r).foldl (stp wd) (o,n,(c:Int))=r.foldl (stp wd) (stp wd (o,n,(c:Int)) b):=rfl;rw[e3];simp only[q2z];by_cases hb:b=10
  ·have e4:stp wd (o,n,(c:Int)) b=(o,n+1,((0:Nat):Int)):=by simp[stp,hb]
   rw[e4,j2v wd r,if_pos hb];simp only[Prod.mk.injEq,and_true,true_and];omega
  ·have e4:stp wd (o,n,(c:Int)) b=(o+(if wd<=c then 1 else 0:Nat),n,((c+1:Nat):Int)):=by
    by_cases h:wd<=c
    ·have h':(wd:Int)<(c:Int)+1:=by omega
     simp[stp,hb,h,h']
    ·have h':¬(wd:Int)<(c:Int)+1:=by omega
     simp[stp,hb,h,h']
   rw[e4,j2v wd r,if_neg hb];simp only[Prod.mk.injEq,and_true];omega
theorem v9h(wd:Nat)(l:List UInt8):stL wd l=(((q2z wd 0 l).1:Int),((q2z wd 0 l).2.1:Int),((q2z wd 0 l).2.2:Int)):=by
 have:=j2v wd l 0 0 0
 simpa[stL]using this
end Go.Proofs.YthjapabokcajhaaGreatDoor
namespace Go.Proofs.YthjapabokcajhaaGreatDoor
open Go Go.RowKit
set_option maxRecDepth 100000
set_option maxHeartbeats 1000000
def k3x(a b:Int × Int):Bool:=if a.1 != b.1 then decide (a.1<b.1)else decide (a.2<b.2)
theorem k9w(a b:Int × Int)(w:World):
  Calls prog 65 #[.agg #[.int .i64 a.1,.int .i64 a.2],.agg #[.int .i64 b.1,.int .i64 b.2]] w fun e w'=>e=.returned (.bool (k3x a b))/\Below w w w':=by
 by_cases h:a.1=b.1
 ·have hl:k3x a b=decide (a.2<b.2):=by simp[k3x,h]
  rw[hl];have h':(a.1 != b.1)=false:=by simp[h]
  clear h hl;go_in;go_wp2;go_ret;exact⟨rfl,(Zb.alloc Zl _).alloc (by simp) _⟩
 ·have hl:k3x a b=decide (a.1<b.1):=by simp[k3x,h]
  rw[hl];have h':(a.1 != b.1)=true:=by simp[h]
  clear h hl;go_in;go_wp2;go_ret;exact⟨rfl,(Zb.alloc Zl _).alloc (by simp) _⟩
theorem y0l(a b:Nat × Nat):k3x ((a.1:Int),(a.2:Int)) ((b.1:Int),(b.2:Int))=decide (q2t a b):=by
 rw[Bool.eq_iff_iff,decide_eq_true_eq];unfold k3x q2t;dsimp only
 split
 ·rename_i h;have h':(a.1:Int)≠b.1:=bne_iff_ne.1 h;rw[decide_eq_true_eq];omega
 ·rename_i h;have h':(a.1:Int)=b.1:=by simpa using h
  rw[decide_eq_true_eq];omega
theorem j8h(a b:Nat × Nat)(w:World):
  Calls prog 65 #[.agg #[.int .i64 (a.1:Int),.int .i64 (a.2:Int)],.agg #[.int .i64 (b.1:Int),.int .i64 (b.2:Int)]] w fun e w'=>e=.returned (.bool (decide (q2t a b)))/\Below w w w':=by
 have:=k9w ((a.1:Int),(a.2:Int)) ((b.1:Int),(b.2:Int)) w
 rw[y0l]at this;exact this
set_option maxHeartbeats 2000000
theorem y7r{b:UInt8}(h:(((b.toNat:Nat):Int)==10)=true):b=10:=by
 have h':((b.toNat:Nat):Int)=10:=beq_iff_eq.1 h;exact UInt8.toNat_inj.1 (by simpa using(by omega:b.toNat=10))
theorem y4g{b:UInt8}(h:(((b.toNat:Nat):Int)==10)=false):¬b=10:=by
 rintro rfl;simp at h
theorem j8f(s:ByteArray)(wd:Int)(w:World)(hs:s.size<=2000000000):
  Calls prog 20 #[.string s,.int .i64 wd] w fun e w'=>e=.returned (.agg #[.int .i64 (stL wd s.data.toList).1,.int .i64 (stL wd s.data.toList).2.1])/\Below w w w':=by
 go_in;go_wp2
 go_loopw [6,7] (fun c i wr=>∃k:Nat,k<=s.size/\i=.int .i64 k/\c=.int .i64 (stL wd (s.data.toList.take k)).2.2/\Below w w wr
   /\wr.cell? ⟨w.heap.size,0,none⟩=some (.int .i64 0)/\wr.cell? ⟨w.heap.size,1,none⟩=some (.int .i64 0)/\wr.frozen? ⟨w.heap.size,0,none⟩=false/\wr.frozen? ⟨w.heap.size,1,none⟩=false
   /\wr.cell? ⟨w.heap.size+1,0,none⟩=some (.int .i64 (stL wd (s.data.toList.take k)).1)/\wr.cell? ⟨w.heap.size+1,1,none⟩=some (.int .i64 (stL wd (s.data.toList.take k)).2.1)/\wr.frozen? ⟨w.heap.size+1,0,none⟩=false/\wr.frozen? ⟨w.heap.size+1,1,none⟩=false)
  (fun _ i _=>s.size-(intOf i).toNat)
 case atStart=>
  exact⟨0,Nat.zero_le _,rfl,rfl,(Zb.alloc Zl _).alloc (by simp) _,by simp[go_sem],by simp[go_sem],by simp[go_sem],by simp[go_sem],by simp[go_sem,stL],by simp[go_sem,stL],by simp[go_sem],by simp[go_sem]⟩
 case round=>
  obtain⟨k,hk,rfl,rfl,hB,r0,r1,f0,f1,k0,k1,g0,g1⟩:=hrel;obtain⟨⟨b1,b2⟩,⟨b3,b4⟩,⟨b5,b6⟩⟩:=y5l wd (s.data.toList.take k);have bl:((s.data.toList.take k).length:Int)<=2000000000:=by have:=List.length_take_le k s.data.toList;omega
  generalize hS:stL wd (s.data.toList.take k)=S at b1 b2 b3 b4 b5 b6 k0 k1⊢;have b2':S.1<=2000000000:=by omega
  have b4':S.2.1<=2000000000:=by omega
  have b6':S.2.2<=2000000000:=by omega
  clear b2 b4 b6 bl;have HS:Hid (stL wd (s.data.toList.take k)=S):=hS;clear hS;by_cases hlt:k<s.size
  ·have HN:Hid (stL wd (s.data.toList.take (k+1))=stp wd S s[k]):=by
    have h:=v4s wd (s.data.toList.take k) s[k];rw[<-j9b s k hlt,HS.o]at h;exact h
   cases hb:(((s[k].toNat:Nat):Int)==10)with
   | true=>
    have hb':s[k]=10:=y7r hb;have HE:Hid (stL wd (s.data.toList.take (k+1))=(S.1,S.2.1+1,0)):=by rw[stp,if_pos hb']at HN;exact HN
    clear hb' HN;go_wp2
    go_roundw
    case rel=>
     refine⟨k+1,by omega,by go_num,by rw[HE.o],hB.setCell (p:=⟨w.heap.size+1,1,none⟩) (by simp) _,(cso (by omega)).trans r0,(cso (by omega)).trans r1,csf.trans f0,csf.trans f1,?_,?_,csf.trans g0,csf.trans g1⟩
     ·rw[HE.o];exact(cso (by omega)).trans k0
     ·rw[HE.o];exact css k1
    case measure=>simp[intOf];omega
   | false=>
    have hb':¬s[k]=10:=y4g hb;by_cases hw:wd<S.2.2+1
    ·have HE:Hid (stL wd (s.data.toList.take (k+1))=(S.1+1,S.2.1,S.2.2+1)):=by rw[stp,if_neg hb',if_pos hw]at HN;exact HN
     clear hb' HN;go_wp2
     go_roundw
     case rel=>
      refine⟨k+1,by omega,by go_num,by rw[HE.o],hB.setCell (p:=⟨w.heap.size+1,0,none⟩) (by simp) _,(cso (by omega)).trans r0,(cso (by omega)).trans r1,csf.trans f0,csf.trans f1,?_,?_,csf.trans g0,csf.trans g1⟩
      ·rw[HE.o];exact css k0
      ·rw[HE.o];exact(cso (by omega)).trans k1
     case measure=>simp[intOf];omega
    ·have HE:Hid (stL wd (s.data.toList.take (k+1))=(S.1,S.2.1,S.2.2+1)):=by rw[stp,if_neg hb',if_neg hw]at HN;exact HN
     clear hb' HN;go_wp2
     go_roundw
     case rel=>
      refine⟨k+1,by omega,by go_num,by rw[HE.o],hB,r0,r1,f0,f1,?_,?_,g0,g1⟩
      ·rw[HE.o];exact k0
      ·rw[HE.o];exact k1
     case measure=>simp[intOf];omega
  ·have hkk:s.data.toList.take k=s.data.toList:=List.take_of_length_le (by rw[<-Lib.size_eq];omega);have hT:=HS.o;rw[hkk]at hT;rw[<-hT]at k0 k1;clear hT hkk;go_wp2;exact bodyPost_ret (v:=.agg #[.int .i64 (stL wd s.data.toList).1,.int .i64 (stL wd s.data.toList).2.1]) (by simp[results,Tryz.results20,go_sem,r0,r1]) rfl ⟨rfl,(hB.setCell (p:=⟨w.heap.size,0,none⟩) (by simp) _).setCell (p:=⟨w.heap.size,1,none⟩) (by simp) _⟩
theorem q8r{w:World}{B e size n k:Nat}{v:Value}{xs:List Value}(h:w.ownsRow B e size v n xs)(hk:v.ownBlock=some k):k<w.heap.size/\∃cur,w.heap[k]?=some (.cells cur e (0,0)):=by
 rcases h.2 with⟨rfl,_⟩|⟨g,c,cur,rfl,_,hg,_⟩
 ·simp[Value.ownBlock]at hk
 ·simp only[Value.ownBlock,Option.some.injEq]at hk;subst hk;exact⟨(Array.getElem?_eq_some_iff.1 hg).1,cur,hg⟩
theorem z9e{w w':World}{B e size n:Nat}{v:Value}{xs:List Value}(h:w.ownsRow B e size v n xs)(hk:∀k,v.ownBlock=some k->w'.heap[k]?=w.heap[k]?):w'.ownsRow B e size v n xs:=by
 refine⟨h.1,?_⟩;rcases h.2 with h0|⟨g,c,cur,rfl,hb,hg,rest⟩
 ·exact .inl h0
 ·exact .inr ⟨g,c,cur,rfl,hb,(hk g rfl).trans hg,rest⟩
theorem v3w{w:World}{B B' e size n:Nat}{v:Value}{xs:List Value}(h:w.ownsRow B e size v n xs)(hB:B'<=B):w.ownsRow B' e size v n xs:=by
 refine⟨h.1,?_⟩;rcases h.2 with h0|⟨g,c,cur,rfl,hb,rest⟩
 ·exact .inl h0
 ·exact .inr ⟨g,c,cur,rfl,Nat.le_trans hB hb,rest⟩
theorem j7u{w:World}{B B' e e' size size' n n' k k':Nat}{v v':Value}{xs xs':List Value}(h:w.ownsRow B e size v n xs)(h':w.ownsRow B' e' size' v' n' xs')(he:e≠e')(hk:v.ownBlock=some k)(hk':v'.ownBlock=some k'):k≠k':=by
 intro e0;subst e0;obtain⟨_,c,h1⟩:=q8r h hk;obtain⟨_,c',h2⟩:=q8r h' hk';rw[h1]at h2;cases h2;exact he rfl
theorem v2q:(prog.info? 45).map (fun i=>(i.zero,i.size,i.bytes))=some (some (.slice none 0 0),1,24):=by kernel_rfl
def z3g(B:Nat)(v:Value)(ls:List (List Int))(g:Option Nat)(w:World):Prop:=
 ∃xs:List Value,w.ownsRow B 45 1 v ls.length xs/\∀i(h:i<ls.length),∃a c,xs[i]?=some (.slice a ls[i].length c)/\w.ownsRow B 3 1 (.slice a ls[i].length c) ls[i].length (q0k ls[i])/\(∀k,(Value.slice a ls[i].length c).ownBlock=some k->g≠some k)
theorem z3g.nil(B:Nat)(g:Option Nat)(w:World):z3g B (.slice none 0 0) [] g w:=⟨[],World.ownsRow_nil _ _ _ _,fun i h=>by simp at h⟩
theorem z3g.kept{B:Nat}{v:Value}{ls:List (List Int)}{g g':Option Nat}{w w':World}(h:z3g B v ls g w)(hb:∀k,k<w.heap.size->(∃cur,w.heap[k]?=some (.cells cur 45 (0,0)))->w'.heap[k]?=w.heap[k]?)(hc:∀k,k<w.heap.size->(∃cur,w.heap[k]?=some (.cells cur 3 (0,0)))->g≠some k->w'.heap[k]?=w.heap[k]?/\g'≠some k):z3g B v ls g' w':=by
 obtain⟨xs,h1,h2⟩:=h;refine⟨xs,z9e h1 fun k hk=>?_,fun i hi=>?_⟩
 ·obtain⟨k1,k2⟩:=q8r h1 hk;exact hb k k1 k2
 ·obtain⟨a,c,e1,e2,e3⟩:=h2 i hi;refine⟨a,c,e1,z9e e2 fun k hk=>?_,fun k hk=>?_⟩
  ·obtain⟨k1,k2⟩:=q8r e2 hk;exact(hc k k1 k2 (e3 k hk)).1
  ·obtain⟨k1,k2⟩:=q8r e2 hk;exact(hc k k1 k2 (e3 k hk)).2
theorem z3g.below{B:Nat}{v:Value}{ls:List (List Int)}{g:Option Nat}{w w':World}(h:z3g B v ls g w)(hb:Below w w w'):z3g B v ls g w':=
 h.kept (fun k h1 _=>hb.block k h1) (fun k h1 _ h3=>⟨hb.block k h1,h3⟩)
theorem z3g.push{B:Nat}{v v':Value}{ls:List (List Int)}{l:List Int}{g:Option Nat}{w w':World}{xs:List Value}{a':Option Addr}{c':Nat}(h1:w.ownsRow B 45 1 v ls.length xs)
  (h2:∀i(h:i<ls.length),∃a c,xs[i]?=some (.slice a ls[i].length c)/\w.ownsRow B 3 1 (.slice a ls[i].length c) ls[i].length (q0k ls[i])/\(∀k,(Value.slice a ls[i].length c).ownBlock=some k->g≠some k))
  (hl:w.ownsRow B 3 1 (.slice a' l.length c') l.length (q0k l)) (hgl:∀k,(Value.slice a' l.length c').ownBlock=some k->g≠some k) (hg:w.grownBy w' v.ownBlock) (hown:w'.ownsRow B 45 1 v' (ls.length+1) (xs++[.slice a' l.length c'])):z3g B v' (ls++[l]) g w':=by
 have hx:xs.length=ls.length:=by have:=h1.1;omega
 have kept:∀{a c}{l:List Int},w.ownsRow B 3 1 (.slice a l.length c) l.length (q0k l)->w'.ownsRow B 3 1 (.slice a l.length c) l.length (q0k l):=fun{a c l}h=>
  z9e h fun k hk=>hg.block k (q8r h hk).1 fun e=>j7u h h1 (by decide) hk e.symm rfl
 refine⟨xs++[.slice a' l.length c'],by rw[List.length_append];exact hown,fun i hi=>?_⟩;by_cases hlt:i<ls.length
 ·obtain⟨a,c,e1,e2,e3⟩:=h2 i hlt;have el:(ls++[l])[i]=ls[i]:=List.getElem_append_left hlt;rw[el];exact⟨a,c,by rw[List.getElem?_append_left (by omega)];exact e1,kept e2,e3⟩
 ·have hie:i=ls.length:=by simp at hi;omega
  subst hie;have el:(ls++[l])[ls.length]=l:=by simp
  rw[el];exact⟨a',c',by rw[List.getElem?_append_right (by omega),hx];simp,kept hl,hgl⟩
end Go.Proofs.YthjapabokcajhaaGreatDoor
