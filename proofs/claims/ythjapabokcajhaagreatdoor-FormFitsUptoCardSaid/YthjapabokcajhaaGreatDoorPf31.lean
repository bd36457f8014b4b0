/- Texts as one: Bs1, BstU, BstX, Plain, PlainR, BstC, RLs, RCst, OwnI, WayN, GatW, RAh, WayT, DocA1, DocR. -/
import Derived.Test.YthjapabokcajhaaGreatDoorPf25
import Derived.Test.YthjapabokcajhaaGreatDoorPf28
import Derived.Test.YthjapabokcajhaaGreatDoorPf30
import Derived.Test.YthjapabokcajhaaGreatDoorPf20
import Derived.Lib.Bytealg
import Derived.Lib.Strings
import Derived.Lib.IndexBytes
import Derived.Test.YthjapabokcajhaaGreatDoorPf03
import Derived.Test.YthjapabokcajhaaGreatDoorPf05
import Derived.Test.YthjapabokcajhaaGreatDoorPf24
import Derived.Deep.AppendLies
import Derived.Laws.Cover3
import Derived.Test.YthjapabokcajhaaGreatDoorPf19
namespace Go.Proofs.YthjapabokcajhaaGreatDoor
open Go Go.RowKit
set_option maxRecDepth 100000
set_option maxHeartbeats 4000000
theorem k2l(ds:List Nd)(ws:List Int)(a wa:Option Addr)(cap wc:Nat)(hc:ds.length<=cap)(hwc:ws.length<=wc)(hl:ws.length<=9223372036854775807)(w:World)(hN:q1u w a ds)(hI:q8j w wa ws):
  Calls Tryz.prog 111 #[.slice a ds.length cap,.slice wa ws.length wc] w fun e w'=>e=.returned (.string (shS (q4i ds ws)))/\Below w.heap.size w w':=by
 have HC:Hid (Calls Tryz.prog 19 #[.slice a ds.length cap,.slice wa ws.length wc] w fun e w'=>e=.returned (.tuple #[.string (shS (q4i ds ws)),q1p (shE (q4i ds ws))])/\Below w.heap.size w w'):=z5o ds ws a wa cap wc hc hwc hl w hN hI;clear hN hI hc hwc hl;generalize shS (q4i ds ws)=s at *;generalize q1p (shE (q4i ds ws))=v at *;go_in;go_wp2_with fail;refine HC.out.mono ?_;rintro e w2⟨rfl,hb⟩;go_wp2;go_ret;exact⟨rfl,hb⟩
def bE(ds:List Nd)(wd:Int):Int:=if q2a ds=0 then(if wd<0\/100<wd then 1 else 0)else q2a ds
open Classical in
noncomputable def bA(ds:List Nd)(wd:Int):Crs:=if h:q2a ds=0 then(if wd<0\/100<wd then((0,0),[])else bs wd.toNat 0 [(0,j2s ds h)])else((0,0),[])
noncomputable def bT(ds:List Nd)(wd:Int):ByteArray:=if bE ds wd=0 then shS (q4i ds (bA ds wd).2)else⟨#[]⟩
theorem j2l{ds:List Nd}{wd:Int}(h:bE ds wd≠0):bA ds wd=((0,0),[]):=by
 unfold bE at h;unfold bA
 split
 ·rename_i h0;rw[if_pos h0]at h
  split at h
  ·rename_i h1;rw[if_pos h1]
  ·exact absurd rfl h
 ·rfl
theorem k1t{ds:List Nd}{wd:Nat}{t:Tr}(ht:t.Wf)(e:ds=t.nodes)(hl:ds.length<=400)(hw:wd<=100):bE ds wd=0/\bA ds wd=bs wd 0 [(0,t)]:=by
 have h:q2a ds=0:=by rw[e];exact q7i ht (by rw[<-e];exact hl)
 have hn:¬((wd:Int)<0\/(100:Int)<wd):=by omega
 refine⟨by rw[bE,if_pos h,if_neg hn],?_⟩;rw[bA,dif_pos h,if_neg hn,z2d h ht e,Int.toNat_natCast]
theorem j7w{t:Tr}(ht:t.Wf)(wd:Nat):vv (q0a t) wd 0 0=bs wd 0 [(0,t)]:=by rw[vv,(z3e ht).kont]
theorem j1e{w:World}{B B' e size n:Nat}{v:Value}{xs:List Value}(h:w.ownsRow B e size v n xs)(hB:B'<=B):w.ownsRow B' e size v n xs:=by
 refine⟨h.1,?_⟩;rcases h.2 with h0|⟨g,c,cur,rfl,hb,rest⟩
 ·exact .inl h0
 ·exact .inr ⟨g,c,cur,rfl,Nat.le_trans hB hb,rest⟩
theorem k6m(w:World)(B:Nat):w.ownsRow B 3 1 (.slice none 0 0) 0 (q0v []):=⟨rfl,.inl ⟨rfl,rfl⟩⟩
def z1r(ds:List Nd)(wd:Int)(w:World)(e:Ending)(w':World):Prop:=
 (∃wa wc,e=.returned (.tuple #[.string (bT ds wd),.slice wa (bA ds wd).2.length wc,.agg #[.int .i64 (bA ds wd).1.1,.int .i64 (bA ds wd).1.2],q1p (bE ds wd)])/\w'.ownsRow w.heap.size 3 1 (.slice wa (bA ds wd).2.length wc) (bA ds wd).2.length (q0v (bA ds wd).2))/\Below w.heap.size w w'
theorem k8z(ds:List Nd)(wd:Int)(a:Option Addr)(cap:Nat)(w:World)(hN:q1u w a ds)(h:q2a ds≠0):
  Calls Tryz.prog 71 #[.slice a ds.length cap,.int .i64 wd] w fun e w'=>z1r ds wd w e w':=by
 have e0:bE ds wd=q2a ds:=by rw[bE,if_neg h]
 have e1:=j2l (ds:=ds) (wd:=wd) (by rw[e0];exact h);have e2:bT ds wd=⟨#[]⟩:=by rw[bT,if_neg (by rw[e0];exact h)]
 have HN:Hid (∀O,q1u (w.alloc O) a ds):=fun O=>hN.below ((Below.refl _ w).alloc (Nat.le_refl _) O)
 have H:Hid (q2a ds≠0):=h;unfold z1r;rw[e0,e1,e2,q0o h];clear hN h e0 e1 e2;go_in;go_wp2_with fail;refine(q1y ds a cap _ (HN.out _)).mono ?_;rintro e w2⟨rfl,hB⟩;rw[q0o H.out];obtain⟨hcl,hfr⟩:=q1g hB;have k0:w2.cell? ⟨w.heap.size,0,none⟩=some (.int .i64 0):=(hcl _ _ (by simp)).trans (by simp[go_sem]);have k1:w2.cell? ⟨w.heap.size,1,none⟩=some (.int .i64 0):=(hcl _ _ (by simp)).trans (by simp[go_sem]);have f0:w2.frozen? ⟨w.heap.size,0,none⟩=false:=(hfr _ _ (by simp)).trans (by simp[go_sem]);have f1:w2.frozen? ⟨w.heap.size,1,none⟩=false:=(hfr _ _ (by simp)).trans (by simp[go_sem]);have hB2:Below w.heap.size w w2:=((Below.refl _ w).alloc (Nat.le_refl _) _).trans (hB.mono (by simp));clear hcl hfr hB;go_wp2;refine bodyPost_ret (v:=.tuple #[.string ⟨#[]⟩,.slice none 0 0,.agg #[.int .i64 0,.int .i64 0],.iface 23 (.int .i64 (q2a ds))]) (by simp[results,Tryz.results71,go_sem,k0,k1]) rfl ?_;exact⟨⟨none,0,rfl,k6m _ _⟩,(hB2.setCell (p:=⟨w.heap.size,0,none⟩) (Nat.le_refl _) _).setCell (p:=⟨w.heap.size,1,none⟩) (Nat.le_refl _) _⟩
theorem z9r(ds:List Nd)(wd:Int)(a:Option Addr)(cap:Nat)(w:World)(hN:q1u w a ds)(h:q2a ds=0)(hw:wd<0\/100<wd):
  Calls Tryz.prog 71 #[.slice a ds.length cap,.int .i64 wd] w fun e w'=>z1r ds wd w e w':=by
 have e0:bE ds wd=1:=by rw[bE,if_pos h,if_pos hw]
 have e1:=j2l (ds:=ds) (wd:=wd) (by rw[e0];decide);have e2:bT ds wd=⟨#[]⟩:=by rw[bT,if_neg (by rw[e0];decide)]
 have HN:Hid (∀O,q1u (w.alloc O) a ds):=fun O=>hN.below ((Below.refl _ w).alloc (Nat.le_refl _) O)
 have H:Hid (q2a ds=0):=h;unfold z1r;rw[e0,e1,e2,z0u];clear hN h e0 e1 e2;rcases hw with hw|hw
 case' inr=>have hw':¬wd<0:=by omega
 all_goals
  go_in;go_wp2_with fail;refine(q1y ds a cap _ (HN.out _)).mono ?_;rintro e w2⟨rfl,hB⟩;rw[H.out,q0u];obtain⟨hcl,hfr⟩:=q1g hB;have k0:w2.cell? ⟨w.heap.size,0,none⟩=some (.int .i64 0):=(hcl _ _ (by simp)).trans (by simp[go_sem]);have k1:w2.cell? ⟨w.heap.size,1,none⟩=some (.int .i64 0):=(hcl _ _ (by simp)).trans (by simp[go_sem]);have f0:w2.frozen? ⟨w.heap.size,0,none⟩=false:=(hfr _ _ (by simp)).trans (by simp[go_sem]);have f1:w2.frozen? ⟨w.heap.size,1,none⟩=false:=(hfr _ _ (by simp)).trans (by simp[go_sem]);have hB2:Below w.heap.size w w2:=((Below.refl _ w).alloc (Nat.le_refl _) _).trans (hB.mono (by simp));clear hcl hfr hB;go_wp2;refine bodyPost_ret (v:=.tuple #[.string ⟨#[]⟩,.slice none 0 0,.agg #[.int .i64 0,.int .i64 0],.iface 23 (.int .i64 1)]) (by simp[results,Tryz.results71,go_sem,k0,k1]) rfl ?_;exact⟨⟨none,0,rfl,k6m _ _⟩,(hB2.setCell (p:=⟨w.heap.size,0,none⟩) (Nat.le_refl _) _).setCell (p:=⟨w.heap.size,1,none⟩) (Nat.le_refl _) _⟩
theorem j4n(ds:List Nd)(t:Tr)(hd:ds=t.nodes)(ht:t.Wf)(hl:ds.length<=400)(wd:Nat)(hw:wd<=100)(a:Option Addr)(cap:Nat)(hc:ds.length<=cap)(w:World)(hN:q1u w a ds):
  Calls Tryz.prog 71 #[.slice a ds.length cap,.int .i64 wd] w fun e w'=>z1r ds wd w e w':=by
 obtain⟨e0,e1⟩:=k1t ht hd hl hw;have hvv:=j7w ht wd;have e2:bT ds wd=shS (q4i ds (vv (q0a t) wd 0 0).2):=by rw[bT,if_pos e0,e1,hvv]
 have HR:Hid (z1r ds wd w=fun e w'=>(∃wa wc,e=.returned (.tuple #[.string (shS (q4i ds (vv (q0a t) wd 0 0).2)),.slice wa (vv (q0a t) wd 0 0).2.length wc,.agg #[.int .i64 (crs (q0a t) wd 0 0).o,.int .i64 (crs (q0a t) wd 0 0).l],.nilIface])/\w'.ownsRow w.heap.size 3 1 (.slice wa (vv (q0a t) wd 0 0).2.length wc) (vv (q0a t) wd 0 0).2.length (q0v (vv (q0a t) wd 0 0).2))/\Below w.heap.size w w'):=by
  show z1r ds wd w=_;have h3:=(k2x (wd:=wd) (c:=0) (z3e ht) (Nat.zero_le _)).1
  funext e w'
  unfold z1r;rw[e0,e1,e2,q0u,<-hvv];have h4:((vv (q0a t) wd 0 0).1.1:Int)=(crs (q0a t) wd 0 0).o:=by rw[h3]
  have h5:((vv (q0a t) wd 0 0).1.2:Int)=(crs (q0a t) wd 0 0).l:=by rw[h3]
  rw[h4,h5]
 rw[HR.out];have hR0:0<(q0a t).length:=by rw[q1t];exact t.pos
 have hRl:(q0a t).length=ds.length:=by rw[q1t,hd];rfl
 have h0:q2a ds=0:=by rw[hd];exact q7i ht (by rw[<-hd];exact hl)
 have hsz:t.sz<=400:=by unfold Tr.sz;rw[<-hd];exact hl
 have hne:ds≠[]:=by rw[hd];have:=t.pos;exact List.length_pos_iff.1 this
 have HN:Hid (q1u w a ds):=hN;have H0:Hid (q2a ds=0):=h0;have HSK:Hid (∀sb g mb,k1r sb g mb wd (q0a t) 0 0):=fun sb g mb=>j1f sb g mb ht hsz hw (q0a t).length 0 0 (by omega) (Nat.zero_le _) (Nat.zero_le _)
 have HCH:Hid (∀sb g mb(W:World)S,Inv sb g mb wd (q0a t) W S->S 0 0=true->Calls Tryz.prog 110 #[.pointer (some ⟨sb,0,none⟩)] W fun e w'=>(∃a cap,e=.returned (.slice a (vv (q0a t) wd 0 0).2.length cap)/\w'.ownsRow W.heap.size 3 1 (.slice a (vv (q0a t) wd 0 0).2.length cap) (vv (q0a t) wd 0 0).2.length (q0v (vv (q0a t) wd 0 0).2))/\Below W.heap.size W w'):=fun sb g mb W S hI hS=>z3m sb g mb ht hsz hw W S hI hS
 have HD:Hid (ds=t.nodes):=hd;have HRL:Hid ((q0a t).length=ds.length):=hRl
 have HWL:Hid ((vv (q0a t) wd 0 0).2.length<=9223372036854775807):=by
  show(vv (q0a t) wd 0 0).2.length<=_
  obtain⟨a',ha⟩:=k2b t wd;have hb:=q6n t wd;rw[q2e,<-hvv]at hb;have h1:=(q5f hb).1;have h2:=q6i t _ h1;rw[<-hd]at h2;omega
 have HPN:Hid (∀(s:Nat)(W:World),q0p s W a ds->s<W.heap.size->Calls Tryz.prog 108 #[.slice a ds.length cap,.int .i64 wd] W fun e w'=>e=.returned (.agg #[.slice (some ⟨W.heap.size+1,0,none⟩) ds.length ds.length,.int .i64 wd])/\PwR w' (W.heap.size+1) ds.length (fun j=>q2 (q0y (q0a t) j))/\Below W.heap.size W w'):=fun s W h1 h2=>z3q ds t HD.out ht hl a cap s wd hc W h1 h2
 have hmm:=@run_makeMap Tryz.prog;have hw0:¬(wd:Int)<0:=by omega
 have hw1:¬(100:Int)<(wd:Int):=by omega
 clear hN h0 hd hRl e0 e1 e2 hvv HR;go_in;go_wp2_with fail;refine(q1y ds a cap _ (HN.out.below ((Below.refl _ w).alloc (Nat.le_refl _) _))).mono ?_;rintro e w2⟨rfl,hB⟩;rw[H0.out,q0u];have hr2:q8w w2 w.heap.size:=q8w.kept ⟨_,_,heap_alloc_new w (.cells #[.int .i64 0,.int .i64 0] 54)⟩ (hB.block _ (by simp));have k0:w2.cell? ⟨w.heap.size,0,none⟩=some (.int .i64 0):=((q1g hB).1 _ _ (by simp)).trans (by simp[go_sem]);have k1:w2.cell? ⟨w.heap.size,1,none⟩=some (.int .i64 0):=((q1g hB).1 _ _ (by simp)).trans (by simp[go_sem]);have HB2:Hid (Below w.heap.size w w2):=((Below.refl _ w).alloc (Nat.le_refl _) _).trans (hB.mono (by simp));have hs2:w.heap.size<w2.heap.size:=by have:=hB.size;simp at this;omega
 have HK2:Hid (w2.cell? ⟨w.heap.size,0,none⟩=some (.int .i64 0)/\w2.cell? ⟨w.heap.size,1,none⟩=some (.int .i64 0)/\q8w w2 w.heap.size):=⟨k0,k1,hr2⟩;clear hr2 k0 k1 hB;obtain⟨s,hs,hns⟩:=(HN.out.below HB2.out).s hne;have HNS:Hid (q0p s w2 a ds):=hns;clear hns;go_wp2_with fail;refine(HPN.out s w2 HNS.out hs).mono ?_;rintro e w3⟨rfl,hpr,hb3⟩;have HB3:Hid (Below w.heap.size w w3):=HB2.out.trans (hb3.mono HB2.out.size);have hs3:=hb3.size;have hg3:w2.heap.size+1<w3.heap.size:=hpr.row.lt;have HK3:Hid (w3.cell? ⟨w.heap.size,0,none⟩=some (.int .i64 0)/\w3.cell? ⟨w.heap.size,1,none⟩=some (.int .i64 0)/\q8w w3 w.heap.size):=⟨(hb3.cell (p:=⟨w.heap.size,0,none⟩) hs2).trans HK2.out.1,(hb3.cell (p:=⟨w.heap.size,1,none⟩) hs2).trans HK2.out.2.1,HK2.out.2.2.kept (hb3.block _ hs2)⟩
 have HI4:Hid (Inv (w3.heap.size+1) (w2.heap.size+1) w3.heap.size wd (q0a t) ((w3.alloc (.map #[] 0)).alloc (.cells #[.slice (some ⟨w2.heap.size+1,0,none⟩) ds.length ds.length,.int .i64 wd,.map (some w3.heap.size)] 170)) (fun _ _=>false)):=by
  refine⟨⟨?_,?_,?_⟩,?_,?_,fun p c h=>by cases h⟩
  ·rw[HRL.out];simp[go_sem]
  ·simp[go_sem]
  ·rw[HRL.out];exact hpr.kept ((Below.heap_alloc _ _ _ (by simp;omega)).trans (Below.heap_alloc _ _ _ hg3))
  ·simp[go_sem]
  ·exact(Mem.made w3 _).kept (Below.heap_alloc _ _ _ (by simp))
 have HSE:Hid (∀W S,Inv (w3.heap.size+1) (w2.heap.size+1) w3.heap.size wd (q0a t) W S->Calls Tryz.prog 109 #[.pointer (some ⟨w3.heap.size+1,0,none⟩),.agg #[.int .i64 0,.int .i64 0]] W fun e w'=>e=.returned (.agg #[.int .i64 (crs (q0a t) wd 0 0).o,.int .i64 (crs (q0a t) wd 0 0).l,.int .i64 (crs (q0a t) wd 0 0).ch,.int .i64 (crs (q0a t) wd 0 0).np,.int .i64 (crs (q0a t) wd 0 0).nc])/\Left (w3.heap.size+1) (w2.heap.size+1) w3.heap.size wd (q0a t) S 0 0 0 W w'):=fun W S h=>by
  have:=HSK.out _ _ _ W S h
  rw[if_pos hR0]at this;exact this
 clear hpr hb3;go_wp2_with fail;refine(HSE.out _ _ HI4.out).mono ?_;rintro e w5⟨rfl,hbx,S',hI,_,_,hin⟩;have hsz4:((w3.alloc (.map #[] 0)).alloc (.cells #[.slice (some ⟨w2.heap.size+1,0,none⟩) ds.length ds.length,.int .i64 wd,.map (some w3.heap.size)] 170)).heap.size=w3.heap.size+1+1:=by simp
 have hs5:=hbx.size;rw[hsz4]at hs5;have hB4:Below w.heap.size w ((w3.alloc (.map #[] 0)).alloc (.cells #[.slice (some ⟨w2.heap.size+1,0,none⟩) ds.length ds.length,.int .i64 wd,.map (some w3.heap.size)] 170)):=k8v (k8v HB3.out _) _;have HB5:Hid (Below w.heap.size w w5):=hB4.trans ((hbx.mono (B':=w.heap.size) (by rw[hsz4];omega)).below (by omega))
 have HK5:Hid (w5.cell? ⟨w.heap.size,0,none⟩=some (.int .i64 0)/\w5.cell? ⟨w.heap.size,1,none⟩=some (.int .i64 0)/\q8w w5 w.heap.size):=
  ⟨(hbx.cell (p:=⟨w.heap.size,0,none⟩) (by rw[hsz4];simp;omega) (by simp;omega)).trans (ka (ka HK3.out.1 _) _),(hbx.cell (p:=⟨w.heap.size,1,none⟩) (by rw[hsz4];simp;omega) (by simp;omega)).trans (ka (ka HK3.out.2.1 _) _),HK3.out.2.2.kept ((hbx.block _ (by rw[hsz4];omega) (by omega)).trans ((Below.heap_alloc _ _ _ (by simp;omega)).trans (Below.heap_alloc _ _ _ (by omega))))⟩
 have HI5:Hid (Inv (w3.heap.size+1) (w2.heap.size+1) w3.heap.size wd (q0a t) w5 S'/\S' 0 0=true):=⟨hI,hin hR0⟩;clear hbx hI hin hB4 hsz4 HI4 HSE HSK HPN HB3 HK3 HK2;generalize hkk:crs (q0a t) wd 0 0=k at *;have HKE:Hid (crs (q0a t) wd 0 0=k):=hkk;clear hkk;go_wp2_with fail;refine(HCH.out _ _ _ _ _ (HI5.out.1.alloc _) HI5.out.2).mono ?_;rintro e w6⟨⟨wa,wc,rfl,hown6⟩,hb6⟩;obtain⟨_,_,hwc,hIw,_⟩:=j1b hown6;have hB6:Below w.heap.size w w6:=(k8v HB5.out _).trans (hb6.mono (by have:=HB5.out.size;simp;omega));have HB6:Hid (Below w.heap.size w w6):=hB6;have hlt6:w5.heap.size<w6.heap.size:=by have:=hb6.size;simp at this;omega
 have hw5:=HB5.out.size
 have HK6:Hid (w6.cell? ⟨w.heap.size,0,none⟩=some (.int .i64 0)/\w6.cell? ⟨w.heap.size,1,none⟩=some (.int .i64 0)/\q8w w6 w.heap.size):=
  ⟨(hb6.cell (p:=⟨w.heap.size,0,none⟩) (by simp;omega)).trans (ka HK5.out.1 _),(hb6.cell (p:=⟨w.heap.size,1,none⟩) (by simp;omega)).trans (ka HK5.out.2.1 _),HK5.out.2.2.kept ((hb6.block _ (by simp;omega)).trans (Below.heap_alloc _ _ _ (by omega)))⟩
 have u0:w6.drew.cell? ⟨w5.heap.size,0,none⟩=some (.int .i64 k.o):=(hb6.cell (p:=⟨w5.heap.size,0,none⟩) (by simp)).trans (by simp[go_sem]);have u1:w6.drew.cell? ⟨w5.heap.size,1,none⟩=some (.int .i64 k.l):=(hb6.cell (p:=⟨w5.heap.size,1,none⟩) (by simp)).trans (by simp[go_sem])
 have HSH:Hid (Calls Tryz.prog 111 #[.slice a ds.length cap,.slice wa (vv (q0a t) wd 0 0).2.length wc] w6.drew fun e w'=>e=.returned (.string (shS (q4i ds (vv (q0a t) wd 0 0).2)))/\Below w6.drew.heap.size w6.drew w'):=
  k2l ds (vv (q0a t) wd 0 0).2 a wa cap wc hc hwc HWL.out w6.drew (HN.out.below hB6.drew) (q8j.below hIw (Below.refl _ w6).drew)
 have HOW:Hid (∀W:World,(∀b,w5.heap.size<=b->b<w6.heap.size->W.heap[b]?=w6.heap[b]?)->W.ownsRow w.heap.size 3 1 (.slice wa (vv (q0a t) wd 0 0).2.length wc) (vv (q0a t) wd 0 0).2.length (q0v (vv (q0a t) wd 0 0).2)):=fun W hW=>by
  have h1:=q7d (w':=W) hown6 fun b hb=>hW b (by have:=j3t hown6 hb;simp at this;omega) (q7e hown6 hb).1
  exact j1e h1 (by simp;omega)
 have HL5:Hid (w.heap.size<w5.heap.size):=(show w.heap.size<w5.heap.size by omega);clear hown6 hIw hB6 hb6 HCH HI5 HK5;generalize hus:(vv (q0a t) wd 0 0).2=us at *;generalize htx:shS (q4i ds us)=tx at *;have HUS:Hid ((vv (q0a t) wd 0 0).2=us/\shS (q4i ds us)=tx):=⟨hus,htx⟩;clear hus htx;go_wp2_with fail
 go_region_held3 (fun w'=>w'.cell? ⟨w5.heap.size,0,none⟩=some (.int .i64 k.o)/\w'.cell? ⟨w5.heap.size,1,none⟩=some (.int .i64 k.l))
  (first|with_reducible exact⟨u0,u1⟩|with_reducible exact⟨u07,u17⟩|with_reducible exact⟨(cso (.inl (Nat.ne_of_lt HL5.out))).trans ((cso (.inl (Nat.ne_of_lt HL5.out))).trans u07),(cso (.inl (Nat.ne_of_lt HL5.out))).trans ((cso (.inl (Nat.ne_of_lt HL5.out))).trans u17)⟩)
  ((go_at_call 111;refine HSH.out.mono ?_;rintro e w7⟨rfl,hb7⟩;have u07:=(hb7.cell (p:=⟨w5.heap.size,0,none⟩) hlt6).trans u0;have u17:=(hb7.cell (p:=⟨w5.heap.size,1,none⟩) hlt6).trans u1;have k0:=(hb7.cell (p:=⟨w.heap.size,0,none⟩) (Nat.lt_of_le_of_lt hw5 hlt6)).trans HK6.out.1;have k1:=(hb7.cell (p:=⟨w.heap.size,1,none⟩) (Nat.lt_of_le_of_lt hw5 hlt6)).trans HK6.out.2.1;have hr7:=HK6.out.2.2.kept (hb7.block w.heap.size (Nat.lt_of_le_of_lt hw5 hlt6));have f0:w7.frozen? ⟨w.heap.size,0,none⟩=false:=hr7.frozen;have f1:w7.frozen? ⟨w.heap.size,1,none⟩=false:=hr7.frozen))
 all_goals
  go_wp2;refine bodyPost_ret (v:=.tuple #[.string tx,.slice wa us.length wc,.agg #[.int .i64 k.o,.int .i64 k.l],.nilIface]) (by simp[results,Tryz.results71,go_sem,k0,k1]) rfl ?_;rw[HUS.out.1,HUS.out.2,HKE.out];refine⟨⟨wa,wc,rfl,HOW.out _ fun b hb1 hb2=>?_⟩,?_⟩
  ·have h5:=HL5.out;exact(Below.heap_setCell _ _ _ _ (by simp;omega)).trans ((Below.heap_setCell _ _ _ _ (by simp;omega)).trans (hb7.block b hb2))
  ·exact((HB6.out.drew.trans (hb7.mono HB6.out.size)).setCell (p:=⟨w.heap.size,0,none⟩) (Nat.le_refl _) _).setCell (p:=⟨w.heap.size,1,none⟩) (Nat.le_refl _) _
theorem k1v(ds:List Nd)(wd:Int)(a:Option Addr)(cap:Nat)(hc:ds.length<=cap)(w:World)(hN:q1u w a ds):
  Calls Tryz.prog 71 #[.slice a ds.length cap,.int .i64 wd] w fun e w'=>z1r ds wd w e w':=by
 by_cases h:q2a ds=0
 ·by_cases hw:wd<0\/100<wd
  ·exact z9r ds wd a cap w hN h hw
  ·obtain⟨n,rfl⟩:∃n:Nat,wd=n:=⟨wd.toNat,by omega⟩;exact j4n ds _ (q2t h) (q7t h) (q3o h).1 n (by omega) a cap hc w hN
 ·exact k8z ds wd a cap w hN h
end Go.Proofs.YthjapabokcajhaaGreatDoor
namespace Go.Proofs.YthjapabokcajhaaGreatDoor
open Go Go.Lib
def stp(wd:Int)(x:Int × Int × Int)(b:UInt8):Int × Int × Int:=
 if b=10 then(x.1,x.2.1+1,0)else(if wd<x.2.2+1 then x.1+1 else x.1,x.2.1,x.2.2+1)
def stL(wd:Int)(l:List UInt8):Int × Int × Int:=l.foldl (stp wd) (0,0,0)
theorem j1n(wd:Int)(l:List UInt8)(b:UInt8):stL wd (l++[b])=stp wd (stL wd l) b:=by simp[stL]
theorem v0j(wd:Int)(l:List UInt8):∀(x:Int × Int × Int),0<=x.1->0<=x.2.1->0<=x.2.2->
  (0<=(l.foldl (stp wd) x).1/\(l.foldl (stp wd) x).1<=x.1+l.length)/\(0<=(l.foldl (stp wd) x).2.1/\(l.foldl (stp wd) x).2.1<=x.2.1+l.length)/\(0<=(l.foldl (stp wd) x).2.2/\(l.foldl (stp wd) x).2.2<=x.2.2+l.length):=by
 induction l with
 | nil=>intro x h1 h2 h3;simp;omega
 | cons b r ih=>
  intro x h1 h2 h3;have e:(b::r).foldl (stp wd) x=r.foldl (stp wd) (stp wd x b):=rfl;rw[e]
  have hs:0<=(stp wd x b).1/\(stp wd x b).1<=x.1+1/\0<=(stp wd x b).2.1/\(stp wd x b).2.1<=x.2.1+1/\0<=(stp wd x b).2.2/\(stp wd x b).2.2<=x.2.2+1:=by
   unfold stp;by_cases hb:b=10
   ·simp only[hb,if_true];omega
   ·simp only[hb,if_false];by_cases hw:wd<x.2.2+1
    ·simp only[hw,if_true];omega
    ·simp only[hw,if_false];omega
  have:=ih (stp wd x b) hs.1 hs.2.2.1 hs.2.2.2.2.1
  simp only[List.length_cons];omega
theorem v0g(wd:Int)(l:List UInt8):(0<=(stL wd l).1/\(stL wd l).1<=l.length)/\(0<=(stL wd l).2.1/\(stL wd l).2.1<=l.length)/\(0<=(stL wd l).2.2/\(stL wd l).2.2<=l.length):=by
 have:=v0j wd l (0,0,0) (by simp) (by simp) (by simp)
 simpa[stL]using this
theorem k7o(s:ByteArray)(k:Nat)(h:k<s.size):s.data.toList.take (k+1)=s.data.toList.take k++[s[k]]:=by
 rw[List.take_succ_eq_append_getElem (by simpa using h)];rfl
end Go.Proofs.YthjapabokcajhaaGreatDoor
namespace Go.Proofs.YthjapabokcajhaaGreatDoor
theorem k2w(wd:Nat):∀(l:List UInt8)(o n:Int)(c:Nat),l.foldl (stp wd) (o,n,(c:Int))=(o+(q1e wd c l).1,n+(q1e wd c l).2.1,((q1e wd c l).2.2:Int))
 | [],o,n,c=>by simp[q1e]
 | b::r,o,n,c=>by
  have e3:(b::r).foldl (stp wd) (o,n,(c:Int))=r.foldl (stp wd) (stp wd (o,n,(c:Int)) b):=rfl;rw[e3];simp only[q1e];by_cases hb:b=10
  ·have e4:stp wd (o,n,(c:Int)) b=(o,n+1,((0:Nat):Int)):=by simp[stp,hb]
   rw[e4,k2w wd r,if_pos hb];simp only[Prod.mk.injEq,and_true,true_and];omega
  ·have e4:stp wd (o,n,(c:Int)) b=(o+(if wd<=c then 1 else 0:Nat),n,((c+1:Nat):Int)):=by
    by_cases h:wd<=c
    ·have h':(wd:Int)<(c:Int)+1:=by omega
     simp[stp,hb,h,h']
    ·have h':¬(wd:Int)<(c:Int)+1:=by omega
     simp[stp,hb,h,h']
   rw[e4,k2w wd r,if_neg hb];simp only[Prod.mk.injEq,and_true];omega
theorem j5g(wd:Nat)(l:List UInt8):stL wd l=(((q1e wd 0 l).1:Int),((q1e wd 0 l).2.1:Int),((q1e wd 0 l).2.2:Int)):=by
 have:=k2w wd l 0 0 0
 simpa[stL]using this
end Go.Proofs.YthjapabokcajhaaGreatDoor
namespace Go.Proofs.YthjapabokcajhaaGreatDoor
open Go Go.RowKit
set_option maxRecDepth 100000
set_option maxHeartbeats 2000000
theorem v2b{b:UInt8}(h:(((b.toNat:Nat):Int)==10)=true):b=10:=by
 have h':((b.toNat:Nat):Int)=10:=beq_iff_eq.1 h;exact UInt8.toNat_inj.1 (by simpa using(by omega:b.toNat=10))
theorem j9i{b:UInt8}(h:(((b.toNat:Nat):Int)==10)=false):¬b=10:=by
 rintro rfl;simp at h
theorem k6x(s:ByteArray)(wd:Int)(w:World)(hs:s.size<=2000000000):
  Calls Tryz.prog 20 #[.string s,.int .i64 wd] w fun e w'=>e=.returned (.agg #[.int .i64 (stL wd s.data.toList).1,.int .i64 (stL wd s.data.toList).2.1])/\Below w.heap.size w w':=by
 go_in;go_wp2
 go_loopw [6,7] (fun c i wr=>∃k:Nat,k<=s.size/\i=.int .i64 k/\c=.int .i64 (stL wd (s.data.toList.take k)).2.2/\Below w.heap.size w wr
   /\wr.cell? ⟨w.heap.size,0,none⟩=some (.int .i64 0)/\wr.cell? ⟨w.heap.size,1,none⟩=some (.int .i64 0)/\wr.frozen? ⟨w.heap.size,0,none⟩=false/\wr.frozen? ⟨w.heap.size,1,none⟩=false
   /\wr.cell? ⟨w.heap.size+1,0,none⟩=some (.int .i64 (stL wd (s.data.toList.take k)).1)/\wr.cell? ⟨w.heap.size+1,1,none⟩=some (.int .i64 (stL wd (s.data.toList.take k)).2.1)/\wr.frozen? ⟨w.heap.size+1,0,none⟩=false/\wr.frozen? ⟨w.heap.size+1,1,none⟩=false)
  (fun _ i _=>s.size-(intOf i).toNat)
 case atStart=>
  exact⟨0,Nat.zero_le _,rfl,rfl,((Below.refl _ _).alloc (Nat.le_refl _) _).alloc (by simp) _,by simp[go_sem],by simp[go_sem],by simp[go_sem],by simp[go_sem],by simp[go_sem,stL],by simp[go_sem,stL],by simp[go_sem],by simp[go_sem]⟩
 case round=>
  obtain⟨k,hk,rfl,rfl,hB,r0,r1,f0,f1,k0,k1,g0,g1⟩:=hrel;obtain⟨⟨b1,b2⟩,⟨b3,b4⟩,⟨b5,b6⟩⟩:=v0g wd (s.data.toList.take k);have bl:((s.data.toList.take k).length:Int)<=2000000000:=by have:=List.length_take_le k s.data.toList;omega
  generalize hS:stL wd (s.data.toList.take k)=S at b1 b2 b3 b4 b5 b6 k0 k1⊢;have b2':S.1<=2000000000:=by omega
  have b4':S.2.1<=2000000000:=by omega
  have b6':S.2.2<=2000000000:=by omega
  clear b2 b4 b6 bl;have HS:Hid (stL wd (s.data.toList.take k)=S):=hS;clear hS;by_cases hlt:k<s.size
  ·have HN:Hid (stL wd (s.data.toList.take (k+1))=stp wd S s[k]):=by
    have h:=j1n wd (s.data.toList.take k) s[k];rw[<-k7o s k hlt,HS.out]at h;exact h
   cases hb:(((s[k].toNat:Nat):Int)==10)with
   | true=>
    have hb':s[k]=10:=v2b hb;have HE:Hid (stL wd (s.data.toList.take (k+1))=(S.1,S.2.1+1,0)):=by rw[stp,if_pos hb']at HN;exact HN
    clear hb' HN;go_wp2
    go_roundw
    case rel=>
     refine⟨k+1,by omega,by go_num,by rw[HE.out],hB.setCell (p:=⟨w.heap.size+1,1,none⟩) (by simp) _,(cso (by omega)).trans r0,(cso (by omega)).trans r1,csf.trans f0,csf.trans f1,?_,?_,csf.trans g0,csf.trans g1⟩
     ·rw[HE.out];exact(cso (by omega)).trans k0
     ·rw[HE.out];exact css k1
    case measure=>simp[intOf];omega
   | false=>
    have hb':¬s[k]=10:=j9i hb;by_cases hw:wd<S.2.2+1
    ·have HE:Hid (stL wd (s.data.toList.take (k+1))=(S.1+1,S.2.1,S.2.2+1)):=by rw[stp,if_neg hb',if_pos hw]at HN;exact HN
     clear hb' HN;go_wp2
     go_roundw
     case rel=>
      refine⟨k+1,by omega,by go_num,by rw[HE.out],hB.setCell (p:=⟨w.heap.size+1,0,none⟩) (by simp) _,(cso (by omega)).trans r0,(cso (by omega)).trans r1,csf.trans f0,csf.trans f1,?_,?_,csf.trans g0,csf.trans g1⟩
      ·rw[HE.out];exact css k0
      ·rw[HE.out];exact(cso (by omega)).trans k1
     case measure=>simp[intOf];omega
    ·have HE:Hid (stL wd (s.data.toList.take (k+1))=(S.1,S.2.1,S.2.2+1)):=by rw[stp,if_neg hb',if_neg hw]at HN;exact HN
     clear hb' HN;go_wp2
     go_roundw
     case rel=>
      refine⟨k+1,by omega,by go_num,by rw[HE.out],hB,r0,r1,f0,f1,?_,?_,g0,g1⟩
      ·rw[HE.out];exact k0
      ·rw[HE.out];exact k1
     case measure=>simp[intOf];omega
  ·have hkk:s.data.toList.take k=s.data.toList:=List.take_of_length_le (by rw[<-Lib.size_eq];omega);have hT:=HS.out;rw[hkk]at hT;rw[<-hT]at k0 k1;clear hT hkk;go_wp2;exact bodyPost_ret (v:=.agg #[.int .i64 (stL wd s.data.toList).1,.int .i64 (stL wd s.data.toList).2.1]) (by simp[results,Tryz.results20,go_sem,r0,r1]) rfl ⟨rfl,(hB.setCell (p:=⟨w.heap.size,0,none⟩) (by simp) _).setCell (p:=⟨w.heap.size,1,none⟩) (by simp) _⟩
end Go.Proofs.YthjapabokcajhaaGreatDoor
