/- Texts as one: Bs1, But. -/
import Derived.Test.YtchdplceopegoaaGreatDoorPs29
namespace Go.Proofs.YtchdplceopegoaaGreatDoor
open Go Go.RowKit
set_option maxRecDepth 100000
set_option maxHeartbeats 4000000
theorem k9h (ds:List Nd) (ws:List Int) (a wa:Option Addr) (cap wc:Nat) (hc:ds.length≤cap) (hwc:ws.length≤wc) (hl:ws.length≤9223372036854775807) (w:World) (hN:q2y w a ds) (hI:z4d w wa ws) :
  Calls Tryz.prog 128 #[.slice a ds.length cap,.slice wa ws.length wc] w fun e w'=>e = .returned (.string (shS (q6r ds ws)))∧Below w.heap.size w w':=by
 have HC:Hid (Calls Tryz.prog 166 #[.slice a ds.length cap,.slice wa ws.length wc] w fun e w'=>e = .returned (.tuple #[.string (shS (q6r ds ws)),q1f (shE (q6r ds ws))])∧Below w.heap.size w w'):=j6j ds ws a wa cap wc hc hwc hl w hN hI
 clear hN hI hc hwc hl
 generalize shS (q6r ds ws)=s at *
 generalize q1f (shE (q6r ds ws))=v at *
 go_enter Tryz.func128,Tryz.ntmps128
 go_wp2_with fail
 refine HC.out.mono ?_
 rintro e w2 ⟨rfl,hb⟩
 go_wp2
 go_ret
 exact ⟨rfl,hb⟩
def bE (ds:List Nd) (wd:Int):Int:=if q2n ds=0 then (if wd<0∨100<wd then 1 else 0) else q2n ds
open Classical in
noncomputable def bA (ds:List Nd) (wd:Int):Crs:=if h:q2n ds=0 then (if wd<0∨100<wd then ((0,0),[]) else bs wd.toNat 0 [(0,v2q ds h)]) else ((0,0),[])
noncomputable def bT (ds:List Nd) (wd:Int):ByteArray:=if bE ds wd=0 then shS (q6r ds (bA ds wd).2) else ⟨#[]⟩
theorem v2h {ds:List Nd} {wd:Int} (h:bE ds wd≠0):bA ds wd=((0,0),[]):=by
 unfold bE at h
 unfold bA
 split
 ·rename_i h0
  rw [if_pos h0] at h
  split at h
  ·rename_i h1;rw [if_pos h1]
  ·exact absurd rfl h
 ·rfl
theorem k8o {ds:List Nd} {wd:Nat} {t:Tr} (ht:t.Wf) (e:ds=t.nodes) (hl:ds.length≤400) (hw:wd≤100):bE ds wd=0∧bA ds wd=bs wd 0 [(0,t)]:=by
 have h:q2n ds=0:=by rw [e];exact q9z ht (by rw [←e];exact hl)
 have hn:¬ ((wd:Int)<0∨(100:Int)<wd):=by omega
 refine ⟨by rw [bE,if_pos h,if_neg hn],?_⟩
 rw [bA,dif_pos h,if_neg hn,z6f h ht e,Int.toNat_natCast]
theorem v9f {t:Tr} (ht:t.Wf) (wd:Nat):vv (q0a t) wd 0 0=bs wd 0 [(0,t)]:=by rw [vv,(z7j ht).kont]
theorem v0o {w:World} {B B' e size n:Nat} {v:Value} {xs:List Value} (h:w.ownsRow B e size v n xs) (hB:B'≤B):w.ownsRow B' e size v n xs:=by
 refine ⟨h.1,?_⟩
 rcases h.2 with h0 | ⟨g,c,cur,rfl,hb,rest⟩
 ·exact .inl h0
 ·exact .inr ⟨g,c,cur,rfl,Nat.le_trans hB hb,rest⟩
theorem j3r (w:World) (B:Nat):w.ownsRow B 3 1 (.slice none 0 0) 0 (q0u []):=⟨rfl,.inl ⟨rfl,rfl⟩⟩
def z5p (ds:List Nd) (wd:Int) (w:World) (e:Ending) (w':World):Prop:=
 (∃ wa wc,e = .returned (.tuple #[.string (bT ds wd),.slice wa (bA ds wd).2.length wc,.agg #[.int .i64 (bA ds wd).1.1,.int .i64 (bA ds wd).1.2],q1f (bE ds wd)])∧w'.ownsRow w.heap.size 3 1 (.slice wa (bA ds wd).2.length wc) (bA ds wd).2.length (q0u (bA ds wd).2))∧Below w.heap.size w w'
theorem j7m (ds:List Nd) (wd:Int) (a:Option Addr) (cap:Nat) (w:World) (hN:q2y w a ds) (h:q2n ds≠0) :
  Calls Tryz.prog 88 #[.slice a ds.length cap,.int .i64 wd] w fun e w'=>z5p ds wd w e w':=by
 have e0:bE ds wd=q2n ds:=by rw [bE,if_neg h]
 have e1:=v2h (ds:=ds) (wd:=wd) (by rw [e0];exact h)
 have e2:bT ds wd=⟨#[]⟩:=by rw [bT,if_neg (by rw [e0];exact h)]
 have HN:Hid (∀ O,q2y (w.alloc O) a ds):=fun O=>hN.below ((Below.refl _ w).alloc (Nat.le_refl _) O)
 have H:Hid (q2n ds≠0):=h
 unfold z5p
 rw [e0,e1,e2,q0h h]
 clear hN h e0 e1 e2
 go_enter Tryz.func88,Tryz.ntmps88
 go_wp2_with fail
 refine (q2j ds a cap _ (HN.out _)).mono ?_
 rintro e w2 ⟨rfl,hB⟩
 rw [q0h H.out]
 obtain ⟨hcl,hfr⟩:=q0w hB
 have k0:w2.cell? ⟨w.heap.size,0,none⟩=some (.int .i64 0):=(hcl _ _ (by simp)).trans (by simp [go_sem])
 have k1:w2.cell? ⟨w.heap.size,1,none⟩=some (.int .i64 0):=(hcl _ _ (by simp)).trans (by simp [go_sem])
 have f0:w2.frozen? ⟨w.heap.size,0,none⟩=false:=(hfr _ _ (by simp)).trans (by simp [go_sem])
 have f1:w2.frozen? ⟨w.heap.size,1,none⟩=false:=(hfr _ _ (by simp)).trans (by simp [go_sem])
 have hB2:Below w.heap.size w w2:=((Below.refl _ w).alloc (Nat.le_refl _) _).trans (hB.mono (by simp))
 clear hcl hfr hB
 go_wp2
 refine bodyPost_ret (v:=.tuple #[.string ⟨#[]⟩,.slice none 0 0,.agg #[.int .i64 0,.int .i64 0],.iface 24 (.int .i64 (q2n ds))]) (by simp [results,Tryz.results88,go_sem,k0,k1]) rfl ?_
 exact ⟨⟨none,0,rfl,j3r _ _⟩,(hB2.setCell (p:=⟨w.heap.size,0,none⟩) (Nat.le_refl _) _).setCell (p:=⟨w.heap.size,1,none⟩) (Nat.le_refl _) _⟩
theorem k5r (ds:List Nd) (wd:Int) (a:Option Addr) (cap:Nat) (w:World) (hN:q2y w a ds) (h:q2n ds=0) (hw:wd<0∨100<wd) :
  Calls Tryz.prog 88 #[.slice a ds.length cap,.int .i64 wd] w fun e w'=>z5p ds wd w e w':=by
 have e0:bE ds wd=1:=by rw [bE,if_pos h,if_pos hw]
 have e1:=v2h (ds:=ds) (wd:=wd) (by rw [e0];decide)
 have e2:bT ds wd=⟨#[]⟩:=by rw [bT,if_neg (by rw [e0];decide)]
 have HN:Hid (∀ O,q2y (w.alloc O) a ds):=fun O=>hN.below ((Below.refl _ w).alloc (Nat.le_refl _) O)
 have H:Hid (q2n ds=0):=h
 unfold z5p
 rw [e0,e1,e2,z4o]
 clear hN h e0 e1 e2
 rcases hw with hw | hw
 case' inr=>have hw':¬ wd<0:=by omega
 all_goals
  go_enter Tryz.func88,Tryz.ntmps88
  go_wp2_with fail
  refine (q2j ds a cap _ (HN.out _)).mono ?_
  rintro e w2 ⟨rfl,hB⟩
  rw [H.out,q0q]
  obtain ⟨hcl,hfr⟩:=q0w hB
  have k0:w2.cell? ⟨w.heap.size,0,none⟩=some (.int .i64 0):=(hcl _ _ (by simp)).trans (by simp [go_sem])
  have k1:w2.cell? ⟨w.heap.size,1,none⟩=some (.int .i64 0):=(hcl _ _ (by simp)).trans (by simp [go_sem])
  have f0:w2.frozen? ⟨w.heap.size,0,none⟩=false:=(hfr _ _ (by simp)).trans (by simp [go_sem])
  have f1:w2.frozen? ⟨w.heap.size,1,none⟩=false:=(hfr _ _ (by simp)).trans (by simp [go_sem])
  have hB2:Below w.heap.size w w2:=((Below.refl _ w).alloc (Nat.le_refl _) _).trans (hB.mono (by simp))
  clear hcl hfr hB
  go_wp2
  refine bodyPost_ret (v:=.tuple #[.string ⟨#[]⟩,.slice none 0 0,.agg #[.int .i64 0,.int .i64 0],.iface 24 (.int .i64 1)]) (by simp [results,Tryz.results88,go_sem,k0,k1]) rfl ?_
  exact ⟨⟨none,0,rfl,j3r _ _⟩,(hB2.setCell (p:=⟨w.heap.size,0,none⟩) (Nat.le_refl _) _).setCell (p:=⟨w.heap.size,1,none⟩) (Nat.le_refl _) _⟩
theorem v4w (ds:List Nd) (t:Tr) (hd:ds=t.nodes) (ht:t.Wf) (hl:ds.length≤400) (wd:Nat) (hw:wd≤100) (a:Option Addr) (cap:Nat) (hc:ds.length≤cap) (w:World) (hN:q2y w a ds) :
  Calls Tryz.prog 88 #[.slice a ds.length cap,.int .i64 wd] w fun e w'=>z5p ds wd w e w':=by
 obtain ⟨e0,e1⟩:=k8o ht hd hl hw
 have hvv:=v9f ht wd
 have e2:bT ds wd=shS (q6r ds (vv (q0a t) wd 0 0).2):=by rw [bT,if_pos e0,e1,hvv]
 have HR:Hid (z5p ds wd w=fun e w'=>(∃ wa wc,e = .returned (.tuple #[.string (shS (q6r ds (vv (q0a t) wd 0 0).2)),.slice wa (vv (q0a t) wd 0 0).2.length wc,.agg #[.int .i64 (crs (q0a t) wd 0 0).o,.int .i64 (crs (q0a t) wd 0 0).l],.nilIface])∧w'.ownsRow w.heap.size 3 1 (.slice wa (vv (q0a t) wd 0 0).2.length wc) (vv (q0a t) wd 0 0).2.length (q0u (vv (q0a t) wd 0 0).2))∧Below w.heap.size w w'):=by
  show z5p ds wd w=_
  have h3:=(k9w (wd:=wd) (c:=0) (z7j ht) (Nat.zero_le _)).1
  funext e w'
  unfold z5p
  rw [e0,e1,e2,q0q,←hvv]
  have h4:((vv (q0a t) wd 0 0).1.1:Int)=(crs (q0a t) wd 0 0).o:=by rw [h3]
  have h5:((vv (q0a t) wd 0 0).1.2:Int)=(crs (q0a t) wd 0 0).l:=by rw [h3]
  rw [h4,h5]
 rw [HR.out]
 have hR0:0<(q0a t).length:=by rw [q2f];exact t.pos
 have hRl:(q0a t).length=ds.length:=by rw [q2f,hd];rfl
 have h0:q2n ds=0:=by rw [hd];exact q9z ht (by rw [←hd];exact hl)
 have hsz:t.sz≤400:=by unfold Tr.sz;rw [←hd];exact hl
 have hne:ds≠[]:=by rw [hd];have:=t.pos;exact List.length_pos_iff.1 this
 have HN:Hid (q2y w a ds):=hN
 have H0:Hid (q2n ds=0):=h0
 have HSK:Hid (∀ sb g mb,k8g sb g mb wd (q0a t) 0 0):=fun sb g mb=>v0r sb g mb ht hsz hw (q0a t).length 0 0 (by omega) (Nat.zero_le _) (Nat.zero_le _)
 have HCH:Hid (∀ sb g mb (W:World) S,Inv sb g mb wd (q0a t) W S→S 0 0=true→Calls Tryz.prog 127 #[.pointer (some ⟨sb,0,none⟩)] W fun e w'=>(∃ a cap,e = .returned (.slice a (vv (q0a t) wd 0 0).2.length cap)∧w'.ownsRow W.heap.size 3 1 (.slice a (vv (q0a t) wd 0 0).2.length cap) (vv (q0a t) wd 0 0).2.length (q0u (vv (q0a t) wd 0 0).2))∧Below W.heap.size W w'):=fun sb g mb W S hI hS=>z8b sb g mb ht hsz hw W S hI hS
 have HD:Hid (ds=t.nodes):=hd
 have HRL:Hid ((q0a t).length=ds.length):=hRl
 have HWL:Hid ((vv (q0a t) wd 0 0).2.length≤9223372036854775807):=by
  show (vv (q0a t) wd 0 0).2.length≤_
  obtain ⟨a',ha⟩:=k8x t wd
  have hb:=q8v t wd
  rw [q2r,←hvv] at hb
  have h1:=(q7e hb).1
  have h2:=q8l t _ h1
  rw [←hd] at h2
  omega
 have HPN:Hid (∀ (s:Nat) (W:World),q0v s W a ds→s<W.heap.size→Calls Tryz.prog 125 #[.slice a ds.length cap,.int .i64 wd] W fun e w'=>e = .returned (.agg #[.slice (some ⟨W.heap.size+1,0,none⟩) ds.length ds.length,.int .i64 wd])∧PwR w' (W.heap.size+1) ds.length (fun j=>q2 (q1c (q0a t) j))∧Below W.heap.size W w'):=fun s W h1 h2=>z8d ds t HD.out ht hl a cap s wd hc W h1 h2
 have hmm:=@run_makeMap Tryz.prog
 have hw0:¬ (wd:Int)<0:=by omega
 have hw1:¬ (100:Int)<(wd:Int):=by omega
 clear hN h0 hd hRl e0 e1 e2 hvv HR
 go_enter Tryz.func88,Tryz.ntmps88
 go_wp2_with fail
 refine (q2j ds a cap _ (HN.out.below ((Below.refl _ w).alloc (Nat.le_refl _) _))).mono ?_
 rintro e w2 ⟨rfl,hB⟩
 rw [H0.out,q0q]
 have hr2:z2o w2 w.heap.size:=z2o.kept ⟨_,_,heap_alloc_new w (.cells #[.int .i64 0,.int .i64 0] 94)⟩ (hB.block _ (by simp))
 have k0:w2.cell? ⟨w.heap.size,0,none⟩=some (.int .i64 0):=((q0w hB).1 _ _ (by simp)).trans (by simp [go_sem])
 have k1:w2.cell? ⟨w.heap.size,1,none⟩=some (.int .i64 0):=((q0w hB).1 _ _ (by simp)).trans (by simp [go_sem])
 have HB2:Hid (Below w.heap.size w w2):=((Below.refl _ w).alloc (Nat.le_refl _) _).trans (hB.mono (by simp))
 have hs2:w.heap.size<w2.heap.size:=by have:=hB.size;simp at this;omega
 have HK2:Hid (w2.cell? ⟨w.heap.size,0,none⟩=some (.int .i64 0)∧w2.cell? ⟨w.heap.size,1,none⟩=some (.int .i64 0)∧z2o w2 w.heap.size):=⟨k0,k1,hr2⟩
 clear hr2 k0 k1 hB
 obtain ⟨s,hs,hns⟩:=(HN.out.below HB2.out).s hne
 have HNS:Hid (q0v s w2 a ds):=hns
 clear hns
 go_wp2_with fail
 refine (HPN.out s w2 HNS.out hs).mono ?_
 rintro e w3 ⟨rfl,hpr,hb3⟩
 have HB3:Hid (Below w.heap.size w w3):=HB2.out.trans (hb3.mono HB2.out.size)
 have hs3:=hb3.size
 have hg3:w2.heap.size+1<w3.heap.size:=hpr.row.lt
 have HK3:Hid (w3.cell? ⟨w.heap.size,0,none⟩=some (.int .i64 0)∧w3.cell? ⟨w.heap.size,1,none⟩=some (.int .i64 0)∧z2o w3 w.heap.size):=⟨(hb3.cell (p:=⟨w.heap.size,0,none⟩) hs2).trans HK2.out.1,(hb3.cell (p:=⟨w.heap.size,1,none⟩) hs2).trans HK2.out.2.1,HK2.out.2.2.kept (hb3.block _ hs2)⟩
 have HI4:Hid (Inv (w3.heap.size+1) (w2.heap.size+1) w3.heap.size wd (q0a t) ((w3.alloc (.map #[] 0)).alloc (.cells #[.slice (some ⟨w2.heap.size+1,0,none⟩) ds.length ds.length,.int .i64 wd,.map (some w3.heap.size)] 214)) (fun _ _=>false)):=by
  refine ⟨⟨?_,?_,?_⟩,?_,?_,fun p c h=>by cases h⟩
  ·rw [HRL.out];simp [go_sem]
  ·simp [go_sem]
  ·rw [HRL.out];exact hpr.kept ((Below.heap_alloc _ _ _ (by simp;omega)).trans (Below.heap_alloc _ _ _ hg3))
  ·simp [go_sem]
  ·exact (Mem.made w3 _).kept (Below.heap_alloc _ _ _ (by simp))
 have HSE:Hid (∀ W S,Inv (w3.heap.size+1) (w2.heap.size+1) w3.heap.size wd (q0a t) W S→Calls Tryz.prog 126 #[.pointer (some ⟨w3.heap.size+1,0,none⟩),.agg #[.int .i64 0,.int .i64 0]] W fun e w'=>e = .returned (.agg #[.int .i64 (crs (q0a t) wd 0 0).o,.int .i64 (crs (q0a t) wd 0 0).l,.int .i64 (crs (q0a t) wd 0 0).ch,.int .i64 (crs (q0a t) wd 0 0).np,.int .i64 (crs (q0a t) wd 0 0).nc])∧Left (w3.heap.size+1) (w2.heap.size+1) w3.heap.size wd (q0a t) S 0 0 0 W w'):=fun W S h=>by
  have:=HSK.out _ _ _ W S h
  rw [if_pos hR0] at this
  exact this
 clear hpr hb3
 go_wp2_with fail
 refine (HSE.out _ _ HI4.out).mono ?_
 rintro e w5 ⟨rfl,hbx,S',hI,_,_,hin⟩
 have hsz4:((w3.alloc (.map #[] 0)).alloc (.cells #[.slice (some ⟨w2.heap.size+1,0,none⟩) ds.length ds.length,.int .i64 wd,.map (some w3.heap.size)] 214)).heap.size=w3.heap.size+1+1:=by simp
 have hs5:=hbx.size
 rw [hsz4] at hs5
 have hB4:Below w.heap.size w ((w3.alloc (.map #[] 0)).alloc (.cells #[.slice (some ⟨w2.heap.size+1,0,none⟩) ds.length ds.length,.int .i64 wd,.map (some w3.heap.size)] 214)):=j7i (j7i HB3.out _) _
 have HB5:Hid (Below w.heap.size w w5):=hB4.trans ((hbx.mono (B':=w.heap.size) (by rw [hsz4];omega)).below (by omega))
 have HK5:Hid (w5.cell? ⟨w.heap.size,0,none⟩=some (.int .i64 0)∧w5.cell? ⟨w.heap.size,1,none⟩=some (.int .i64 0)∧z2o w5 w.heap.size):=
  ⟨(hbx.cell (p:=⟨w.heap.size,0,none⟩) (by rw [hsz4];simp;omega) (by simp;omega)).trans (ka (ka HK3.out.1 _) _),(hbx.cell (p:=⟨w.heap.size,1,none⟩) (by rw [hsz4];simp;omega) (by simp;omega)).trans (ka (ka HK3.out.2.1 _) _),HK3.out.2.2.kept ((hbx.block _ (by rw [hsz4];omega) (by omega)).trans ((Below.heap_alloc _ _ _ (by simp;omega)).trans (Below.heap_alloc _ _ _ (by omega))))⟩
 have HI5:Hid (Inv (w3.heap.size+1) (w2.heap.size+1) w3.heap.size wd (q0a t) w5 S'∧S' 0 0=true):=⟨hI,hin hR0⟩
 clear hbx hI hin hB4 hsz4 HI4 HSE HSK HPN HB3 HK3 HK2
 generalize hkk:crs (q0a t) wd 0 0=k at *
 have HKE:Hid (crs (q0a t) wd 0 0=k):=hkk
 clear hkk
 go_wp2_with fail
 refine (HCH.out _ _ _ _ _ (HI5.out.1.alloc _) HI5.out.2).mono ?_
 rintro e w6 ⟨⟨wa,wc,rfl,hown6⟩,hb6⟩
 obtain ⟨_,_,hwc,hIw,_⟩:=v0j hown6
 have hB6:Below w.heap.size w w6:=(j7i HB5.out _).trans (hb6.mono (by have:=HB5.out.size;simp;omega))
 have HB6:Hid (Below w.heap.size w w6):=hB6
 have hlt6:w5.heap.size<w6.heap.size:=by have:=hb6.size;simp at this;omega
 have hw5:=HB5.out.size
 have HK6:Hid (w6.cell? ⟨w.heap.size,0,none⟩=some (.int .i64 0)∧w6.cell? ⟨w.heap.size,1,none⟩=some (.int .i64 0)∧z2o w6 w.heap.size):=
  ⟨(hb6.cell (p:=⟨w.heap.size,0,none⟩) (by simp;omega)).trans (ka HK5.out.1 _),(hb6.cell (p:=⟨w.heap.size,1,none⟩) (by simp;omega)).trans (ka HK5.out.2.1 _),HK5.out.2.2.kept ((hb6.block _ (by simp;omega)).trans (Below.heap_alloc _ _ _ (by omega)))⟩
 have u0:w6.drew.cell? ⟨w5.heap.size,0,none⟩=some (.int .i64 k.o):=(hb6.cell (p:=⟨w5.heap.size,0,none⟩) (by simp)).trans (by simp [go_sem])
 have u1:w6.drew.cell? ⟨w5.heap.size,1,none⟩=some (.int .i64 k.l):=(hb6.cell (p:=⟨w5.heap.size,1,none⟩) (by simp)).trans (by simp [go_sem])
 have HSH:Hid (Calls Tryz.prog 128 #[.slice a ds.length cap,.slice wa (vv (q0a t) wd 0 0).2.length wc] w6.drew fun e w'=>e = .returned (.string (shS (q6r ds (vv (q0a t) wd 0 0).2)))∧Below w6.drew.heap.size w6.drew w'):=
  k9h ds (vv (q0a t) wd 0 0).2 a wa cap wc hc hwc HWL.out w6.drew (HN.out.below hB6.drew) (z4d.below hIw (Below.refl _ w6).drew)
 have HOW:Hid (∀ W:World,(∀ b,w5.heap.size≤b→b<w6.heap.size→W.heap[b]? = w6.heap[b]?)→W.ownsRow w.heap.size 3 1 (.slice wa (vv (q0a t) wd 0 0).2.length wc) (vv (q0a t) wd 0 0).2.length (q0u (vv (q0a t) wd 0 0).2)):=fun W hW=>by
  have h1:=q9t (w':=W) hown6 fun b hb=>hW b (by have:=v3t hown6 hb;simp at this;omega) (q9u hown6 hb).1
  exact v0o h1 (by simp;omega)
 have HL5:Hid (w.heap.size<w5.heap.size):=(show w.heap.size<w5.heap.size by omega)
 clear hown6 hIw hB6 hb6 HCH HI5 HK5
 generalize hus:(vv (q0a t) wd 0 0).2=us at *
 generalize htx:shS (q6r ds us)=tx at *
 have HUS:Hid ((vv (q0a t) wd 0 0).2=us∧shS (q6r ds us)=tx):=⟨hus,htx⟩
 clear hus htx
 go_wp2_with fail
 go_region_held3 (fun w'=>w'.cell? ⟨w5.heap.size,0,none⟩=some (.int .i64 k.o)∧w'.cell? ⟨w5.heap.size,1,none⟩=some (.int .i64 k.l))
  (first | with_reducible exact ⟨u0,u1⟩ | with_reducible exact ⟨u07,u17⟩ | with_reducible exact ⟨(cso (.inl (Nat.ne_of_lt HL5.out))).trans ((cso (.inl (Nat.ne_of_lt HL5.out))).trans u07),(cso (.inl (Nat.ne_of_lt HL5.out))).trans ((cso (.inl (Nat.ne_of_lt HL5.out))).trans u17)⟩)
  ((go_at_call 128;refine HSH.out.mono ?_;rintro e w7 ⟨rfl,hb7⟩;have u07:=(hb7.cell (p:=⟨w5.heap.size,0,none⟩) hlt6).trans u0;have u17:=(hb7.cell (p:=⟨w5.heap.size,1,none⟩) hlt6).trans u1;have k0:=(hb7.cell (p:=⟨w.heap.size,0,none⟩) (Nat.lt_of_le_of_lt hw5 hlt6)).trans HK6.out.1;have k1:=(hb7.cell (p:=⟨w.heap.size,1,none⟩) (Nat.lt_of_le_of_lt hw5 hlt6)).trans HK6.out.2.1;have hr7:=HK6.out.2.2.kept (hb7.block w.heap.size (Nat.lt_of_le_of_lt hw5 hlt6));have f0:w7.frozen? ⟨w.heap.size,0,none⟩=false:=hr7.frozen;have f1:w7.frozen? ⟨w.heap.size,1,none⟩=false:=hr7.frozen))
 all_goals
  go_wp2
  refine bodyPost_ret (v:=.tuple #[.string tx,.slice wa us.length wc,.agg #[.int .i64 k.o,.int .i64 k.l],.nilIface]) (by simp [results,Tryz.results88,go_sem,k0,k1]) rfl ?_
  rw [HUS.out.1,HUS.out.2,HKE.out]
  refine ⟨⟨wa,wc,rfl,HOW.out _ fun b hb1 hb2=>?_⟩,?_⟩
  ·have h5:=HL5.out
   exact (Below.heap_setCell _ _ _ _ (by simp;omega)).trans ((Below.heap_setCell _ _ _ _ (by simp;omega)).trans (hb7.block b hb2))
  ·exact ((HB6.out.drew.trans (hb7.mono HB6.out.size)).setCell (p:=⟨w.heap.size,0,none⟩) (Nat.le_refl _) _).setCell (p:=⟨w.heap.size,1,none⟩) (Nat.le_refl _) _
theorem k8q (ds:List Nd) (wd:Int) (a:Option Addr) (cap:Nat) (hc:ds.length≤cap) (w:World) (hN:q2y w a ds) :
  Calls Tryz.prog 88 #[.slice a ds.length cap,.int .i64 wd] w fun e w'=>z5p ds wd w e w':=by
 by_cases h:q2n ds=0
 ·by_cases hw:wd<0∨100<wd
  ·exact k5r ds wd a cap w hN h hw
  ·obtain ⟨n,rfl⟩:∃ n:Nat,wd=n:=⟨wd.toNat,by omega⟩
   exact v4w ds _ (q3z h) (z0o h) (q4y h).1 n (by omega) a cap hc w hN
 ·exact j7m ds wd a cap w hN h
end Go.Proofs.YtchdplceopegoaaGreatDoor
namespace Go.Proofs.YtchdplceopegoaaGreatDoor
open Go Go.RowKit
structure But (B b:Nat) (w w':World):Prop where
 os:w'.os=w.os
 tape:w'.tape=w.tape
 output:w'.output=w.output
 size:w.heap.size≤w'.heap.size
 block:∀ k,k<B→k≠b→w'.heap[k]? = w.heap[k]?
section
variable {B b:Nat} {w w' a:World}
theorem But.refl (B b:Nat) (w:World):But B b w w:=⟨rfl,rfl,rfl,Nat.le_refl _,fun _ _ _=>rfl⟩
theorem But.trans {c:World} (h:But B b a w) (k:But B b w c):But B b a c:=
 ⟨k.os.trans h.os,k.tape.trans h.tape,k.output.trans h.output,Nat.le_trans h.size k.size,fun i hi hb=>(k.block i hi hb).trans (h.block i hi hb)⟩
theorem But.drew (h:But B b a w):But B b a w.drew:=⟨h.os,h.tape,h.output,h.size,h.block⟩
theorem But.of (h:Below B w w'):But B b w w':=⟨h.os,h.tape,h.output,h.size,fun k hk _=>h.block k hk⟩
theorem But.below (h:But B b w w') (hB:B≤b):Below B w w':=⟨h.os,h.tape,h.output,h.size,fun k hk=>h.block k hk (by omega)⟩
theorem But.mono {B':Nat} (h:But B b w w') (hB:B'≤B):But B' b w w':=⟨h.os,h.tape,h.output,h.size,fun k hk=>h.block k (by omega)⟩
theorem But.alloc (h:But B b a w) (hB:B≤w.heap.size) (o:Obj):But B b a (w.alloc o):=
 h.trans (.of ((Below.refl B w).alloc hB o))
theorem But.setCell (h:But B b a w) {p:Addr} (hp:p.block=b∨B≤p.block) (u:Value):But B b a (w.setCell p u):=
 h.trans ⟨rfl,rfl,rfl,by simp [World.setCell],fun k hk hb=>Below.heap_setCell _ _ _ _ (by omega)⟩
theorem But.grown {row:Option Nat} (h:But B b a w) (hg:w.grownBy w' row) (hB:B≤w.heap.size) (hr:∀ k,row=some k→B≤k):But B b a w':=
 h.trans ⟨hg.os,hg.tape,hg.output,hg.size,fun k hk _=>hg.block k (by omega) (fun e=>by have:=hr k e.symm;omega)⟩
end
theorem But.low {B b:Nat} {w w':World} (h:But B b w w') {B':Nat} (hB:B'≤B) (hb:B'≤b):Below B' w w':=(h.mono hB).below hb
end Go.Proofs.YtchdplceopegoaaGreatDoor
