/- Texts as one: Sk5, Sk6, Sk7, PlanW. -/
import Derived.Test.YtchdplceopegoaaGreatDoorPs22
namespace Go.Proofs.YtchdplceopegoaaGreatDoor
open Go Go.RowKit
set_option maxRecDepth 100000
set_option maxHeartbeats 4000000
theorem k1a {R:List Pl} {L M i nx dp wd c:Nat} {ks:List (Nat × Tr)} {t:Tr} (sb g mb:Nat) (hsp:Sp R L M i t nx dp ks) (hlg:(q2 (q1c R i)).lg = -1) (hT:z4e sb g mb wd R i c 1) (w:World) (S:Nat→Nat→Bool) (h:Inv sb g mb wd R w S) :
  Calls Tryz.prog 164 #[.pointer (some ⟨sb,0,none⟩),.agg #[.int .i64 i,.int .i64 c]] w fun e w'=>e = .returned (cvV (tkC R wd i c 1))∧Left sb g mb wd R S (i+1) (tkC R wd i c 1).np (tkC R wd i c 1).nc w w':=by
 have H:Hid (Inv sb g mb wd R w S):=h
 have hlt:=h.lt
 have hi:i<R.length:=hsp.lt
 have hiI:(i:Int)<(R.length:Int):=by omega
 have hp0:(0:Int)≤(i:Int):=by omega
 have HQ:Hid (∀ W,q4w W sb g wd R→z2n W g i (q2 (q1c R i))):=fun W hW=>hW.pr.get i hi
 have HT:Hid (z4e sb g mb wd R i c 1):=hT
 have HLG:Hid ((q2 (q1c R i)).lg = -1):=hlg
 clear hT hlg
 rw [cvV]
 clear h hsp
 generalize q2 (q1c R i)=q at *
 go_enter Tryz.func164,Tryz.ntmps164
 go_wp2_with fail
 have hsk:Sk1 sb g mb wd i c R S w ((w.alloc (.cells #[.int .i64 i,.int .i64 c] 216)).alloc (.cells #[.int .i64 0,.int .i64 0,.int .i64 0,.int .i64 0,.int .i64 0] 218)):=z5i (nq:=0) H.out
 generalize (w.alloc (.cells #[.int .i64 i,.int .i64 c] 216)).alloc (.cells #[.int .i64 0,.int .i64 0,.int .i64 0,.int .i64 0,.int .i64 0] 218)=w1 at *
 have HK:Hid (Sk1 sb g mb wd i c R S w w1):=hsk
 have hs1:=hsk.sz
 have hS0:∀ W:World,W=w1.drew∨(∃ O,W=(w1.alloc O).drew)→W.cell? ⟨sb,0,none⟩=some (.slice (some ⟨g,0,none⟩) R.length R.length)∧W.cell? ⟨w.heap.size,0,none⟩=some (.int .i64 i)∧W.cell? ⟨g,i*7,none⟩=some (.int .i64 q.op)∧W.cell? ⟨g,i*7+1,none⟩=some (.string q.tx)∧W.cell? ⟨g,i*7+2,none⟩=some (.int .i64 q.n)∧W.cell? ⟨g,i*7+3,none⟩=some (.int .i64 q.en)∧W.cell? ⟨g,i*7+4,none⟩=some (.int .i64 q.nx)∧W.cell? ⟨g,i*7+5,none⟩=some (.int .i64 q.dp)∧W.cell? ⟨g,i*7+6,none⟩=some (.int .i64 q.lg):=by
  intro W hW
  have hPA:q4w W sb g wd R∧W.cell? ⟨w.heap.size,0,none⟩=some (.int .i64 i):=by
   rcases hW with rfl | ⟨O,rfl⟩
   ·exact ⟨HK.out.inv.pl.kept rfl rfl,HK.out.a0⟩
   ·exact ⟨(HK.out.inv.pl.alloc O).kept rfl rfl,ka HK.out.a0 O⟩
  obtain ⟨d0,d1,d2,d3,d4,d5,d6⟩:=HQ.out W hPA.1
  exact ⟨hPA.1.c0,hPA.2,d0,d1,d2,d3,d4,d5,d6⟩
 have hSa:=hS0 w1.drew (.inl rfl)
 have hSb:=fun O=>hS0 (w1.alloc O).drew (.inr ⟨O,rfl⟩)
 have HCB:Hid (ChB w (w1.alloc (q4s q)).drew i c q):=k9n HK.out q
 have HI1:Hid (Inv sb g mb wd R (w1.alloc (q4s q)).drew S):=(HK.out.inv.alloc _).kept fun _ _=>rfl
 have HB1:Hid (q0i w.heap.size mb w (w1.alloc (q4s q)).drew):=(q0i.of (HK.out.bw.alloc HK.out.bw.size _)).drew
 clear hsk hS0
 go_region_held3 (fun w'=>w'.cell? ⟨sb,0,none⟩=some (.slice (some ⟨g,0,none⟩) R.length R.length)∧w'.cell? ⟨w.heap.size,0,none⟩=some (.int .i64 i)∧w'.cell? ⟨g,i*7,none⟩=some (.int .i64 q.op)∧w'.cell? ⟨g,i*7+1,none⟩=some (.string q.tx)∧w'.cell? ⟨g,i*7+2,none⟩=some (.int .i64 q.n)∧w'.cell? ⟨g,i*7+3,none⟩=some (.int .i64 q.en)∧w'.cell? ⟨g,i*7+4,none⟩=some (.int .i64 q.nx)∧w'.cell? ⟨g,i*7+5,none⟩=some (.int .i64 q.dp)∧w'.cell? ⟨g,i*7+6,none⟩=some (.int .i64 q.lg))
  (first | with_reducible exact hSa | with_reducible exact hSb _) (fail)
 all_goals
  generalize (w1.alloc (.cells #[.int .i64 q.op,.string q.tx,.int .i64 q.n,.int .i64 q.en,.int .i64 q.nx,.int .i64 q.dp,.int .i64 q.lg] 248)).drew=w2 at *
  have a0:=HCB.out.a0
  have a1:=HCB.out.a1
  have q6:=HCB.out.q6
  clear hSa hSb hs1
  rw [HLG.out] at q6
  go_wp2_with fail
  refine (HT.out w2 S HI1.out).mono ?_
  rintro e w3 ⟨rfl,hbx,S',hI,hmo,hlo,hin⟩
  rw [cvV]
  have hCB:=HCB.out.kept hbx hlt.2.2
  have r0:=hCB.r0
  have r1:=hCB.r1
  have r2:=hCB.r2
  have r3:=hCB.r3
  have r4:=hCB.r4
  have y0:w3.frozen? ⟨w.heap.size+1,0,none⟩=false:=hCB.fr.frozen
  have y1:w3.frozen? ⟨w.heap.size+1,1,none⟩=false:=hCB.fr.frozen
  have y2:w3.frozen? ⟨w.heap.size+1,2,none⟩=false:=hCB.fr.frozen
  have y3:w3.frozen? ⟨w.heap.size+1,3,none⟩=false:=hCB.fr.frozen
  have y4:w3.frozen? ⟨w.heap.size+1,4,none⟩=false:=hCB.fr.frozen
  have HBX:Hid (q0i w.heap.size mb w w3):=HB1.out.trans (hbx.mono HB1.out.size)
  have HR:Hid (Inv sb g mb wd R w3 S'∧(∀ a b,S a b=true→S' a b=true)∧(∀ a b,S' a b=true→S a b=true∨i+1≤a)∧((q2o R wd i c 1).np<R.length→S' (q2o R wd i c 1).np (q2o R wd i c 1).nc=true)):=⟨hI,hmo,hlo,hin⟩
  clear hbx hI hmo hlo hin hCB a0 a1 q6
  go_wp2
  exact bodyPost_ret (v:=.agg #[.int .i64 (tkC R wd i c 1).o,.int .i64 (tkC R wd i c 1).l,.int .i64 (tkC R wd i c 1).ch,.int .i64 (tkC R wd i c 1).np,.int .i64 (tkC R wd i c 1).nc]) (by simp [results,Tryz.results164,go_sem,r0,r1,r2,r3,r4]) rfl ⟨rfl,k0x HBX.out (by omega) _ _ _ _ _,S',HR.out.1.set5 (by omega) (by omega) (by omega) _ _ _ _ _,HR.out.2.1,HR.out.2.2.1,HR.out.2.2.2⟩
theorem z8h {R:List Pl} {L M i nx dp wd c:Nat} {ks:List (Nat × Tr)} {t:Tr} (sb g mb:Nat) (hsp:Sp R L M i t nx dp ks) (hlg:((q2 (q1c R i)).lg == -1)=false) (hch:z0u (q2 (q1c R i)).op=false) (hT0:z4e sb g mb wd R i c 0) (w:World) (S:Nat→Nat→Bool) (h:Inv sb g mb wd R w S) :
  Calls Tryz.prog 164 #[.pointer (some ⟨sb,0,none⟩),.agg #[.int .i64 i,.int .i64 c]] w fun e w'=>e = .returned (cvV (tkC R wd i c 0))∧Left sb g mb wd R S (i+1) (tkC R wd i c 0).np (tkC R wd i c 0).nc w w':=by
 have H:Hid (Inv sb g mb wd R w S):=h
 have hlt:=h.lt
 have hi:i<R.length:=hsp.lt
 have hiI:(i:Int)<(R.length:Int):=by omega
 have hp0:(0:Int)≤(i:Int):=by omega
 have HQ:Hid (∀ W,q4w W sb g wd R→z2n W g i (q2 (q1c R i))):=fun W hW=>hW.pr.get i hi
 have HT0:Hid (z4e sb g mb wd R i c 0):=hT0
 clear hT0
 rw [cvV]
 clear h hsp
 generalize q2 (q1c R i)=q at *
 go_enter Tryz.func164,Tryz.ntmps164
 go_wp2_with fail
 have hsk:Sk1 sb g mb wd i c R S w ((w.alloc (.cells #[.int .i64 i,.int .i64 c] 216)).alloc (.cells #[.int .i64 0,.int .i64 0,.int .i64 0,.int .i64 0,.int .i64 0] 218)):=z5i (nq:=0) H.out
 generalize (w.alloc (.cells #[.int .i64 i,.int .i64 c] 216)).alloc (.cells #[.int .i64 0,.int .i64 0,.int .i64 0,.int .i64 0,.int .i64 0] 218)=w1 at *
 have HK:Hid (Sk1 sb g mb wd i c R S w w1):=hsk
 have hs1:=hsk.sz
 have hS0:∀ W:World,W=w1.drew∨(∃ O,W=(w1.alloc O).drew)→W.cell? ⟨sb,0,none⟩=some (.slice (some ⟨g,0,none⟩) R.length R.length)∧W.cell? ⟨w.heap.size,0,none⟩=some (.int .i64 i)∧W.cell? ⟨g,i*7,none⟩=some (.int .i64 q.op)∧W.cell? ⟨g,i*7+1,none⟩=some (.string q.tx)∧W.cell? ⟨g,i*7+2,none⟩=some (.int .i64 q.n)∧W.cell? ⟨g,i*7+3,none⟩=some (.int .i64 q.en)∧W.cell? ⟨g,i*7+4,none⟩=some (.int .i64 q.nx)∧W.cell? ⟨g,i*7+5,none⟩=some (.int .i64 q.dp)∧W.cell? ⟨g,i*7+6,none⟩=some (.int .i64 q.lg):=by
  intro W hW
  have hPA:q4w W sb g wd R∧W.cell? ⟨w.heap.size,0,none⟩=some (.int .i64 i):=by
   rcases hW with rfl | ⟨O,rfl⟩
   ·exact ⟨HK.out.inv.pl.kept rfl rfl,HK.out.a0⟩
   ·exact ⟨(HK.out.inv.pl.alloc O).kept rfl rfl,ka HK.out.a0 O⟩
  obtain ⟨d0,d1,d2,d3,d4,d5,d6⟩:=HQ.out W hPA.1
  exact ⟨hPA.1.c0,hPA.2,d0,d1,d2,d3,d4,d5,d6⟩
 have hSa:=hS0 w1.drew (.inl rfl)
 have hSb:=fun O=>hS0 (w1.alloc O).drew (.inr ⟨O,rfl⟩)
 have HCB:Hid (ChB w (w1.alloc (q4s q)).drew i c q):=k9n HK.out q
 have HI1:Hid (Inv sb g mb wd R (w1.alloc (q4s q)).drew S):=(HK.out.inv.alloc _).kept fun _ _=>rfl
 have HB1:Hid (q0i w.heap.size mb w (w1.alloc (q4s q)).drew):=(q0i.of (HK.out.bw.alloc HK.out.bw.size _)).drew
 clear hsk hS0
 go_region_held3 (fun w'=>w'.cell? ⟨sb,0,none⟩=some (.slice (some ⟨g,0,none⟩) R.length R.length)∧w'.cell? ⟨w.heap.size,0,none⟩=some (.int .i64 i)∧w'.cell? ⟨g,i*7,none⟩=some (.int .i64 q.op)∧w'.cell? ⟨g,i*7+1,none⟩=some (.string q.tx)∧w'.cell? ⟨g,i*7+2,none⟩=some (.int .i64 q.n)∧w'.cell? ⟨g,i*7+3,none⟩=some (.int .i64 q.en)∧w'.cell? ⟨g,i*7+4,none⟩=some (.int .i64 q.nx)∧w'.cell? ⟨g,i*7+5,none⟩=some (.int .i64 q.dp)∧w'.cell? ⟨g,i*7+6,none⟩=some (.int .i64 q.lg))
  (first | with_reducible exact hSa | with_reducible exact hSb _) (fail)
 all_goals
  generalize (w1.alloc (.cells #[.int .i64 q.op,.string q.tx,.int .i64 q.n,.int .i64 q.en,.int .i64 q.nx,.int .i64 q.dp,.int .i64 q.lg] 248)).drew=w2 at *
  have a0:=HCB.out.a0
  have a1:=HCB.out.a1
  have q6:=HCB.out.q6
  clear hSa hSb hs1
  go_wp2_with fail
  refine (HT0.out w2 S HI1.out).mono ?_
  rintro e w3 ⟨rfl,hbx,S',hI,hmo,hlo,hin⟩
  rw [cvV]
  have hCB:=HCB.out.kept hbx hlt.2.2
  have HBX:Hid (q0i w.heap.size mb w w3):=HB1.out.trans (hbx.mono HB1.out.size)
  have HR:Hid (Inv sb g mb wd R w3 S'∧(∀ a b,S a b=true→S' a b=true)∧(∀ a b,S' a b=true→S a b=true∨i+1≤a)∧((tkC R wd i c 0).np<R.length→S' (tkC R wd i c 0).np (tkC R wd i c 0).nc=true)):=⟨hI,hmo,hlo,hin⟩
  have u0:=fun O=>ka hCB.q0 O
  have u1:=fun O=>ka hCB.q1 O
  have u2:=fun O=>ka hCB.q2 O
  have u3:=fun O=>ka hCB.q3 O
  have u4:=fun O=>ka hCB.q4 O
  have u5:=fun O=>ka hCB.q5 O
  have u6:=fun O=>ka hCB.q6 O
  have HCB3:Hid (ChB w w3 i c q):=hCB
  clear hbx hI hmo hlo hin hCB a0 a1 q6
  go_wp2_with fail
  refine (q8w q.op q.tx q.n q.en q.nx q.dp q.lg _).mono ?_
  rintro e w4 ⟨rfl,hb4⟩
  rw [hch]
  have hwk:w3.heap.size<w4.heap.size:=by have:=hb4.size;simp at this;omega
  have HCB4:Hid (ChB w w4 i c q):=(HCB3.out.kept (mb:=mb) (q0i.of ((Below.refl _ w3).alloc (Nat.le_refl _) _)) hlt.2.2).kept (q0i.of hb4) hlt.2.2
  have HI4:Hid (Inv sb g mb wd R w4 S'):=(HR.out.1.alloc _).below hb4
  have HB4:Hid (q0i w.heap.size mb w w4):=(HBX.out.alloc (by have:=HBX.out.size;omega) _).trans (q0i.of (hb4.mono (by have:=HBX.out.size;simp;omega)))
  have s0:w4.cell? ⟨w3.heap.size,0,none⟩=some (.int .i64 (tkC R wd i c 0).o):=(hb4.cell (p:=⟨w3.heap.size,0,none⟩) (by simp)).trans (by simp [go_sem])
  have s1:w4.cell? ⟨w3.heap.size,1,none⟩=some (.int .i64 (tkC R wd i c 0).l):=(hb4.cell (p:=⟨w3.heap.size,1,none⟩) (by simp)).trans (by simp [go_sem])
  have s2:w4.cell? ⟨w3.heap.size,2,none⟩=some (.int .i64 (tkC R wd i c 0).ch):=(hb4.cell (p:=⟨w3.heap.size,2,none⟩) (by simp)).trans (by simp [go_sem])
  have s3:w4.cell? ⟨w3.heap.size,3,none⟩=some (.int .i64 (tkC R wd i c 0).np):=(hb4.cell (p:=⟨w3.heap.size,3,none⟩) (by simp)).trans (by simp [go_sem])
  have s4:w4.cell? ⟨w3.heap.size,4,none⟩=some (.int .i64 (tkC R wd i c 0).nc):=(hb4.cell (p:=⟨w3.heap.size,4,none⟩) (by simp)).trans (by simp [go_sem])
  have r0:=HCB4.out.r0
  have r1:=HCB4.out.r1
  have r2:=HCB4.out.r2
  have r3:=HCB4.out.r3
  have r4:=HCB4.out.r4
  have y0:w4.frozen? ⟨w.heap.size+1,0,none⟩=false:=HCB4.out.fr.frozen
  have y1:w4.frozen? ⟨w.heap.size+1,1,none⟩=false:=HCB4.out.fr.frozen
  have y2:w4.frozen? ⟨w.heap.size+1,2,none⟩=false:=HCB4.out.fr.frozen
  have y3:w4.frozen? ⟨w.heap.size+1,3,none⟩=false:=HCB4.out.fr.frozen
  have y4:w4.frozen? ⟨w.heap.size+1,4,none⟩=false:=HCB4.out.fr.frozen
  clear u0 u1 u2 u3 u4 u5 u6 hb4
  go_wp2
  exact bodyPost_ret (v:=.agg #[.int .i64 (tkC R wd i c 0).o,.int .i64 (tkC R wd i c 0).l,.int .i64 (tkC R wd i c 0).ch,.int .i64 (tkC R wd i c 0).np,.int .i64 (tkC R wd i c 0).nc]) (by simp [results,Tryz.results164,go_sem,r0,r1,r2,r3,r4]) rfl ⟨rfl,k0x HB4.out (by omega) _ _ _ _ _,S',HI4.out.set5 (by omega) (by omega) (by omega) _ _ _ _ _,HR.out.2.1,HR.out.2.2.1,HR.out.2.2.2⟩
theorem q8z {R:List Pl} {L M i nx dp wd c:Nat} {ks:List (Nat × Tr)} {t:Tr} (sb g mb:Nat) (hsp:Sp R L M i t nx dp ks) (hlg:((q2 (q1c R i)).lg == -1)=false) (hch:z0u (q2 (q1c R i)).op=true) (hT0:z4e sb g mb wd R i c 0) (hT1:z4e sb g mb wd R i c 1) (hb0:(tkC R wd i c 0).o≤1000000∧(tkC R wd i c 0).l≤1000000) (hb1:(tkC R wd i c 1).o≤1000000∧(tkC R wd i c 1).l≤1000000) (k:Nat) (hk:k=0∧decide (q3b ((tkC R wd i c 1).o,(tkC R wd i c 1).l) ((tkC R wd i c 0).o,(tkC R wd i c 0).l))=false∨k=1∧decide (q3b ((tkC R wd i c 1).o,(tkC R wd i c 1).l) ((tkC R wd i c 0).o,(tkC R wd i c 0).l))=true) (w:World) (S:Nat→Nat→Bool) (h:Inv sb g mb wd R w S) :
  Calls Tryz.prog 164 #[.pointer (some ⟨sb,0,none⟩),.agg #[.int .i64 i,.int .i64 c]] w fun e w'=>e = .returned (cvV (tkC R wd i c k))∧Left sb g mb wd R S (i+1) (tkC R wd i c k).np (tkC R wd i c k).nc w w':=by
 have H:Hid (Inv sb g mb wd R w S):=h
 have hlt:=h.lt
 have hi:i<R.length:=hsp.lt
 have hiI:(i:Int)<(R.length:Int):=by omega
 have hp0:(0:Int)≤(i:Int):=by omega
 have HQ:Hid (∀ W,q4w W sb g wd R→z2n W g i (q2 (q1c R i))):=fun W hW=>hW.pr.get i hi
 have HT0:Hid (z4e sb g mb wd R i c 0):=hT0
 have HT1:Hid (z4e sb g mb wd R i c 1):=hT1
 clear hT0 hT1
 rw [cvV]
 clear h hsp
 generalize q2 (q1c R i)=q at *
 go_enter Tryz.func164,Tryz.ntmps164
 go_wp2_with fail
 have hsk:Sk1 sb g mb wd i c R S w ((w.alloc (.cells #[.int .i64 i,.int .i64 c] 216)).alloc (.cells #[.int .i64 0,.int .i64 0,.int .i64 0,.int .i64 0,.int .i64 0] 218)):=z5i (nq:=0) H.out
 generalize (w.alloc (.cells #[.int .i64 i,.int .i64 c] 216)).alloc (.cells #[.int .i64 0,.int .i64 0,.int .i64 0,.int .i64 0,.int .i64 0] 218)=w1 at *
 have HK:Hid (Sk1 sb g mb wd i c R S w w1):=hsk
 have hs1:=hsk.sz
 have hS0:∀ W:World,W=w1.drew∨(∃ O,W=(w1.alloc O).drew)→W.cell? ⟨sb,0,none⟩=some (.slice (some ⟨g,0,none⟩) R.length R.length)∧W.cell? ⟨w.heap.size,0,none⟩=some (.int .i64 i)∧W.cell? ⟨g,i*7,none⟩=some (.int .i64 q.op)∧W.cell? ⟨g,i*7+1,none⟩=some (.string q.tx)∧W.cell? ⟨g,i*7+2,none⟩=some (.int .i64 q.n)∧W.cell? ⟨g,i*7+3,none⟩=some (.int .i64 q.en)∧W.cell? ⟨g,i*7+4,none⟩=some (.int .i64 q.nx)∧W.cell? ⟨g,i*7+5,none⟩=some (.int .i64 q.dp)∧W.cell? ⟨g,i*7+6,none⟩=some (.int .i64 q.lg):=by
  intro W hW
  have hPA:q4w W sb g wd R∧W.cell? ⟨w.heap.size,0,none⟩=some (.int .i64 i):=by
   rcases hW with rfl | ⟨O,rfl⟩
   ·exact ⟨HK.out.inv.pl.kept rfl rfl,HK.out.a0⟩
   ·exact ⟨(HK.out.inv.pl.alloc O).kept rfl rfl,ka HK.out.a0 O⟩
  obtain ⟨d0,d1,d2,d3,d4,d5,d6⟩:=HQ.out W hPA.1
  exact ⟨hPA.1.c0,hPA.2,d0,d1,d2,d3,d4,d5,d6⟩
 have hSa:=hS0 w1.drew (.inl rfl)
 have hSb:=fun O=>hS0 (w1.alloc O).drew (.inr ⟨O,rfl⟩)
 have HCB:Hid (ChB w (w1.alloc (q4s q)).drew i c q):=k9n HK.out q
 have HI1:Hid (Inv sb g mb wd R (w1.alloc (q4s q)).drew S):=(HK.out.inv.alloc _).kept fun _ _=>rfl
 have HB1:Hid (q0i w.heap.size mb w (w1.alloc (q4s q)).drew):=(q0i.of (HK.out.bw.alloc HK.out.bw.size _)).drew
 clear hsk hS0
 go_region_held3 (fun w'=>w'.cell? ⟨sb,0,none⟩=some (.slice (some ⟨g,0,none⟩) R.length R.length)∧w'.cell? ⟨w.heap.size,0,none⟩=some (.int .i64 i)∧w'.cell? ⟨g,i*7,none⟩=some (.int .i64 q.op)∧w'.cell? ⟨g,i*7+1,none⟩=some (.string q.tx)∧w'.cell? ⟨g,i*7+2,none⟩=some (.int .i64 q.n)∧w'.cell? ⟨g,i*7+3,none⟩=some (.int .i64 q.en)∧w'.cell? ⟨g,i*7+4,none⟩=some (.int .i64 q.nx)∧w'.cell? ⟨g,i*7+5,none⟩=some (.int .i64 q.dp)∧w'.cell? ⟨g,i*7+6,none⟩=some (.int .i64 q.lg))
  (first | with_reducible exact hSa | with_reducible exact hSb _) (fail)
 all_goals
  generalize (w1.alloc (.cells #[.int .i64 q.op,.string q.tx,.int .i64 q.n,.int .i64 q.en,.int .i64 q.nx,.int .i64 q.dp,.int .i64 q.lg] 248)).drew=w2 at *
  have a0:=HCB.out.a0
  have a1:=HCB.out.a1
  have q6:=HCB.out.q6
  clear hSa hSb hs1
  go_wp2_with fail
  refine (HT0.out w2 S HI1.out).mono ?_
  rintro e w3 ⟨rfl,hbx,S',hI,hmo,hlo,hin⟩
  rw [cvV]
  have hCB:=HCB.out.kept hbx hlt.2.2
  have HBX:Hid (q0i w.heap.size mb w w3):=HB1.out.trans (hbx.mono HB1.out.size)
  have HR:Hid (Inv sb g mb wd R w3 S'∧(∀ a b,S a b=true→S' a b=true)∧(∀ a b,S' a b=true→S a b=true∨i+1≤a)∧((tkC R wd i c 0).np<R.length→S' (tkC R wd i c 0).np (tkC R wd i c 0).nc=true)):=⟨hI,hmo,hlo,hin⟩
  have u0:=fun O=>ka hCB.q0 O
  have u1:=fun O=>ka hCB.q1 O
  have u2:=fun O=>ka hCB.q2 O
  have u3:=fun O=>ka hCB.q3 O
  have u4:=fun O=>ka hCB.q4 O
  have u5:=fun O=>ka hCB.q5 O
  have u6:=fun O=>ka hCB.q6 O
  have HCB3:Hid (ChB w w3 i c q):=hCB
  clear hbx hI hmo hlo hin hCB a0 a1 q6
  go_wp2_with fail
  refine (q8w q.op q.tx q.n q.en q.nx q.dp q.lg _).mono ?_
  rintro e w4 ⟨rfl,hb4⟩
  rw [hch]
  have hwk:w3.heap.size<w4.heap.size:=by have:=hb4.size;simp at this;omega
  have HCB4:Hid (ChB w w4 i c q):=(HCB3.out.kept (mb:=mb) (q0i.of ((Below.refl _ w3).alloc (Nat.le_refl _) _)) hlt.2.2).kept (q0i.of hb4) hlt.2.2
  have HI4:Hid (Inv sb g mb wd R w4 S'):=(HR.out.1.alloc _).below hb4
  have HB4:Hid (q0i w.heap.size mb w w4):=(HBX.out.alloc (by have:=HBX.out.size;omega) _).trans (q0i.of (hb4.mono (by have:=HBX.out.size;simp;omega)))
  have s0:w4.cell? ⟨w3.heap.size,0,none⟩=some (.int .i64 (tkC R wd i c 0).o):=(hb4.cell (p:=⟨w3.heap.size,0,none⟩) (by simp)).trans (by simp [go_sem])
  have s1:w4.cell? ⟨w3.heap.size,1,none⟩=some (.int .i64 (tkC R wd i c 0).l):=(hb4.cell (p:=⟨w3.heap.size,1,none⟩) (by simp)).trans (by simp [go_sem])
  have s2:w4.cell? ⟨w3.heap.size,2,none⟩=some (.int .i64 (tkC R wd i c 0).ch):=(hb4.cell (p:=⟨w3.heap.size,2,none⟩) (by simp)).trans (by simp [go_sem])
  have s3:w4.cell? ⟨w3.heap.size,3,none⟩=some (.int .i64 (tkC R wd i c 0).np):=(hb4.cell (p:=⟨w3.heap.size,3,none⟩) (by simp)).trans (by simp [go_sem])
  have s4:w4.cell? ⟨w3.heap.size,4,none⟩=some (.int .i64 (tkC R wd i c 0).nc):=(hb4.cell (p:=⟨w3.heap.size,4,none⟩) (by simp)).trans (by simp [go_sem])
  have a0:=HCB4.out.a0
  have a1:=HCB4.out.a1
  clear u0 u1 u2 u3 u4 u5 u6 hb4
  go_wp2_with fail
  refine (HT1.out w4 S' HI4.out).mono ?_
  rintro e w5 ⟨rfl,hbx,S2,hI,hmo,hlo,hin⟩
  rw [cvV]
  have HCB5:Hid (ChB w w5 i c q):=HCB4.out.kept hbx hlt.2.2
  have HB5:Hid (q0i w.heap.size mb w w5):=HB4.out.trans (hbx.mono HB4.out.size)
  have hne:w3.heap.size≠mb:=by have:=HBX.out.size;omega
  have z0:w5.cell? ⟨w3.heap.size,0,none⟩=some (.int .i64 (tkC R wd i c 0).o):=(hbx.cell (p:=⟨w3.heap.size,0,none⟩) hwk hne).trans s0
  have z1:w5.cell? ⟨w3.heap.size,1,none⟩=some (.int .i64 (tkC R wd i c 0).l):=(hbx.cell (p:=⟨w3.heap.size,1,none⟩) hwk hne).trans s1
  have z2:w5.cell? ⟨w3.heap.size,2,none⟩=some (.int .i64 (tkC R wd i c 0).ch):=(hbx.cell (p:=⟨w3.heap.size,2,none⟩) hwk hne).trans s2
  have z3:w5.cell? ⟨w3.heap.size,3,none⟩=some (.int .i64 (tkC R wd i c 0).np):=(hbx.cell (p:=⟨w3.heap.size,3,none⟩) hwk hne).trans s3
  have z4:w5.cell? ⟨w3.heap.size,4,none⟩=some (.int .i64 (tkC R wd i c 0).nc):=(hbx.cell (p:=⟨w3.heap.size,4,none⟩) hwk hne).trans s4
  have v0:=fun O=>ka z0 O
  have v1:=fun O=>ka z1 O
  have HR5:Hid (Inv sb g mb wd R w5 S2∧(∀ a b,S' a b=true→S2 a b=true)∧(∀ a b,S2 a b=true→S' a b=true∨i+1≤a)∧((tkC R wd i c 1).np<R.length→S2 (tkC R wd i c 1).np (tkC R wd i c 1).nc=true)):=⟨hI,hmo,hlo,hin⟩
  have hwk5:w3.heap.size<w5.heap.size:=Nat.lt_of_lt_of_le hwk hbx.size
  clear hbx hI hmo hlo hin a0 a1
  go_wp2_with fail
  refine (k8z (tkC R wd i c 1).o (tkC R wd i c 1).l (tkC R wd i c 0).o (tkC R wd i c 0).l hb1.1 hb1.2 hb0.1 hb0.2 _).mono ?_
  rintro e w6 ⟨rfl,hb6⟩
  have hCB6:=(HCB5.out.kept (mb:=mb) (q0i.of ((Below.refl _ w5).alloc (Nat.le_refl _) _)) hlt.2.2).kept (q0i.of hb6) hlt.2.2
  have HI6:Hid (Inv sb g mb wd R w6 S2):=(HR5.out.1.alloc _).below hb6
  have HB6:Hid (q0i w.heap.size mb w w6):=(HB5.out.alloc (by have:=HB5.out.size;omega) _).trans (q0i.of (hb6.mono (by have:=HB5.out.size;simp;omega)))
  have r0:=hCB6.r0
  have r1:=hCB6.r1
  have r2:=hCB6.r2
  have r3:=hCB6.r3
  have r4:=hCB6.r4
  have y0:w6.frozen? ⟨w.heap.size+1,0,none⟩=false:=hCB6.fr.frozen
  have y1:w6.frozen? ⟨w.heap.size+1,1,none⟩=false:=hCB6.fr.frozen
  have y2:w6.frozen? ⟨w.heap.size+1,2,none⟩=false:=hCB6.fr.frozen
  have y3:w6.frozen? ⟨w.heap.size+1,3,none⟩=false:=hCB6.fr.frozen
  have y4:w6.frozen? ⟨w.heap.size+1,4,none⟩=false:=hCB6.fr.frozen
  rcases hk with ⟨rfl,hless⟩ | ⟨rfl,hless⟩
  ·rw [hless]
   have x0:w6.cell? ⟨w3.heap.size,0,none⟩=some (.int .i64 (tkC R wd i c 0).o):=(hb6.cell (p:=⟨w3.heap.size,0,none⟩) (by simp;omega)).trans (ka z0 _)
   have x1:w6.cell? ⟨w3.heap.size,1,none⟩=some (.int .i64 (tkC R wd i c 0).l):=(hb6.cell (p:=⟨w3.heap.size,1,none⟩) (by simp;omega)).trans (ka z1 _)
   have x2:w6.cell? ⟨w3.heap.size,2,none⟩=some (.int .i64 (tkC R wd i c 0).ch):=(hb6.cell (p:=⟨w3.heap.size,2,none⟩) (by simp;omega)).trans (ka z2 _)
   have x3:w6.cell? ⟨w3.heap.size,3,none⟩=some (.int .i64 (tkC R wd i c 0).np):=(hb6.cell (p:=⟨w3.heap.size,3,none⟩) (by simp;omega)).trans (ka z3 _)
   have x4:w6.cell? ⟨w3.heap.size,4,none⟩=some (.int .i64 (tkC R wd i c 0).nc):=(hb6.cell (p:=⟨w3.heap.size,4,none⟩) (by simp;omega)).trans (ka z4 _)
   clear z0 z1 z2 z3 z4 s0 s1 s2 s3 s4 v0 v1 hb6 hCB6
   go_wp2
   refine bodyPost_ret (v:=.agg #[.int .i64 (tkC R wd i c 0).o,.int .i64 (tkC R wd i c 0).l,.int .i64 (tkC R wd i c 0).ch,.int .i64 (tkC R wd i c 0).np,.int .i64 (tkC R wd i c 0).nc]) (by simp [results,Tryz.results164,go_sem,r0,r1,r2,r3,r4]) rfl ⟨rfl,k0x HB6.out (by omega) _ _ _ _ _,S2,HI6.out.set5 (by omega) (by omega) (by omega) _ _ _ _ _,fun a b hab=>HR5.out.2.1 a b (HR.out.2.1 a b hab),fun a b hab=>?_,fun h=>HR5.out.2.1 _ _ (HR.out.2.2.2 h)⟩
   rcases HR5.out.2.2.1 a b hab with h | h
   ·exact HR.out.2.2.1 a b h
   ·exact .inr h
  ·rw [hless]
   have x0:w6.cell? ⟨w5.heap.size,0,none⟩=some (.int .i64 (tkC R wd i c 1).o):=(hb6.cell (p:=⟨w5.heap.size,0,none⟩) (by simp)).trans (by simp [go_sem])
   have x1:w6.cell? ⟨w5.heap.size,1,none⟩=some (.int .i64 (tkC R wd i c 1).l):=(hb6.cell (p:=⟨w5.heap.size,1,none⟩) (by simp)).trans (by simp [go_sem])
   have x2:w6.cell? ⟨w5.heap.size,2,none⟩=some (.int .i64 (tkC R wd i c 1).ch):=(hb6.cell (p:=⟨w5.heap.size,2,none⟩) (by simp)).trans (by simp [go_sem])
   have x3:w6.cell? ⟨w5.heap.size,3,none⟩=some (.int .i64 (tkC R wd i c 1).np):=(hb6.cell (p:=⟨w5.heap.size,3,none⟩) (by simp)).trans (by simp [go_sem])
   have x4:w6.cell? ⟨w5.heap.size,4,none⟩=some (.int .i64 (tkC R wd i c 1).nc):=(hb6.cell (p:=⟨w5.heap.size,4,none⟩) (by simp)).trans (by simp [go_sem])
   clear z0 z1 z2 z3 z4 s0 s1 s2 s3 s4 v0 v1 hb6 hCB6
   go_wp2
   refine bodyPost_ret (v:=.agg #[.int .i64 (tkC R wd i c 1).o,.int .i64 (tkC R wd i c 1).l,.int .i64 (tkC R wd i c 1).ch,.int .i64 (tkC R wd i c 1).np,.int .i64 (tkC R wd i c 1).nc]) (by simp [results,Tryz.results164,go_sem,r0,r1,r2,r3,r4]) rfl ⟨rfl,k0x HB6.out (by omega) _ _ _ _ _,S2,HI6.out.set5 (by omega) (by omega) (by omega) _ _ _ _ _,fun a b hab=>HR5.out.2.1 a b (HR.out.2.1 a b hab),fun a b hab=>?_,fun h=>HR5.out.2.2.2 h⟩
   rcases HR5.out.2.2.1 a b hab with h | h
   ·exact HR.out.2.2.1 a b h
   ·exact .inr h
theorem v0r {t:Tr} {wd:Nat} (sb g mb:Nat) (ht:t.Wf) (hn:t.sz≤400) (hw:wd≤100):∀ m i c,(q0a t).length - i≤m→i≤(q0a t).length→c≤wd→k8g sb g mb wd (q0a t) i c:=by
 have hlm:=q8h t
 have hLM:t.lf*(21+t.dsum)≤400000:=v7i hlm hn
 have hL:t.lf≤400:=by unfold Tr.sz at hn;omega
 have hM:t.dsum≤3200:=by unfold Tr.sz at hn;omega
 have hR:(q0a t).length≤400:=by rw [q2f];exact hn
 intro m
 induction m with
 | zero=>intro i c h1 h2 h3;exact k5c sb g mb wd i c _ (by omega)
 | succ m ih=>
  intro i c h1 h2 hc
  by_cases hi:i<(q0a t).length
  ·obtain ⟨t',nx,dp,ks,hsp⟩:=j4r ht hi
   refine v0s sb g mb wd i c _ hi hR hw hc ?_
   have hat:=hsp.at
   have hV:∀ ch,∃ k:Cv,k=(if (q2o (q0a t) wd i c ch).np<(q0a t).length then crs (q0a t) wd (q2o (q0a t) wd i c ch).np (q2o (q0a t) wd i c ch).nc else zCv)∧k.o=(vv (q0a t) wd (q2o (q0a t) wd i c ch).np (q2o (q0a t) wd i c ch).nc).1.1∧k.l=(vv (q0a t) wd (q2o (q0a t) wd i c ch).np (q2o (q0a t) wd i c ch).nc).1.2∧k.o≤400000∧k.l≤400000:=fun ch=>by
    have hm:=j2v (ch:=ch) hsp hc hw hL hM
    refine ⟨_,rfl,?_⟩
    by_cases hl:(q2o (q0a t) wd i c ch).np<(q0a t).length
    ·rw [if_pos hl]
     obtain ⟨t2,nx2,dp2,ks2,hsp2⟩:=j4r ht hl
     have h5:=(k9w hsp2 hm.cl).1
     have h6:=y5y (wd:=wd) (c:=(q2o (q0a t) wd i c ch).nc) hsp2 hLM
     rw [h5] at h6 ⊢
     exact ⟨rfl,rfl,h6⟩
    ·rw [if_neg hl,v4g (by omega)]
     exact ⟨rfl,rfl,by simp [zCv],by simp [zCv]⟩
   have hTk:∀ ch,(ch=0∨ch=1)→(t'.lg = -1→ch=1)→z4e sb g mb wd (q0a t) i c ch:=fun ch h01 hh=>by
    have hm:=j2v (ch:=ch) hsp hc hw hL hM
    have:=hm.lo
    exact v1h sb g mb hR hsp hc hw hL hM h01 hh (ih _ _ (by omega) hm.hi hm.cl) (hV ch)
   have hbd:∀ ch,(tkC (q0a t) wd i c ch).o≤1000000∧(tkC (q0a t) wd i c ch).l≤1000000:=fun ch=>by
    have hm:=j2v (ch:=ch) hsp hc hw hL hM
    obtain ⟨k,_,h6,h7,h8,h9⟩:=hV ch
    have:=hm.bo
    have:=hm.bl
    simp only [tkC,k9z]
    omega
   have e1:(q2 (q1c (q0a t) i)).lg=t'.lg:=by rw [hat];rfl
   intro w S h
   by_cases hlg:t'.lg = -1
   ·have ec:crs (q0a t) wd i c=tkC (q0a t) wd i c 1:=by rw [crs,if_pos (show (q1c (q0a t) i).lg = -1 by rw [hat];exact hlg)]
    rw [ec]
    exact k1a sb g mb hsp (by rw [e1];exact hlg) (hTk 1 (.inr rfl) fun _=>rfl) w S h
   ·have hne:((q2 (q1c (q0a t) i)).lg == -1)=false:=beq_eq_false_iff_ne.2 (by rw [e1];exact hlg)
    have hT0:=hTk 0 (.inl rfl) fun h=>absurd h hlg
    have hT1:=hTk 1 (.inr rfl) fun _=>rfl
    have hl':¬ (q1c (q0a t) i).lg = -1:=by rw [hat];exact hlg
    cases hch:z0u (q1c (q0a t) i).nd.op with
    | false=>
     have ec:crs (q0a t) wd i c=tkC (q0a t) wd i c 0:=by rw [crs,if_neg hl',if_pos hch]
     rw [ec]
     exact z8h sb g mb hsp hne hch hT0 w S h
    | true=>
     by_cases hls:q3b ((tkC (q0a t) wd i c 1).o,(tkC (q0a t) wd i c 1).l) ((tkC (q0a t) wd i c 0).o,(tkC (q0a t) wd i c 0).l)
     ·have ec:crs (q0a t) wd i c=tkC (q0a t) wd i c 1:=by rw [crs,if_neg hl',if_neg (by rw [hch];simp),if_pos hls]
      rw [ec]
      exact q8z sb g mb hsp hne hch hT0 hT1 (hbd 0) (hbd 1) 1 (.inr ⟨rfl,decide_eq_true hls⟩) w S h
     ·have ec:crs (q0a t) wd i c=tkC (q0a t) wd i c 0:=by rw [crs,if_neg hl',if_neg (by rw [hch];simp),if_neg hls]
      rw [ec]
      exact q8z sb g mb hsp hne hch hT0 hT1 (hbd 0) (hbd 1) 0 (.inl ⟨rfl,decide_eq_false hls⟩) w S h
  ·exact k5c sb g mb wd i c _ (by omega)
def z1r (be bf i:Nat) (e f:Value) (w w':World):Prop:=
 w'.os=w.os∧w'.tape=w.tape∧w'.output=w.output∧w'.heap=((w.setCell ⟨be,i,none⟩ e).setCell ⟨bf,i,none⟩ f).heap
theorem k7w {i n:Nat} (hn:n≤400) (hi:(i:Int)<n):IntKind.i64.wrap ((i:Int)+1)=(i:Int)+1:=by
 rw [IntKind.wrap_i64];omega
end Go.Proofs.YtchdplceopegoaaGreatDoor
