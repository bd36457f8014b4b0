import Derived.Test.YthcpdohdppkmkaaGreatDoorPu20
open Go.Proofs.Tryz
namespace Go.Proofs.YthcpdohdppkmkaaGreatDoor
open Go Go.RowKit
set_option maxRecDepth 100000
set_option maxHeartbeats 4000000
theorem v5p(bp g n i:Nat)(F:Nat->Q)(w:World)(hi:i<n)(c0:w.cell? ⟨bp,0,none⟩=some (.slice (some ⟨g,0,none⟩) n n))(hp:PwR w g n F)
  (h6:((F i).op==6)=false) (h9:((F i).op==9)=false) (h7:((F i).op==7)=false) (h8:((F i).op==8)=false):
  Calls prog 108 #[.pointer (some ⟨bp,0,none⟩),.int .i64 i] w fun e w'=>e=.returned (.tuple #[])/\PwR w' g n F/\q0p w g w w':=by
 obtain⟨d0,d1,d2,d3,d4,d5,d6⟩:=hp.get i hi;have hiI:(i:Int)<n:=by omega
 have hp0:(0:Int)<=(i:Int):=by omega
 have HP:Hid (PwR w g n F):=hp;clear hp hi;generalize F i=q at *;go_in;go_wp2
 go_end0
 have hb:Below w w (w.alloc (.cells #[.int .i64 q.op,.string q.tx,.int .i64 q.n,.int .i64 q.en,.int .i64 q.nx,.int .i64 q.dp,.int .i64 q.lg] 182)):= Zb.alloc Zl _;exact⟨rfl,HP.o.kept (hb.block g HP.o.row.lt),q0p.of hb⟩
abbrev q5p(q:Q):Obj:=.cells #[.int .i64 q.op,.string q.tx,.int .i64 q.n,.int .i64 q.en,.int .i64 q.nx,.int .i64 q.dp,.int .i64 q.lg] 182
theorem y4k(bp g n i:Nat)(F:Nat->Q)(w:World)(hn:n<=400)(hi1:i+1<n)(c0:w.cell? ⟨bp,0,none⟩=some (.slice (some ⟨g,0,none⟩) n n))(hp:PwR w g n F)
  (hop:(F i).op=7\/(F i).op=8) (x:Int) (hx:IntKind.i64.wrap ((F i).dp+(F i).n)=x):
  Calls prog 108 #[.pointer (some ⟨bp,0,none⟩),.int .i64 i] w fun e w'=>e=.returned (.tuple #[])/\PwR w' g n (upd F (i+1) {F (i+1)with nx:=(F i).nx,dp:=x})/\q0p w g w w':=by
 obtain⟨d0,d1,d2,d3,d4,d5,d6⟩:=hp.get i (by omega);have hiI:(i:Int)<n:=by omega
 have hp0:(0:Int)<=(i:Int):=by omega
 have hw1:=z6y hn hiI;have HP:Hid (PwR w g n F):=hp;have HC:Hid (w.cell? ⟨bp,0,none⟩=some (.slice (some ⟨g,0,none⟩) n n)):=c0;have HF:Hid (∃q,F i=q):=⟨_,rfl⟩;clear hp;generalize F i=q at *;have hlt:g<w.heap.size:=HP.o.row.lt;rcases hop with e|e
 all_goals
  rw[e]at d0;go_in;go_wp2_with fail;refine(z0a bp g n (i+1) q.nx x F _ hi1 (ka HC.o _) (HP.o.kept (Below.heap_alloc _ _ _ hlt))).mono ?_;rintro e w2⟨rfl,h2,hb2⟩;go_wp2
  go_end0
  exact⟨rfl,h2,(q0p.of ((Below.refl _ w).alloc Zl _)).trans (hb2.mono (by simp))⟩
theorem y4l(bp g n i j:Nat)(F:Nat->Q)(w:World)(hn:n<=400)(hi1:i+1<n)(hj:j<n)(hbg:bp≠g)(c0:w.cell? ⟨bp,0,none⟩=some (.slice (some ⟨g,0,none⟩) n n))(hp:PwR w g n F)
  (hop:(F i).op=6) (hen:(F (i+1)).en=(j:Int)):
  Calls prog 108 #[.pointer (some ⟨bp,0,none⟩),.int .i64 i] w fun e w'=>e=.returned (.tuple #[])/\PwR w' g n (upd (upd F (i+1) {F (i+1)with nx:=j,dp:=(F i).dp}) j {upd F (i+1) {F (i+1)with nx:=j,dp:=(F i).dp} j with nx:=(F i).nx,dp:=(F i).dp})/\q0p w g w w':=by
 obtain⟨d0,d1,d2,d3,d4,d5,d6⟩:=hp.get i (by omega);have k3:=(hp.get (i+1) hi1).c3;rw[hen]at k3;have hiI:(i:Int)<n:=by omega
 have hi1I:(i:Int)+1<n:=by omega
 have hp0:(0:Int)<=(i:Int):=by omega
 have hp1:(0:Int)<=(i:Int)+1:=by omega
 have htn:((i:Int)+1).toNat=i+1:=by omega
 have hw1:=z6y hn hiI;have HP:Hid (PwR w g n F):=hp;have hlt:g<w.heap.size:=HP.o.row.lt;have hltb:bp<w.heap.size:=World.block_lt_of_cell? w ⟨bp,0,none⟩ c0;have HC:Hid (w.cell? ⟨bp,0,none⟩=some (.slice (some ⟨g,0,none⟩) n n)):=c0;have k3':∀O,(w.alloc O).cell? ⟨g,(i+1)*7+3,none⟩=some (.int .i64 (j:Int)):=fun O=>ka k3 O
 have c0':∀O,(w.alloc O).cell? ⟨bp,0,none⟩=some (.slice (some ⟨g,0,none⟩) n n):=fun O=>ka c0 O
 rw[hop]at d0;have HE:Hid ((F (i+1)).en=(j:Int)):=hen;clear hp hen k3 hop;generalize F i=q at *;go_in;go_wp2_with fail;refine(z0a bp g n (i+1) j q.dp F _ hi1 (c0' _) (HP.o.kept (Below.heap_alloc _ _ _ hlt))).mono ?_;rintro e w2⟨rfl,h2,hb2⟩;have b4:w2.cell? ⟨w,4,none⟩=some (.int .i64 q.nx):=(hb2.cell (p:=⟨w,4,none⟩) (by simp) (by simp;omega)).trans (by simp[go_sem]);have b5:w2.cell? ⟨w,5,none⟩=some (.int .i64 q.dp):=(hb2.cell (p:=⟨w,5,none⟩) (by simp) (by simp;omega)).trans (by simp[go_sem]);have c2:w2.cell? ⟨bp,0,none⟩=some (.slice (some ⟨g,0,none⟩) n n):=(hb2.cell (p:=⟨bp,0,none⟩) (by simp;omega) hbg).trans (c0' _);have HP2:Hid (PwR w2 g n (upd F (i+1) {F (i+1)with nx:=j,dp:=q.dp})):=h2;have HB2:Hid (q0p w g w w2):=(q0p.of ((Below.refl _ w).alloc Zl _)).trans (hb2.mono (by simp));clear h2 hb2;go_wp2_with fail;refine(z0a bp g n j q.nx q.dp _ _ hj c2 HP2.o).mono ?_;rintro e w3⟨rfl,h3,hb3⟩;go_wp2
 go_end0
 exact⟨rfl,h3,HB2.o.trans (hb3.mono HB2.o.size)⟩
theorem v5q(bp g n i j:Nat)(F:Nat->Q)(w:World)(hn:n<=400)(hi1:i+1<n)(hj:j<n)(hbg:bp≠g)(c0:w.cell? ⟨bp,0,none⟩=some (.slice (some ⟨g,0,none⟩) n n))(hp:PwR w g n F)
  (hop:(F i).op=9) (hen:(F (i+1)).en=(j:Int)):
  Calls prog 108 #[.pointer (some ⟨bp,0,none⟩),.int .i64 i] w fun e w'=>e=.returned (.tuple #[])/\PwR w' g n (upd (upd F (i+1) {F (i+1)with nx:=(F i).nx,dp:=(F i).dp}) j {upd F (i+1) {F (i+1)with nx:=(F i).nx,dp:=(F i).dp} j with nx:=(F i).nx,dp:=(F i).dp})/\q0p w g w w':=by
 obtain⟨d0,d1,d2,d3,d4,d5,d6⟩:=hp.get i (by omega);have hiI:(i:Int)<n:=by omega
 have hi1I:(i:Int)+1<n:=by omega
 have hp0:(0:Int)<=(i:Int):=by omega
 have hp1:(0:Int)<=(i:Int)+1:=by omega
 have htn:((i:Int)+1).toNat=i+1:=by omega
 have hw1:=z6y hn hiI;have HP:Hid (PwR w g n F):=hp;have hlt:g<w.heap.size:=HP.o.row.lt;have hltb:bp<w.heap.size:=World.block_lt_of_cell? w ⟨bp,0,none⟩ c0;have c0':∀O,(w.alloc O).cell? ⟨bp,0,none⟩=some (.slice (some ⟨g,0,none⟩) n n):=fun O=>ka c0 O
 rw[hop]at d0;have HE:Hid ((F (i+1)).en=(j:Int)):=hen;clear hp hen hop;generalize F i=q at *;go_in;go_wp2_with fail;refine(z0a bp g n (i+1) q.nx q.dp F _ hi1 (c0' _) (HP.o.kept (Below.heap_alloc _ _ _ hlt))).mono ?_;rintro e w2⟨rfl,h2,hb2⟩;have b4:w2.cell? ⟨w,4,none⟩=some (.int .i64 q.nx):=(hb2.cell (p:=⟨w,4,none⟩) (by simp) (by simp;omega)).trans (by simp[go_sem]);have b5:w2.cell? ⟨w,5,none⟩=some (.int .i64 q.dp):=(hb2.cell (p:=⟨w,5,none⟩) (by simp) (by simp;omega)).trans (by simp[go_sem]);have c2:w2.cell? ⟨bp,0,none⟩=some (.slice (some ⟨g,0,none⟩) n n):=(hb2.cell (p:=⟨bp,0,none⟩) (by simp;omega) hbg).trans (c0' _)
 have k3:w2.cell? ⟨g,(i+1)*7+3,none⟩=some (.int .i64 (j:Int)):=by
  have:=(h2.get (i+1) hi1).c3
  rw[q0o]at this;rw[<-HE.o];exact this
 have HP2:Hid (PwR w2 g n (upd F (i+1) {F (i+1)with nx:=q.nx,dp:=q.dp})):=h2;have HB2:Hid (q0p w g w w2):=(q0p.of ((Below.refl _ w).alloc Zl _)).trans (hb2.mono (by simp));have hs2:w.heap.size<w2.heap.size:=by have:=hb2.size;simp at this;omega
 have hKb:∀w3,q0p w2.drew.heap.size g w2.drew w3->w3.cell? ⟨bp,0,none⟩=some (.slice (some ⟨g,0,none⟩) n n):=fun w3 h=>(h.cell (p:=⟨bp,0,none⟩) (by simp;omega) hbg).trans c2
 have hK4:∀w3,q0p w2.drew.heap.size g w2.drew w3->w3.cell? ⟨w,4,none⟩=some (.int .i64 q.nx):=fun w3 h=>(h.cell (p:=⟨w,4,none⟩) hs2 (by simp;omega)).trans b4
 have hK5:∀w3,q0p w2.drew.heap.size g w2.drew w3->w3.cell? ⟨w,5,none⟩=some (.int .i64 q.dp):=fun w3 h=>(h.cell (p:=⟨w,5,none⟩) hs2 (by simp;omega)).trans b5
 have hK3:∀w3,PwR w3 g n (upd (upd F (i+1) {F (i+1)with nx:=q.nx,dp:=q.dp}) j {upd F (i+1) {F (i+1)with nx:=q.nx,dp:=q.dp} j with nx:=q.nx,dp:=q.dp})->w3.cell? ⟨g,(i+1)*7+3,none⟩=some (.int .i64 (j:Int)):=fun w3 h=>by
  have:=(h.get (i+1) hi1).c3
  rw[<-HE.o];by_cases e:i+1=j
  ·subst e;rw[q0o,q0o]at this;exact this
  ·rw[q1b e,q0o]at this;exact this
 clear h2 hb2;go_wp2_with fail
 go_region_held3 (fun w'=>w'.cell? ⟨bp,0,none⟩=some (.slice (some ⟨g,0,none⟩) n n)/\w'.cell? ⟨g,(i+1)*7+3,none⟩=some (.int .i64 (j:Int))/\w'.cell? ⟨w,4,none⟩=some (.int .i64 q.nx)/\w'.cell? ⟨w,5,none⟩=some (.int .i64 q.dp))
  (first|exact⟨c2,k3,b4,b5⟩|exact⟨hKb _ hb3,hK3 _ h3,hK4 _ hb3,hK5 _ hb3⟩) ((go_at_call 178;refine(z0a bp g n j q.nx q.dp _ w2.drew hj c2 (HP2.o.kept rfl)).mono ?_;rintro e w3⟨rfl,h3,hb3⟩))
 all_goals
  go_wp2
  go_end0
  exact⟨rfl,h3,HB2.o.drew.trans (hb3.mono HB2.o.size)⟩
structure ChB(w wx:World)(i c:Nat)(q:Q):Prop where
 a0:wx.cell? ⟨w,0,none⟩=some (.int .i64 i)
 a1:wx.cell? ⟨w,1,none⟩=some (.int .i64 c)
 r0:wx.cell? ⟨w.heap.size+1,0,none⟩=some (.int .i64 0)
 r1:wx.cell? ⟨w.heap.size+1,1,none⟩=some (.int .i64 0)
 r2:wx.cell? ⟨w.heap.size+1,2,none⟩=some (.int .i64 0)
 r3:wx.cell? ⟨w.heap.size+1,3,none⟩=some (.int .i64 0)
 r4:wx.cell? ⟨w.heap.size+1,4,none⟩=some (.int .i64 0)
 fr:z4i wx (w.heap.size+1)
 q0:wx.cell? ⟨w.heap.size+1+1,0,none⟩=some (.int .i64 q.op)
 q1:wx.cell? ⟨w.heap.size+1+1,1,none⟩=some (.string q.tx)
 q2:wx.cell? ⟨w.heap.size+1+1,2,none⟩=some (.int .i64 q.n)
 q3:wx.cell? ⟨w.heap.size+1+1,3,none⟩=some (.int .i64 q.en)
 q4:wx.cell? ⟨w.heap.size+1+1,4,none⟩=some (.int .i64 q.nx)
 q5:wx.cell? ⟨w.heap.size+1+1,5,none⟩=some (.int .i64 q.dp)
 q6:wx.cell? ⟨w.heap.size+1+1,6,none⟩=some (.int .i64 q.lg)
 lt:w.heap.size+1+1<wx.heap.size
theorem ChB.kept{w wx wy:World}{i c mb:Nat}{q:Q}(h:ChB w wx i c q)(hb:q0p wx mb wx wy)(hm:mb<w.heap.size):ChB w wy i c q:=by
 have hc:∀b o v,b≠mb->wx.cell? ⟨b,o,none⟩=some v->wy.cell? ⟨b,o,none⟩=some v:=fun b o v he hv=>(hb.cell (p:=⟨b,o,none⟩) (World.block_lt_of_cell? wx ⟨b,o,none⟩ hv) he).trans hv
 exact⟨hc _ _ _ (by omega) h.a0,hc _ _ _ (by omega) h.a1,hc _ _ _ (by omega) h.r0,hc _ _ _ (by omega) h.r1,hc _ _ _ (by omega) h.r2,hc _ _ _ (by omega) h.r3,hc _ _ _ (by omega) h.r4,h.fr.kept (hb.block _ h.fr.lt (by omega)),
  hc _ _ _ (by omega) h.q0,hc _ _ _ (by omega) h.q1,hc _ _ _ (by omega) h.q2,hc _ _ _ (by omega) h.q3,hc _ _ _ (by omega) h.q4,hc _ _ _ (by omega) h.q5,hc _ _ _ (by omega) h.q6,Nat.lt_of_lt_of_le h.lt hb.size⟩
theorem j6p{sb g mb wd i c:Nat}{R:List Pl}{S:Nat->Nat->Bool}{w w1:World}(h:Sk1 sb g mb wd i c R S w w1)(q:Q):ChB w (w1.alloc (q5p q)).drew i c q:=by
 have n1:=heap_alloc_new w1 (q5p q);rw[h.sz]at n1;have hc:∀o v,(w1.alloc (q5p q)).cell? ⟨w.heap.size+1+1,o,none⟩=v->(w1.alloc (q5p q)).drew.cell? ⟨w.heap.size+1+1,o,none⟩=v:=fun _ _ h=>h
 refine⟨ka h.a0 _,ka h.a1 _,ka h.r0 _,ka h.r1 _,ka h.r2 _,ka h.r3 _,ka h.r4 _,h.fr.kept (Below.heap_alloc _ _ _ h.fr.lt),hc _ _ ?_,hc _ _ ?_,hc _ _ ?_,hc _ _ ?_,hc _ _ ?_,hc _ _ ?_,hc _ _ ?_,?_⟩
 ·simp[World.cell?,n1,q5p]
 ·simp[World.cell?,n1,q5p]
 ·simp[World.cell?,n1,q5p]
 ·simp[World.cell?,n1,q5p]
 ·simp[World.cell?,n1,q5p]
 ·simp[World.cell?,n1,q5p]
 ·simp[World.cell?,n1,q5p]
 ·show w.heap.size+1+1<(w1.alloc (q5p q)).heap.size;simp[h.sz]
theorem k5p{R:List Pl}{L M i nx dp wd c:Nat}{ks:List (Nat × Tr)}{t:Tr}(sb g mb:Nat)(hsp:Sp R L M i t nx dp ks)(hlg:(q2 (q1g R i)).lg=-1)(hT:z6m sb g mb wd R i c 1)(w:World)(S:Nat->Nat->Bool)(h:Inv sb g mb wd R w S):
  Calls prog 110 #[.pointer (some ⟨sb,0,none⟩),.agg #[.int .i64 i,.int .i64 c]] w fun e w'=>e=.returned (cvV (tkC R wd i c 1))/\Left sb g mb wd R S (i+1) (tkC R wd i c 1).np (tkC R wd i c 1).nc w w':=by
 have H:Hid (Inv sb g mb wd R w S):=h;have hlt:=h.lt;have hi:i<R.length:=hsp.lt;have hiI:(i:Int)<(R.length:Int):=by omega
 have hp0:(0:Int)<=(i:Int):=by omega
 have HQ:Hid (∀W,q5t W sb g wd R->z4h W g i (q2 (q1g R i))):=fun W hW=>hW.pr.get i hi
 have HT:Hid (z6m sb g mb wd R i c 1):=hT;have HLG:Hid ((q2 (q1g R i)).lg=-1):=hlg;clear hT hlg;rw[cvV];clear h hsp;generalize q2 (q1g R i)=q at *;go_in;go_wp2_with fail;have hsk:Sk1 sb g mb wd i c R S w ((w.alloc (.cells #[.int .i64 i,.int .i64 c] 121)).alloc (.cells #[.int .i64 0,.int .i64 0,.int .i64 0,.int .i64 0,.int .i64 0] 123)):=z8d (nq:=0) H.o
 generalize(w.alloc (.cells #[.int .i64 i,.int .i64 c] 121)).alloc (.cells #[.int .i64 0,.int .i64 0,.int .i64 0,.int .i64 0,.int .i64 0] 123)=w1 at *
 have HK:Hid (Sk1 sb g mb wd i c R S w w1):=hsk;have hs1:=hsk.sz
 have hS0:∀W:World,W=w1.drew\/(∃O,W=(w1.alloc O).drew)->W.cell? ⟨sb,0,none⟩=some (.slice (some ⟨g,0,none⟩) R.length R.length)/\W.cell? ⟨w,0,none⟩=some (.int .i64 i)/\W.cell? ⟨g,i*7,none⟩=some (.int .i64 q.op)/\W.cell? ⟨g,i*7+1,none⟩=some (.string q.tx)/\W.cell? ⟨g,i*7+2,none⟩=some (.int .i64 q.n)/\W.cell? ⟨g,i*7+3,none⟩=some (.int .i64 q.en)/\W.cell? ⟨g,i*7+4,none⟩=some (.int .i64 q.nx)/\W.cell? ⟨g,i*7+5,none⟩=some (.int .i64 q.dp)/\W.cell? ⟨g,i*7+6,none⟩=some (.int .i64 q.lg):=by
  intro W hW
  have hPA:q5t W sb g wd R/\W.cell? ⟨w,0,none⟩=some (.int .i64 i):=by
   rcases hW with rfl|⟨O,rfl⟩
   ·exact⟨HK.o.inv.pl.kept rfl rfl,HK.o.a0⟩
   ·exact⟨(HK.o.inv.pl.alloc O).kept rfl rfl,ka HK.o.a0 O⟩
  obtain⟨d0,d1,d2,d3,d4,d5,d6⟩:=HQ.o W hPA.1;exact⟨hPA.1.c0,hPA.2,d0,d1,d2,d3,d4,d5,d6⟩
 have hSa:=hS0 w1.drew (.inl rfl);have hSb:=fun O=>hS0 (w1.alloc O).drew (.inr ⟨O,rfl⟩)
 have HCB:Hid (ChB w (w1.alloc (q5p q)).drew i c q):=j6p HK.o q;have HI1:Hid (Inv sb g mb wd R (w1.alloc (q5p q)).drew S):=(HK.o.inv.alloc _).kept fun _ _=>rfl
 have HB1:Hid (q0p w mb w (w1.alloc (q5p q)).drew):=(q0p.of (HK.o.bw.alloc HK.o.bw.size _)).drew;clear hsk hS0
 go_region_held3 (fun w'=>w'.cell? ⟨sb,0,none⟩=some (.slice (some ⟨g,0,none⟩) R.length R.length)/\w'.cell? ⟨w,0,none⟩=some (.int .i64 i)/\w'.cell? ⟨g,i*7,none⟩=some (.int .i64 q.op)/\w'.cell? ⟨g,i*7+1,none⟩=some (.string q.tx)/\w'.cell? ⟨g,i*7+2,none⟩=some (.int .i64 q.n)/\w'.cell? ⟨g,i*7+3,none⟩=some (.int .i64 q.en)/\w'.cell? ⟨g,i*7+4,none⟩=some (.int .i64 q.nx)/\w'.cell? ⟨g,i*7+5,none⟩=some (.int .i64 q.dp)/\w'.cell? ⟨g,i*7+6,none⟩=some (.int .i64 q.lg))
  (first|with_reducible exact hSa|with_reducible exact hSb _) (fail)
 all_goals
  generalize(w1.alloc (.cells #[.int .i64 q.op,.string q.tx,.int .i64 q.n,.int .i64 q.en,.int .i64 q.nx,.int .i64 q.dp,.int .i64 q.lg] 182)).drew=w2 at *
  have a0:=HCB.o.a0;have a1:=HCB.o.a1;have q6:=HCB.o.q6;clear hSa hSb hs1;rw[HLG.o]at q6;go_wp2_with fail;refine(HT.o w2 S HI1.o).mono ?_;rintro e w3⟨rfl,hbx,S',hI,hmo,hlo,hin⟩;rw[cvV];have hCB:=HCB.o.kept hbx hlt.2.2;have r0:=hCB.r0;have r1:=hCB.r1;have r2:=hCB.r2;have r3:=hCB.r3;have r4:=hCB.r4;have y0:w3.frozen? ⟨w.heap.size+1,0,none⟩=false:=hCB.fr.frozen;have y1:w3.frozen? ⟨w.heap.size+1,1,none⟩=false:=hCB.fr.frozen;have y2:w3.frozen? ⟨w.heap.size+1,2,none⟩=false:=hCB.fr.frozen;have y3:w3.frozen? ⟨w.heap.size+1,3,none⟩=false:=hCB.fr.frozen;have y4:w3.frozen? ⟨w.heap.size+1,4,none⟩=false:=hCB.fr.frozen;have HBX:Hid (q0p w mb w w3):=HB1.o.trans (hbx.mono HB1.o.size);have HR:Hid (Inv sb g mb wd R w3 S'/\(∀a b,S a b=true->S' a b=true)/\(∀a b,S' a b=true->S a b=true\/i+1<=a)/\((q3h R wd i c 1).np<R.length->S' (q3h R wd i c 1).np (q3h R wd i c 1).nc=true)):=⟨hI,hmo,hlo,hin⟩;clear hbx hI hmo hlo hin hCB a0 a1 q6;go_wp2;exact bodyPost_ret (v:=.agg #[.int .i64 (tkC R wd i c 1).o,.int .i64 (tkC R wd i c 1).l,.int .i64 (tkC R wd i c 1).ch,.int .i64 (tkC R wd i c 1).np,.int .i64 (tkC R wd i c 1).nc]) (by simp[results,Tryz.results110,go_sem,r0,r1,r2,r3,r4]) rfl ⟨rfl,k5m HBX.o (by omega) _ _ _ _ _,S',HR.o.1.set5 (by omega) (by omega) (by omega) _ _ _ _ _,HR.o.2.1,HR.o.2.2.1,HR.o.2.2.2⟩
theorem k1y{R:List Pl}{L M i nx dp wd c:Nat}{ks:List (Nat × Tr)}{t:Tr}(sb g mb:Nat)(hsp:Sp R L M i t nx dp ks)(hlg:((q2 (q1g R i)).lg==-1)=false)(hch:z2j (q2 (q1g R i)).op=false)(hT0:z6m sb g mb wd R i c 0)(w:World)(S:Nat->Nat->Bool)(h:Inv sb g mb wd R w S):
  Calls prog 110 #[.pointer (some ⟨sb,0,none⟩),.agg #[.int .i64 i,.int .i64 c]] w fun e w'=>e=.returned (cvV (tkC R wd i c 0))/\Left sb g mb wd R S (i+1) (tkC R wd i c 0).np (tkC R wd i c 0).nc w w':=by
 have H:Hid (Inv sb g mb wd R w S):=h;have hlt:=h.lt;have hi:i<R.length:=hsp.lt;have hiI:(i:Int)<(R.length:Int):=by omega
 have hp0:(0:Int)<=(i:Int):=by omega
 have HQ:Hid (∀W,q5t W sb g wd R->z4h W g i (q2 (q1g R i))):=fun W hW=>hW.pr.get i hi
 have HT0:Hid (z6m sb g mb wd R i c 0):=hT0;clear hT0;rw[cvV];clear h hsp;generalize q2 (q1g R i)=q at *;go_in;go_wp2_with fail;have hsk:Sk1 sb g mb wd i c R S w ((w.alloc (.cells #[.int .i64 i,.int .i64 c] 121)).alloc (.cells #[.int .i64 0,.int .i64 0,.int .i64 0,.int .i64 0,.int .i64 0] 123)):=z8d (nq:=0) H.o
 generalize(w.alloc (.cells #[.int .i64 i,.int .i64 c] 121)).alloc (.cells #[.int .i64 0,.int .i64 0,.int .i64 0,.int .i64 0,.int .i64 0] 123)=w1 at *
 have HK:Hid (Sk1 sb g mb wd i c R S w w1):=hsk;have hs1:=hsk.sz
 have hS0:∀W:World,W=w1.drew\/(∃O,W=(w1.alloc O).drew)->W.cell? ⟨sb,0,none⟩=some (.slice (some ⟨g,0,none⟩) R.length R.length)/\W.cell? ⟨w,0,none⟩=some (.int .i64 i)/\W.cell? ⟨g,i*7,none⟩=some (.int .i64 q.op)/\W.cell? ⟨g,i*7+1,none⟩=some (.string q.tx)/\W.cell? ⟨g,i*7+2,none⟩=some (.int .i64 q.n)/\W.cell? ⟨g,i*7+3,none⟩=some (.int .i64 q.en)/\W.cell? ⟨g,i*7+4,none⟩=some (.int .i64 q.nx)/\W.cell? ⟨g,i*7+5,none⟩=some (.int .i64 q.dp)/\W.cell? ⟨g,i*7+6,none⟩=some (.int .i64 q.lg):=by
  intro W hW
  have hPA:q5t W sb g wd R/\W.cell? ⟨w,0,none⟩=some (.int .i64 i):=by
   rcases hW with rfl|⟨O,rfl⟩
   ·exact⟨HK.o.inv.pl.kept rfl rfl,HK.o.a0⟩
   ·exact⟨(HK.o.inv.pl.alloc O).kept rfl rfl,ka HK.o.a0 O⟩
  obtain⟨d0,d1,d2,d3,d4,d5,d6⟩:=HQ.o W hPA.1;exact⟨hPA.1.c0,hPA.2,d0,d1,d2,d3,d4,d5,d6⟩
 have hSa:=hS0 w1.drew (.inl rfl);have hSb:=fun O=>hS0 (w1.alloc O).drew (.inr ⟨O,rfl⟩)
 have HCB:Hid (ChB w (w1.alloc (q5p q)).drew i c q):=j6p HK.o q;have HI1:Hid (Inv sb g mb wd R (w1.alloc (q5p q)).drew S):=(HK.o.inv.alloc _).kept fun _ _=>rfl
 have HB1:Hid (q0p w mb w (w1.alloc (q5p q)).drew):=(q0p.of (HK.o.bw.alloc HK.o.bw.size _)).drew;clear hsk hS0
 go_region_held3 (fun w'=>w'.cell? ⟨sb,0,none⟩=some (.slice (some ⟨g,0,none⟩) R.length R.length)/\w'.cell? ⟨w,0,none⟩=some (.int .i64 i)/\w'.cell? ⟨g,i*7,none⟩=some (.int .i64 q.op)/\w'.cell? ⟨g,i*7+1,none⟩=some (.string q.tx)/\w'.cell? ⟨g,i*7+2,none⟩=some (.int .i64 q.n)/\w'.cell? ⟨g,i*7+3,none⟩=some (.int .i64 q.en)/\w'.cell? ⟨g,i*7+4,none⟩=some (.int .i64 q.nx)/\w'.cell? ⟨g,i*7+5,none⟩=some (.int .i64 q.dp)/\w'.cell? ⟨g,i*7+6,none⟩=some (.int .i64 q.lg))
  (first|with_reducible exact hSa|with_reducible exact hSb _) (fail)
 all_goals
  generalize(w1.alloc (.cells #[.int .i64 q.op,.string q.tx,.int .i64 q.n,.int .i64 q.en,.int .i64 q.nx,.int .i64 q.dp,.int .i64 q.lg] 182)).drew=w2 at *
  have a0:=HCB.o.a0;have a1:=HCB.o.a1;have q6:=HCB.o.q6;clear hSa hSb hs1;go_wp2_with fail;refine(HT0.o w2 S HI1.o).mono ?_;rintro e w3⟨rfl,hbx,S',hI,hmo,hlo,hin⟩;rw[cvV];have hCB:=HCB.o.kept hbx hlt.2.2;have HBX:Hid (q0p w mb w w3):=HB1.o.trans (hbx.mono HB1.o.size);have HR:Hid (Inv sb g mb wd R w3 S'/\(∀a b,S a b=true->S' a b=true)/\(∀a b,S' a b=true->S a b=true\/i+1<=a)/\((tkC R wd i c 0).np<R.length->S' (tkC R wd i c 0).np (tkC R wd i c 0).nc=true)):=⟨hI,hmo,hlo,hin⟩;have u0:=fun O=>ka hCB.q0 O
  have u1:=fun O=>ka hCB.q1 O
  have u2:=fun O=>ka hCB.q2 O
  have u3:=fun O=>ka hCB.q3 O
  have u4:=fun O=>ka hCB.q4 O
  have u5:=fun O=>ka hCB.q5 O
  have u6:=fun O=>ka hCB.q6 O
  have HCB3:Hid (ChB w w3 i c q):=hCB;clear hbx hI hmo hlo hin hCB a0 a1 q6;go_wp2_with fail;refine(q9z q.op q.tx q.n q.en q.nx q.dp q.lg _).mono ?_;rintro e w4⟨rfl,hb4⟩;rw[hch];have hwk:w3.heap.size<w4.heap.size:=by have:=hb4.size;simp at this;omega
  have HCB4:Hid (ChB w w4 i c q):=(HCB3.o.kept (mb:=mb) (q0p.of ((Below.refl _ w3).alloc Zl _)) hlt.2.2).kept (q0p.of hb4) hlt.2.2;have HI4:Hid (Inv sb g mb wd R w4 S'):=(HR.o.1.alloc _).W hb4;have HB4:Hid (q0p w mb w w4):=(HBX.o.alloc (by have:=HBX.o.size;omega) _).trans (q0p.of (hb4.mono (by have:=HBX.o.size;simp;omega)));have s0:w4.cell? ⟨w3,0,none⟩=some (.int .i64 (tkC R wd i c 0).o):=(hb4.cell (p:=⟨w3,0,none⟩) (by simp)).trans (by simp[go_sem]);have s1:w4.cell? ⟨w3,1,none⟩=some (.int .i64 (tkC R wd i c 0).l):=(hb4.cell (p:=⟨w3,1,none⟩) (by simp)).trans (by simp[go_sem]);have s2:w4.cell? ⟨w3,2,none⟩=some (.int .i64 (tkC R wd i c 0).ch):=(hb4.cell (p:=⟨w3,2,none⟩) (by simp)).trans (by simp[go_sem]);have s3:w4.cell? ⟨w3,3,none⟩=some (.int .i64 (tkC R wd i c 0).np):=(hb4.cell (p:=⟨w3,3,none⟩) (by simp)).trans (by simp[go_sem]);have s4:w4.cell? ⟨w3,4,none⟩=some (.int .i64 (tkC R wd i c 0).nc):=(hb4.cell (p:=⟨w3,4,none⟩) (by simp)).trans (by simp[go_sem]);have r0:=HCB4.o.r0;have r1:=HCB4.o.r1;have r2:=HCB4.o.r2;have r3:=HCB4.o.r3;have r4:=HCB4.o.r4;have y0:w4.frozen? ⟨w.heap.size+1,0,none⟩=false:=HCB4.o.fr.frozen;have y1:w4.frozen? ⟨w.heap.size+1,1,none⟩=false:=HCB4.o.fr.frozen;have y2:w4.frozen? ⟨w.heap.size+1,2,none⟩=false:=HCB4.o.fr.frozen;have y3:w4.frozen? ⟨w.heap.size+1,3,none⟩=false:=HCB4.o.fr.frozen;have y4:w4.frozen? ⟨w.heap.size+1,4,none⟩=false:=HCB4.o.fr.frozen;clear u0 u1 u2 u3 u4 u5 u6 hb4;go_wp2;exact bodyPost_ret (v:=.agg #[.int .i64 (tkC R wd i c 0).o,.int .i64 (tkC R wd i c 0).l,.int .i64 (tkC R wd i c 0).ch,.int .i64 (tkC R wd i c 0).np,.int .i64 (tkC R wd i c 0).nc]) (by simp[results,Tryz.results110,go_sem,r0,r1,r2,r3,r4]) rfl ⟨rfl,k5m HB4.o (by omega) _ _ _ _ _,S',HI4.o.set5 (by omega) (by omega) (by omega) _ _ _ _ _,HR.o.2.1,HR.o.2.2.1,HR.o.2.2.2⟩
theorem z0d{R:List Pl}{L M i nx dp wd c:Nat}{ks:List (Nat × Tr)}{t:Tr}(sb g mb:Nat)(hsp:Sp R L M i t nx dp ks)(hlg:((q2 (q1g R i)).lg==-1)=false)(hch:z2j (q2 (q1g R i)).op=true)(hT0:z6m sb g mb wd R i c 0)(hT1:z6m sb g mb wd R i c 1)(hb0:(tkC R wd i c 0).o<=1000000/\(tkC R wd i c 0).l<=1000000)(hb1:(tkC R wd i c 1).o<=1000000/\(tkC R wd i c 1).l<=1000000)(k:Nat)(hk:k=0/\decide (q1q ((tkC R wd i c 1).o,(tkC R wd i c 1).l) ((tkC R wd i c 0).o,(tkC R wd i c 0).l))=false\/k=1/\decide (q1q ((tkC R wd i c 1).o,(tkC R wd i c 1).l) ((tkC R wd i c 0).o,(tkC R wd i c 0).l))=true)(w:World)(S:Nat->Nat->Bool)(h:Inv sb g mb wd R w S):
  Calls prog 110 #[.pointer (some ⟨sb,0,none⟩),.agg #[.int .i64 i,.int .i64 c]] w fun e w'=>e=.returned (cvV (tkC R wd i c k))/\Left sb g mb wd R S (i+1) (tkC R wd i c k).np (tkC R wd i c k).nc w w':=by
 have H:Hid (Inv sb g mb wd R w S):=h;have hlt:=h.lt;have hi:i<R.length:=hsp.lt;have hiI:(i:Int)<(R.length:Int):=by omega
 have hp0:(0:Int)<=(i:Int):=by omega
 have HQ:Hid (∀W,q5t W sb g wd R->z4h W g i (q2 (q1g R i))):=fun W hW=>hW.pr.get i hi
 have HT0:Hid (z6m sb g mb wd R i c 0):=hT0;have HT1:Hid (z6m sb g mb wd R i c 1):=hT1;clear hT0 hT1;rw[cvV];clear h hsp;generalize q2 (q1g R i)=q at *;go_in;go_wp2_with fail;have hsk:Sk1 sb g mb wd i c R S w ((w.alloc (.cells #[.int .i64 i,.int .i64 c] 121)).alloc (.cells #[.int .i64 0,.int .i64 0,.int .i64 0,.int .i64 0,.int .i64 0] 123)):=z8d (nq:=0) H.o
 generalize(w.alloc (.cells #[.int .i64 i,.int .i64 c] 121)).alloc (.cells #[.int .i64 0,.int .i64 0,.int .i64 0,.int .i64 0,.int .i64 0] 123)=w1 at *
 have HK:Hid (Sk1 sb g mb wd i c R S w w1):=hsk;have hs1:=hsk.sz
 have hS0:∀W:World,W=w1.drew\/(∃O,W=(w1.alloc O).drew)->W.cell? ⟨sb,0,none⟩=some (.slice (some ⟨g,0,none⟩) R.length R.length)/\W.cell? ⟨w,0,none⟩=some (.int .i64 i)/\W.cell? ⟨g,i*7,none⟩=some (.int .i64 q.op)/\W.cell? ⟨g,i*7+1,none⟩=some (.string q.tx)/\W.cell? ⟨g,i*7+2,none⟩=some (.int .i64 q.n)/\W.cell? ⟨g,i*7+3,none⟩=some (.int .i64 q.en)/\W.cell? ⟨g,i*7+4,none⟩=some (.int .i64 q.nx)/\W.cell? ⟨g,i*7+5,none⟩=some (.int .i64 q.dp)/\W.cell? ⟨g,i*7+6,none⟩=some (.int .i64 q.lg):=by
  intro W hW
  have hPA:q5t W sb g wd R/\W.cell? ⟨w,0,none⟩=some (.int .i64 i):=by
   rcases hW with rfl|⟨O,rfl⟩
   ·exact⟨HK.o.inv.pl.kept rfl rfl,HK.o.a0⟩
   ·exact⟨(HK.o.inv.pl.alloc O).kept rfl rfl,ka HK.o.a0 O⟩
  obtain⟨d0,d1,d2,d3,d4,d5,d6⟩:=HQ.o W hPA.1;exact⟨hPA.1.c0,hPA.2,d0,d1,d2,d3,d4,d5,d6⟩
 have hSa:=hS0 w1.drew (.inl rfl);have hSb:=fun O=>hS0 (w1.alloc O).drew (.inr ⟨O,rfl⟩)
 have HCB:Hid (ChB w (w1.alloc (q5p q)).drew i c q):=j6p HK.o q;have HI1:Hid (Inv sb g mb wd R (w1.alloc (q5p q)).drew S):=(HK.o.inv.alloc _).kept fun _ _=>rfl
 have HB1:Hid (q0p w mb w (w1.alloc (q5p q)).drew):=(q0p.of (HK.o.bw.alloc HK.o.bw.size _)).drew;clear hsk hS0
 go_region_held3 (fun w'=>w'.cell? ⟨sb,0,none⟩=some (.slice (some ⟨g,0,none⟩) R.length R.length)/\w'.cell? ⟨w,0,none⟩=some (.int .i64 i)/\w'.cell? ⟨g,i*7,none⟩=some (.int .i64 q.op)/\w'.cell? ⟨g,i*7+1,none⟩=some (.string q.tx)/\w'.cell? ⟨g,i*7+2,none⟩=some (.int .i64 q.n)/\w'.cell? ⟨g,i*7+3,none⟩=some (.int .i64 q.en)/\w'.cell? ⟨g,i*7+4,none⟩=some (.int .i64 q.nx)/\w'.cell? ⟨g,i*7+5,none⟩=some (.int .i64 q.dp)/\w'.cell? ⟨g,i*7+6,none⟩=some (.int .i64 q.lg))
  (first|with_reducible exact hSa|with_reducible exact hSb _) (fail)
 all_goals
  generalize(w1.alloc (.cells #[.int .i64 q.op,.string q.tx,.int .i64 q.n,.int .i64 q.en,.int .i64 q.nx,.int .i64 q.dp,.int .i64 q.lg] 182)).drew=w2 at *
  have a0:=HCB.o.a0;have a1:=HCB.o.a1;have q6:=HCB.o.q6;clear hSa hSb hs1;go_wp2_with fail;refine(HT0.o w2 S HI1.o).mono ?_;rintro e w3⟨rfl,hbx,S',hI,hmo,hlo,hin⟩;rw[cvV];have hCB:=HCB.o.kept hbx hlt.2.2;have HBX:Hid (q0p w mb w w3):=HB1.o.trans (hbx.mono HB1.o.size);have HR:Hid (Inv sb g mb wd R w3 S'/\(∀a b,S a b=true->S' a b=true)/\(∀a b,S' a b=true->S a b=true\/i+1<=a)/\((tkC R wd i c 0).np<R.length->S' (tkC R wd i c 0).np (tkC R wd i c 0).nc=true)):=⟨hI,hmo,hlo,hin⟩;have u0:=fun O=>ka hCB.q0 O
  have u1:=fun O=>ka hCB.q1 O
  have u2:=fun O=>ka hCB.q2 O
  have u3:=fun O=>ka hCB.q3 O
  have u4:=fun O=>ka hCB.q4 O
  have u5:=fun O=>ka hCB.q5 O
  have u6:=fun O=>ka hCB.q6 O
  have HCB3:Hid (ChB w w3 i c q):=hCB;clear hbx hI hmo hlo hin hCB a0 a1 q6;go_wp2_with fail;refine(q9z q.op q.tx q.n q.en q.nx q.dp q.lg _).mono ?_;rintro e w4⟨rfl,hb4⟩;rw[hch];have hwk:w3.heap.size<w4.heap.size:=by have:=hb4.size;simp at this;omega
  have HCB4:Hid (ChB w w4 i c q):=(HCB3.o.kept (mb:=mb) (q0p.of ((Below.refl _ w3).alloc Zl _)) hlt.2.2).kept (q0p.of hb4) hlt.2.2;have HI4:Hid (Inv sb g mb wd R w4 S'):=(HR.o.1.alloc _).W hb4;have HB4:Hid (q0p w mb w w4):=(HBX.o.alloc (by have:=HBX.o.size;omega) _).trans (q0p.of (hb4.mono (by have:=HBX.o.size;simp;omega)));have s0:w4.cell? ⟨w3,0,none⟩=some (.int .i64 (tkC R wd i c 0).o):=(hb4.cell (p:=⟨w3,0,none⟩) (by simp)).trans (by simp[go_sem]);have s1:w4.cell? ⟨w3,1,none⟩=some (.int .i64 (tkC R wd i c 0).l):=(hb4.cell (p:=⟨w3,1,none⟩) (by simp)).trans (by simp[go_sem]);have s2:w4.cell? ⟨w3,2,none⟩=some (.int .i64 (tkC R wd i c 0).ch):=(hb4.cell (p:=⟨w3,2,none⟩) (by simp)).trans (by simp[go_sem]);have s3:w4.cell? ⟨w3,3,none⟩=some (.int .i64 (tkC R wd i c 0).np):=(hb4.cell (p:=⟨w3,3,none⟩) (by simp)).trans (by simp[go_sem]);have s4:w4.cell? ⟨w3,4,none⟩=some (.int .i64 (tkC R wd i c 0).nc):=(hb4.cell (p:=⟨w3,4,none⟩) (by simp)).trans (by simp[go_sem]);have a0:=HCB4.o.a0;have a1:=HCB4.o.a1;clear u0 u1 u2 u3 u4 u5 u6 hb4;go_wp2_with fail;refine(HT1.o w4 S' HI4.o).mono ?_;rintro e w5⟨rfl,hbx,S2,hI,hmo,hlo,hin⟩;rw[cvV];have HCB5:Hid (ChB w w5 i c q):=HCB4.o.kept hbx hlt.2.2;have HB5:Hid (q0p w mb w w5):=HB4.o.trans (hbx.mono HB4.o.size);have hne:w3.heap.size≠mb:=by have:=HBX.o.size;omega
  have z0:w5.cell? ⟨w3,0,none⟩=some (.int .i64 (tkC R wd i c 0).o):=(hbx.cell (p:=⟨w3,0,none⟩) hwk hne).trans s0;have z1:w5.cell? ⟨w3,1,none⟩=some (.int .i64 (tkC R wd i c 0).l):=(hbx.cell (p:=⟨w3,1,none⟩) hwk hne).trans s1;have z2:w5.cell? ⟨w3,2,none⟩=some (.int .i64 (tkC R wd i c 0).ch):=(hbx.cell (p:=⟨w3,2,none⟩) hwk hne).trans s2;have z3:w5.cell? ⟨w3,3,none⟩=some (.int .i64 (tkC R wd i c 0).np):=(hbx.cell (p:=⟨w3,3,none⟩) hwk hne).trans s3;have z4:w5.cell? ⟨w3,4,none⟩=some (.int .i64 (tkC R wd i c 0).nc):=(hbx.cell (p:=⟨w3,4,none⟩) hwk hne).trans s4;have v0:=fun O=>ka z0 O
  have v1:=fun O=>ka z1 O
  have HR5:Hid (Inv sb g mb wd R w5 S2/\(∀a b,S' a b=true->S2 a b=true)/\(∀a b,S2 a b=true->S' a b=true\/i+1<=a)/\((tkC R wd i c 1).np<R.length->S2 (tkC R wd i c 1).np (tkC R wd i c 1).nc=true)):=⟨hI,hmo,hlo,hin⟩;have hwk5:w3.heap.size<w5.heap.size:=Nat.lt_of_lt_of_le hwk hbx.size;clear hbx hI hmo hlo hin a0 a1;go_wp2_with fail;refine(j5z (tkC R wd i c 1).o (tkC R wd i c 1).l (tkC R wd i c 0).o (tkC R wd i c 0).l hb1.1 hb1.2 hb0.1 hb0.2 _).mono ?_;rintro e w6⟨rfl,hb6⟩;have hCB6:=(HCB5.o.kept (mb:=mb) (q0p.of ((Below.refl _ w5).alloc Zl _)) hlt.2.2).kept (q0p.of hb6) hlt.2.2;have HI6:Hid (Inv sb g mb wd R w6 S2):=(HR5.o.1.alloc _).W hb6;have HB6:Hid (q0p w mb w w6):=(HB5.o.alloc (by have:=HB5.o.size;omega) _).trans (q0p.of (hb6.mono (by have:=HB5.o.size;simp;omega)));have r0:=hCB6.r0;have r1:=hCB6.r1;have r2:=hCB6.r2;have r3:=hCB6.r3;have r4:=hCB6.r4;have y0:w6.frozen? ⟨w.heap.size+1,0,none⟩=false:=hCB6.fr.frozen;have y1:w6.frozen? ⟨w.heap.size+1,1,none⟩=false:=hCB6.fr.frozen;have y2:w6.frozen? ⟨w.heap.size+1,2,none⟩=false:=hCB6.fr.frozen;have y3:w6.frozen? ⟨w.heap.size+1,3,none⟩=false:=hCB6.fr.frozen;have y4:w6.frozen? ⟨w.heap.size+1,4,none⟩=false:=hCB6.fr.frozen;rcases hk with⟨rfl,hless⟩|⟨rfl,hless⟩
  ·rw[hless];have x0:w6.cell? ⟨w3,0,none⟩=some (.int .i64 (tkC R wd i c 0).o):=(hb6.cell (p:=⟨w3,0,none⟩) (by simp;omega)).trans (ka z0 _);have x1:w6.cell? ⟨w3,1,none⟩=some (.int .i64 (tkC R wd i c 0).l):=(hb6.cell (p:=⟨w3,1,none⟩) (by simp;omega)).trans (ka z1 _);have x2:w6.cell? ⟨w3,2,none⟩=some (.int .i64 (tkC R wd i c 0).ch):=(hb6.cell (p:=⟨w3,2,none⟩) (by simp;omega)).trans (ka z2 _);have x3:w6.cell? ⟨w3,3,none⟩=some (.int .i64 (tkC R wd i c 0).np):=(hb6.cell (p:=⟨w3,3,none⟩) (by simp;omega)).trans (ka z3 _);have x4:w6.cell? ⟨w3,4,none⟩=some (.int .i64 (tkC R wd i c 0).nc):=(hb6.cell (p:=⟨w3,4,none⟩) (by simp;omega)).trans (ka z4 _);clear z0 z1 z2 z3 z4 s0 s1 s2 s3 s4 v0 v1 hb6 hCB6;go_wp2;refine bodyPost_ret (v:=.agg #[.int .i64 (tkC R wd i c 0).o,.int .i64 (tkC R wd i c 0).l,.int .i64 (tkC R wd i c 0).ch,.int .i64 (tkC R wd i c 0).np,.int .i64 (tkC R wd i c 0).nc]) (by simp[results,Tryz.results110,go_sem,r0,r1,r2,r3,r4]) rfl ⟨rfl,k5m HB6.o (by omega) _ _ _ _ _,S2,HI6.o.set5 (by omega) (by omega) (by omega) _ _ _ _ _,fun a b hab=>HR5.o.2.1 a b (HR.o.2.1 a b hab),fun a b hab=>?_,fun h=>HR5.o.2.1 _ _ (HR.o.2.2.2 h)⟩;rcases HR5.o.2.2.1 a b hab with h|h
   ·exact HR.o.2.2.1 a b h
   ·exact .inr h
  ·rw[hless];have x0:w6.cell? ⟨w5,0,none⟩=some (.int .i64 (tkC R wd i c 1).o):=(hb6.cell (p:=⟨w5,0,none⟩) (by simp)).trans (by simp[go_sem]);have x1:w6.cell? ⟨w5,1,none⟩=some (.int .i64 (tkC R wd i c 1).l):=(hb6.cell (p:=⟨w5,1,none⟩) (by simp)).trans (by simp[go_sem]);have x2:w6.cell? ⟨w5,2,none⟩=some (.int .i64 (tkC R wd i c 1).ch):=(hb6.cell (p:=⟨w5,2,none⟩) (by simp)).trans (by simp[go_sem]);have x3:w6.cell? ⟨w5,3,none⟩=some (.int .i64 (tkC R wd i c 1).np):=(hb6.cell (p:=⟨w5,3,none⟩) (by simp)).trans (by simp[go_sem]);have x4:w6.cell? ⟨w5,4,none⟩=some (.int .i64 (tkC R wd i c 1).nc):=(hb6.cell (p:=⟨w5,4,none⟩) (by simp)).trans (by simp[go_sem]);clear z0 z1 z2 z3 z4 s0 s1 s2 s3 s4 v0 v1 hb6 hCB6;go_wp2;refine bodyPost_ret (v:=.agg #[.int .i64 (tkC R wd i c 1).o,.int .i64 (tkC R wd i c 1).l,.int .i64 (tkC R wd i c 1).ch,.int .i64 (tkC R wd i c 1).np,.int .i64 (tkC R wd i c 1).nc]) (by simp[results,Tryz.results110,go_sem,r0,r1,r2,r3,r4]) rfl ⟨rfl,k5m HB6.o (by omega) _ _ _ _ _,S2,HI6.o.set5 (by omega) (by omega) (by omega) _ _ _ _ _,fun a b hab=>HR5.o.2.1 a b (HR.o.2.1 a b hab),fun a b hab=>?_,fun h=>HR5.o.2.2.2 h⟩;rcases HR5.o.2.2.1 a b hab with h|h
   ·exact HR.o.2.2.1 a b h
   ·exact .inr h
end Go.Proofs.YthcpdohdppkmkaaGreatDoor
