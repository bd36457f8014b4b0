/- Texts as one: Pn2, Sk4, Sk5. -/
import Derived.Test.YthjapabokcajhaaGreatDoorPf20
import Derived.Test.YthjapabokcajhaaGreatDoorPf18
namespace Go.Proofs.YthjapabokcajhaaGreatDoor
open Go Go.RowKit
set_option maxRecDepth 100000
set_option maxHeartbeats 4000000
theorem k9f(bp g n i:Nat)(F:Nat->Q)(w:World)(hi:i<n)(c0:w.cell? ⟨bp,0,none⟩=some (.slice (some ⟨g,0,none⟩) n n))(hp:PwR w g n F)
  (h6:((F i).op==6)=false) (h9:((F i).op==9)=false) (h7:((F i).op==7)=false) (h8:((F i).op==8)=false):
  Calls Tryz.prog 161 #[.pointer (some ⟨bp,0,none⟩),.int .i64 i] w fun e w'=>e=.returned (.tuple #[])/\PwR w' g n F/\q0j w.heap.size g w w':=by
 obtain⟨d0,d1,d2,d3,d4,d5,d6⟩:=hp.get i hi;have hiI:(i:Int)<n:=by omega
 have hp0:(0:Int)<=(i:Int):=by omega
 have HP:Hid (PwR w g n F):=hp;clear hp hi;generalize F i=q at *;go_in;go_wp2
 go_end0
 have hb:Below w.heap.size w (w.alloc (.cells #[.int .i64 q.op,.string q.tx,.int .i64 q.n,.int .i64 q.en,.int .i64 q.nx,.int .i64 q.dp,.int .i64 q.lg] 222)):=(Below.refl _ _).alloc (Nat.le_refl _) _;exact⟨rfl,HP.out.kept (hb.block g HP.out.row.lt),q0j.of hb⟩
abbrev q2r(q:Q):Obj:=.cells #[.int .i64 q.op,.string q.tx,.int .i64 q.n,.int .i64 q.en,.int .i64 q.nx,.int .i64 q.dp,.int .i64 q.lg] 222
theorem j5a(bp g n i:Nat)(F:Nat->Q)(w:World)(hn:n<=400)(hi1:i+1<n)(c0:w.cell? ⟨bp,0,none⟩=some (.slice (some ⟨g,0,none⟩) n n))(hp:PwR w g n F)
  (hop:(F i).op=7\/(F i).op=8) (x:Int) (hx:IntKind.i64.wrap ((F i).dp+(F i).n)=x):
  Calls Tryz.prog 161 #[.pointer (some ⟨bp,0,none⟩),.int .i64 i] w fun e w'=>e=.returned (.tuple #[])/\PwR w' g n (upd F (i+1) {F (i+1)with nx:=(F i).nx,dp:=x})/\q0j w.heap.size g w w':=by
 obtain⟨d0,d1,d2,d3,d4,d5,d6⟩:=hp.get i (by omega);have hiI:(i:Int)<n:=by omega
 have hp0:(0:Int)<=(i:Int):=by omega
 have hw1:=z0d hn hiI;have HP:Hid (PwR w g n F):=hp;have HC:Hid (w.cell? ⟨bp,0,none⟩=some (.slice (some ⟨g,0,none⟩) n n)):=c0;have HF:Hid (∃q,F i=q):=⟨_,rfl⟩;clear hp;generalize F i=q at *;have hlt:g<w.heap.size:=HP.out.row.lt;rcases hop with e|e
 all_goals
  rw[e]at d0;go_in;go_wp2_with fail;refine(q6o bp g n (i+1) q.nx x F _ hi1 (ka HC.out _) (HP.out.kept (Below.heap_alloc _ _ _ hlt))).mono ?_;rintro e w2⟨rfl,h2,hb2⟩;go_wp2
  go_end0
  exact⟨rfl,h2,(q0j.of ((Below.refl _ w).alloc (Nat.le_refl _) _)).trans (hb2.mono (by simp))⟩
theorem j5b(bp g n i j:Nat)(F:Nat->Q)(w:World)(hn:n<=400)(hi1:i+1<n)(hj:j<n)(hbg:bp≠g)(c0:w.cell? ⟨bp,0,none⟩=some (.slice (some ⟨g,0,none⟩) n n))(hp:PwR w g n F)
  (hop:(F i).op=6) (hen:(F (i+1)).en=(j:Int)):
  Calls Tryz.prog 161 #[.pointer (some ⟨bp,0,none⟩),.int .i64 i] w fun e w'=>e=.returned (.tuple #[])/\PwR w' g n (upd (upd F (i+1) {F (i+1)with nx:=j,dp:=(F i).dp}) j {upd F (i+1) {F (i+1)with nx:=j,dp:=(F i).dp} j with nx:=(F i).nx,dp:=(F i).dp})/\q0j w.heap.size g w w':=by
 obtain⟨d0,d1,d2,d3,d4,d5,d6⟩:=hp.get i (by omega);have k3:=(hp.get (i+1) hi1).c3;rw[hen]at k3;have hiI:(i:Int)<n:=by omega
 have hi1I:(i:Int)+1<n:=by omega
 have hp0:(0:Int)<=(i:Int):=by omega
 have hp1:(0:Int)<=(i:Int)+1:=by omega
 have htn:((i:Int)+1).toNat=i+1:=by omega
 have hw1:=z0d hn hiI;have HP:Hid (PwR w g n F):=hp;have hlt:g<w.heap.size:=HP.out.row.lt;have hltb:bp<w.heap.size:=World.block_lt_of_cell? w ⟨bp,0,none⟩ c0;have HC:Hid (w.cell? ⟨bp,0,none⟩=some (.slice (some ⟨g,0,none⟩) n n)):=c0;have k3':∀O,(w.alloc O).cell? ⟨g,(i+1)*7+3,none⟩=some (.int .i64 (j:Int)):=fun O=>ka k3 O
 have c0':∀O,(w.alloc O).cell? ⟨bp,0,none⟩=some (.slice (some ⟨g,0,none⟩) n n):=fun O=>ka c0 O
 rw[hop]at d0;have HE:Hid ((F (i+1)).en=(j:Int)):=hen;clear hp hen k3 hop;generalize F i=q at *;go_in;go_wp2_with fail;refine(q6o bp g n (i+1) j q.dp F _ hi1 (c0' _) (HP.out.kept (Below.heap_alloc _ _ _ hlt))).mono ?_;rintro e w2⟨rfl,h2,hb2⟩;have b4:w2.cell? ⟨w.heap.size,4,none⟩=some (.int .i64 q.nx):=(hb2.cell (p:=⟨w.heap.size,4,none⟩) (by simp) (by simp;omega)).trans (by simp[go_sem]);have b5:w2.cell? ⟨w.heap.size,5,none⟩=some (.int .i64 q.dp):=(hb2.cell (p:=⟨w.heap.size,5,none⟩) (by simp) (by simp;omega)).trans (by simp[go_sem]);have c2:w2.cell? ⟨bp,0,none⟩=some (.slice (some ⟨g,0,none⟩) n n):=(hb2.cell (p:=⟨bp,0,none⟩) (by simp;omega) hbg).trans (c0' _);have HP2:Hid (PwR w2 g n (upd F (i+1) {F (i+1)with nx:=j,dp:=q.dp})):=h2;have HB2:Hid (q0j w.heap.size g w w2):=(q0j.of ((Below.refl _ w).alloc (Nat.le_refl _) _)).trans (hb2.mono (by simp));clear h2 hb2;go_wp2_with fail;refine(q6o bp g n j q.nx q.dp _ _ hj c2 HP2.out).mono ?_;rintro e w3⟨rfl,h3,hb3⟩;go_wp2
 go_end0
 exact⟨rfl,h3,HB2.out.trans (hb3.mono HB2.out.size)⟩
theorem k9g(bp g n i j:Nat)(F:Nat->Q)(w:World)(hn:n<=400)(hi1:i+1<n)(hj:j<n)(hbg:bp≠g)(c0:w.cell? ⟨bp,0,none⟩=some (.slice (some ⟨g,0,none⟩) n n))(hp:PwR w g n F)
  (hop:(F i).op=9) (hen:(F (i+1)).en=(j:Int)):
  Calls Tryz.prog 161 #[.pointer (some ⟨bp,0,none⟩),.int .i64 i] w fun e w'=>e=.returned (.tuple #[])/\PwR w' g n (upd (upd F (i+1) {F (i+1)with nx:=(F i).nx,dp:=(F i).dp}) j {upd F (i+1) {F (i+1)with nx:=(F i).nx,dp:=(F i).dp} j with nx:=(F i).nx,dp:=(F i).dp})/\q0j w.heap.size g w w':=by
 obtain⟨d0,d1,d2,d3,d4,d5,d6⟩:=hp.get i (by omega);have hiI:(i:Int)<n:=by omega
 have hi1I:(i:Int)+1<n:=by omega
 have hp0:(0:Int)<=(i:Int):=by omega
 have hp1:(0:Int)<=(i:Int)+1:=by omega
 have htn:((i:Int)+1).toNat=i+1:=by omega
 have hw1:=z0d hn hiI;have HP:Hid (PwR w g n F):=hp;have hlt:g<w.heap.size:=HP.out.row.lt;have hltb:bp<w.heap.size:=World.block_lt_of_cell? w ⟨bp,0,none⟩ c0;have c0':∀O,(w.alloc O).cell? ⟨bp,0,none⟩=some (.slice (some ⟨g,0,none⟩) n n):=fun O=>ka c0 O
 rw[hop]at d0;have HE:Hid ((F (i+1)).en=(j:Int)):=hen;clear hp hen hop;generalize F i=q at *;go_in;go_wp2_with fail;refine(q6o bp g n (i+1) q.nx q.dp F _ hi1 (c0' _) (HP.out.kept (Below.heap_alloc _ _ _ hlt))).mono ?_;rintro e w2⟨rfl,h2,hb2⟩;have b4:w2.cell? ⟨w.heap.size,4,none⟩=some (.int .i64 q.nx):=(hb2.cell (p:=⟨w.heap.size,4,none⟩) (by simp) (by simp;omega)).trans (by simp[go_sem]);have b5:w2.cell? ⟨w.heap.size,5,none⟩=some (.int .i64 q.dp):=(hb2.cell (p:=⟨w.heap.size,5,none⟩) (by simp) (by simp;omega)).trans (by simp[go_sem]);have c2:w2.cell? ⟨bp,0,none⟩=some (.slice (some ⟨g,0,none⟩) n n):=(hb2.cell (p:=⟨bp,0,none⟩) (by simp;omega) hbg).trans (c0' _)
 have k3:w2.cell? ⟨g,(i+1)*7+3,none⟩=some (.int .i64 (j:Int)):=by
  have:=(h2.get (i+1) hi1).c3
  rw[q0k]at this;rw[<-HE.out];exact this
 have HP2:Hid (PwR w2 g n (upd F (i+1) {F (i+1)with nx:=q.nx,dp:=q.dp})):=h2;have HB2:Hid (q0j w.heap.size g w w2):=(q0j.of ((Below.refl _ w).alloc (Nat.le_refl _) _)).trans (hb2.mono (by simp));have hs2:w.heap.size<w2.heap.size:=by have:=hb2.size;simp at this;omega
 have hKb:∀w3,q0j w2.drew.heap.size g w2.drew w3->w3.cell? ⟨bp,0,none⟩=some (.slice (some ⟨g,0,none⟩) n n):=fun w3 h=>(h.cell (p:=⟨bp,0,none⟩) (by simp;omega) hbg).trans c2
 have hK4:∀w3,q0j w2.drew.heap.size g w2.drew w3->w3.cell? ⟨w.heap.size,4,none⟩=some (.int .i64 q.nx):=fun w3 h=>(h.cell (p:=⟨w.heap.size,4,none⟩) hs2 (by simp;omega)).trans b4
 have hK5:∀w3,q0j w2.drew.heap.size g w2.drew w3->w3.cell? ⟨w.heap.size,5,none⟩=some (.int .i64 q.dp):=fun w3 h=>(h.cell (p:=⟨w.heap.size,5,none⟩) hs2 (by simp;omega)).trans b5
 have hK3:∀w3,PwR w3 g n (upd (upd F (i+1) {F (i+1)with nx:=q.nx,dp:=q.dp}) j {upd F (i+1) {F (i+1)with nx:=q.nx,dp:=q.dp} j with nx:=q.nx,dp:=q.dp})->w3.cell? ⟨g,(i+1)*7+3,none⟩=some (.int .i64 (j:Int)):=fun w3 h=>by
  have:=(h.get (i+1) hi1).c3
  rw[<-HE.out];by_cases e:i+1=j
  ·subst e;rw[q0k,q0k]at this;exact this
  ·rw[q0x e,q0k]at this;exact this
 clear h2 hb2;go_wp2_with fail
 go_region_held3 (fun w'=>w'.cell? ⟨bp,0,none⟩=some (.slice (some ⟨g,0,none⟩) n n)/\w'.cell? ⟨g,(i+1)*7+3,none⟩=some (.int .i64 (j:Int))/\w'.cell? ⟨w.heap.size,4,none⟩=some (.int .i64 q.nx)/\w'.cell? ⟨w.heap.size,5,none⟩=some (.int .i64 q.dp))
  (first|exact⟨c2,k3,b4,b5⟩|exact⟨hKb _ hb3,hK3 _ h3,hK4 _ hb3,hK5 _ hb3⟩) ((go_at_call 193;refine(q6o bp g n j q.nx q.dp _ w2.drew hj c2 (HP2.out.kept rfl)).mono ?_;rintro e w3⟨rfl,h3,hb3⟩))
 all_goals
  go_wp2
  go_end0
  exact⟨rfl,h3,HB2.out.drew.trans (hb3.mono HB2.out.size)⟩
end Go.Proofs.YthjapabokcajhaaGreatDoor
namespace Go.Proofs.YthjapabokcajhaaGreatDoor
open Go Go.RowKit
structure ChB(w wx:World)(i c:Nat)(q:Q):Prop where
 a0:wx.cell? ⟨w.heap.size,0,none⟩=some (.int .i64 i)
 a1:wx.cell? ⟨w.heap.size,1,none⟩=some (.int .i64 c)
 r0:wx.cell? ⟨w.heap.size+1,0,none⟩=some (.int .i64 0)
 r1:wx.cell? ⟨w.heap.size+1,1,none⟩=some (.int .i64 0)
 r2:wx.cell? ⟨w.heap.size+1,2,none⟩=some (.int .i64 0)
 r3:wx.cell? ⟨w.heap.size+1,3,none⟩=some (.int .i64 0)
 r4:wx.cell? ⟨w.heap.size+1,4,none⟩=some (.int .i64 0)
 fr:q8w wx (w.heap.size+1)
 q0:wx.cell? ⟨w.heap.size+1+1,0,none⟩=some (.int .i64 q.op)
 q1:wx.cell? ⟨w.heap.size+1+1,1,none⟩=some (.string q.tx)
 q2:wx.cell? ⟨w.heap.size+1+1,2,none⟩=some (.int .i64 q.n)
 q3:wx.cell? ⟨w.heap.size+1+1,3,none⟩=some (.int .i64 q.en)
 q4:wx.cell? ⟨w.heap.size+1+1,4,none⟩=some (.int .i64 q.nx)
 q5:wx.cell? ⟨w.heap.size+1+1,5,none⟩=some (.int .i64 q.dp)
 q6:wx.cell? ⟨w.heap.size+1+1,6,none⟩=some (.int .i64 q.lg)
 lt:w.heap.size+1+1<wx.heap.size
theorem ChB.kept{w wx wy:World}{i c mb:Nat}{q:Q}(h:ChB w wx i c q)(hb:q0j wx.heap.size mb wx wy)(hm:mb<w.heap.size):ChB w wy i c q:=by
 have hc:∀b o v,b≠mb->wx.cell? ⟨b,o,none⟩=some v->wy.cell? ⟨b,o,none⟩=some v:=fun b o v he hv=>(hb.cell (p:=⟨b,o,none⟩) (World.block_lt_of_cell? wx ⟨b,o,none⟩ hv) he).trans hv
 exact⟨hc _ _ _ (by omega) h.a0,hc _ _ _ (by omega) h.a1,hc _ _ _ (by omega) h.r0,hc _ _ _ (by omega) h.r1,hc _ _ _ (by omega) h.r2,hc _ _ _ (by omega) h.r3,hc _ _ _ (by omega) h.r4,h.fr.kept (hb.block _ h.fr.lt (by omega)),
  hc _ _ _ (by omega) h.q0,hc _ _ _ (by omega) h.q1,hc _ _ _ (by omega) h.q2,hc _ _ _ (by omega) h.q3,hc _ _ _ (by omega) h.q4,hc _ _ _ (by omega) h.q5,hc _ _ _ (by omega) h.q6,Nat.lt_of_lt_of_le h.lt hb.size⟩
theorem z7w{sb g mb wd i c:Nat}{R:List Pl}{S:Nat->Nat->Bool}{w w1:World}(h:Sk1 sb g mb wd i c R S w w1)(q:Q):ChB w (w1.alloc (q2r q)).drew i c q:=by
 have n1:=heap_alloc_new w1 (q2r q);rw[h.sz]at n1;have hc:∀o v,(w1.alloc (q2r q)).cell? ⟨w.heap.size+1+1,o,none⟩=v->(w1.alloc (q2r q)).drew.cell? ⟨w.heap.size+1+1,o,none⟩=v:=fun _ _ h=>h
 refine⟨ka h.a0 _,ka h.a1 _,ka h.r0 _,ka h.r1 _,ka h.r2 _,ka h.r3 _,ka h.r4 _,h.fr.kept (Below.heap_alloc _ _ _ h.fr.lt),hc _ _ ?_,hc _ _ ?_,hc _ _ ?_,hc _ _ ?_,hc _ _ ?_,hc _ _ ?_,hc _ _ ?_,?_⟩
 ·simp[World.cell?,n1,q2r]
 ·simp[World.cell?,n1,q2r]
 ·simp[World.cell?,n1,q2r]
 ·simp[World.cell?,n1,q2r]
 ·simp[World.cell?,n1,q2r]
 ·simp[World.cell?,n1,q2r]
 ·simp[World.cell?,n1,q2r]
 ·show w.heap.size+1+1<(w1.alloc (q2r q)).heap.size;simp[h.sz]
end Go.Proofs.YthjapabokcajhaaGreatDoor
namespace Go.Proofs.YthjapabokcajhaaGreatDoor
open Go Go.RowKit
set_option maxRecDepth 100000
set_option maxHeartbeats 4000000
theorem z6a{R:List Pl}{L M i nx dp wd c:Nat}{ks:List (Nat × Tr)}{t:Tr}(sb g mb:Nat)(hsp:Sp R L M i t nx dp ks)(hlg:(q2 (q0y R i)).lg=-1)(hT:q6m sb g mb wd R i c 1)(w:World)(S:Nat->Nat->Bool)(h:Inv sb g mb wd R w S):
  Calls Tryz.prog 163 #[.pointer (some ⟨sb,0,none⟩),.agg #[.int .i64 i,.int .i64 c]] w fun e w'=>e=.returned (cvV (tkC R wd i c 1))/\Left sb g mb wd R S (i+1) (tkC R wd i c 1).np (tkC R wd i c 1).nc w w':=by
 have H:Hid (Inv sb g mb wd R w S):=h;have hlt:=h.lt;have hi:i<R.length:=hsp.lt;have hiI:(i:Int)<(R.length:Int):=by omega
 have hp0:(0:Int)<=(i:Int):=by omega
 have HQ:Hid (∀W,q3e W sb g wd R->q8k W g i (q2 (q0y R i))):=fun W hW=>hW.pr.get i hi
 have HT:Hid (q6m sb g mb wd R i c 1):=hT;have HLG:Hid ((q2 (q0y R i)).lg=-1):=hlg;clear hT hlg;rw[cvV];clear h hsp;generalize q2 (q0y R i)=q at *;go_in;go_wp2_with fail;have hsk:Sk1 sb g mb wd i c R S w ((w.alloc (.cells #[.int .i64 i,.int .i64 c] 172)).alloc (.cells #[.int .i64 0,.int .i64 0,.int .i64 0,.int .i64 0,.int .i64 0] 174)):=q9u (nq:=0) H.out
 generalize(w.alloc (.cells #[.int .i64 i,.int .i64 c] 172)).alloc (.cells #[.int .i64 0,.int .i64 0,.int .i64 0,.int .i64 0,.int .i64 0] 174)=w1 at *
 have HK:Hid (Sk1 sb g mb wd i c R S w w1):=hsk;have hs1:=hsk.sz
 have hS0:∀W:World,W=w1.drew\/(∃O,W=(w1.alloc O).drew)->W.cell? ⟨sb,0,none⟩=some (.slice (some ⟨g,0,none⟩) R.length R.length)/\W.cell? ⟨w.heap.size,0,none⟩=some (.int .i64 i)/\W.cell? ⟨g,i*7,none⟩=some (.int .i64 q.op)/\W.cell? ⟨g,i*7+1,none⟩=some (.string q.tx)/\W.cell? ⟨g,i*7+2,none⟩=some (.int .i64 q.n)/\W.cell? ⟨g,i*7+3,none⟩=some (.int .i64 q.en)/\W.cell? ⟨g,i*7+4,none⟩=some (.int .i64 q.nx)/\W.cell? ⟨g,i*7+5,none⟩=some (.int .i64 q.dp)/\W.cell? ⟨g,i*7+6,none⟩=some (.int .i64 q.lg):=by
  intro W hW
  have hPA:q3e W sb g wd R/\W.cell? ⟨w.heap.size,0,none⟩=some (.int .i64 i):=by
   rcases hW with rfl|⟨O,rfl⟩
   ·exact⟨HK.out.inv.pl.kept rfl rfl,HK.out.a0⟩
   ·exact⟨(HK.out.inv.pl.alloc O).kept rfl rfl,ka HK.out.a0 O⟩
  obtain⟨d0,d1,d2,d3,d4,d5,d6⟩:=HQ.out W hPA.1;exact⟨hPA.1.c0,hPA.2,d0,d1,d2,d3,d4,d5,d6⟩
 have hSa:=hS0 w1.drew (.inl rfl);have hSb:=fun O=>hS0 (w1.alloc O).drew (.inr ⟨O,rfl⟩)
 have HCB:Hid (ChB w (w1.alloc (q2r q)).drew i c q):=z7w HK.out q;have HI1:Hid (Inv sb g mb wd R (w1.alloc (q2r q)).drew S):=(HK.out.inv.alloc _).kept fun _ _=>rfl
 have HB1:Hid (q0j w.heap.size mb w (w1.alloc (q2r q)).drew):=(q0j.of (HK.out.bw.alloc HK.out.bw.size _)).drew;clear hsk hS0
 go_region_held3 (fun w'=>w'.cell? ⟨sb,0,none⟩=some (.slice (some ⟨g,0,none⟩) R.length R.length)/\w'.cell? ⟨w.heap.size,0,none⟩=some (.int .i64 i)/\w'.cell? ⟨g,i*7,none⟩=some (.int .i64 q.op)/\w'.cell? ⟨g,i*7+1,none⟩=some (.string q.tx)/\w'.cell? ⟨g,i*7+2,none⟩=some (.int .i64 q.n)/\w'.cell? ⟨g,i*7+3,none⟩=some (.int .i64 q.en)/\w'.cell? ⟨g,i*7+4,none⟩=some (.int .i64 q.nx)/\w'.cell? ⟨g,i*7+5,none⟩=some (.int .i64 q.dp)/\w'.cell? ⟨g,i*7+6,none⟩=some (.int .i64 q.lg))
  (first|with_reducible exact hSa|with_reducible exact hSb _) (fail)
 all_goals
  generalize(w1.alloc (.cells #[.int .i64 q.op,.string q.tx,.int .i64 q.n,.int .i64 q.en,.int .i64 q.nx,.int .i64 q.dp,.int .i64 q.lg] 222)).drew=w2 at *
  have a0:=HCB.out.a0;have a1:=HCB.out.a1;have q6:=HCB.out.q6;clear hSa hSb hs1;rw[HLG.out]at q6;go_wp2_with fail;refine(HT.out w2 S HI1.out).mono ?_;rintro e w3⟨rfl,hbx,S',hI,hmo,hlo,hin⟩;rw[cvV];have hCB:=HCB.out.kept hbx hlt.2.2;have r0:=hCB.r0;have r1:=hCB.r1;have r2:=hCB.r2;have r3:=hCB.r3;have r4:=hCB.r4;have y0:w3.frozen? ⟨w.heap.size+1,0,none⟩=false:=hCB.fr.frozen;have y1:w3.frozen? ⟨w.heap.size+1,1,none⟩=false:=hCB.fr.frozen;have y2:w3.frozen? ⟨w.heap.size+1,2,none⟩=false:=hCB.fr.frozen;have y3:w3.frozen? ⟨w.heap.size+1,3,none⟩=false:=hCB.fr.frozen;have y4:w3.frozen? ⟨w.heap.size+1,4,none⟩=false:=hCB.fr.frozen;have HBX:Hid (q0j w.heap.size mb w w3):=HB1.out.trans (hbx.mono HB1.out.size);have HR:Hid (Inv sb g mb wd R w3 S'/\(∀a b,S a b=true->S' a b=true)/\(∀a b,S' a b=true->S a b=true\/i+1<=a)/\((q2c R wd i c 1).np<R.length->S' (q2c R wd i c 1).np (q2c R wd i c 1).nc=true)):=⟨hI,hmo,hlo,hin⟩;clear hbx hI hmo hlo hin hCB a0 a1 q6;go_wp2;exact bodyPost_ret (v:=.agg #[.int .i64 (tkC R wd i c 1).o,.int .i64 (tkC R wd i c 1).l,.int .i64 (tkC R wd i c 1).ch,.int .i64 (tkC R wd i c 1).np,.int .i64 (tkC R wd i c 1).nc]) (by simp[results,Tryz.results163,go_sem,r0,r1,r2,r3,r4]) rfl ⟨rfl,z5w HBX.out (by omega) _ _ _ _ _,S',HR.out.1.set5 (by omega) (by omega) (by omega) _ _ _ _ _,HR.out.2.1,HR.out.2.2.1,HR.out.2.2.2⟩
theorem z3w{R:List Pl}{L M i nx dp wd c:Nat}{ks:List (Nat × Tr)}{t:Tr}(sb g mb:Nat)(hsp:Sp R L M i t nx dp ks)(hlg:((q2 (q0y R i)).lg==-1)=false)(hch:q7m (q2 (q0y R i)).op=false)(hT0:q6m sb g mb wd R i c 0)(w:World)(S:Nat->Nat->Bool)(h:Inv sb g mb wd R w S):
  Calls Tryz.prog 163 #[.pointer (some ⟨sb,0,none⟩),.agg #[.int .i64 i,.int .i64 c]] w fun e w'=>e=.returned (cvV (tkC R wd i c 0))/\Left sb g mb wd R S (i+1) (tkC R wd i c 0).np (tkC R wd i c 0).nc w w':=by
 have H:Hid (Inv sb g mb wd R w S):=h;have hlt:=h.lt;have hi:i<R.length:=hsp.lt;have hiI:(i:Int)<(R.length:Int):=by omega
 have hp0:(0:Int)<=(i:Int):=by omega
 have HQ:Hid (∀W,q3e W sb g wd R->q8k W g i (q2 (q0y R i))):=fun W hW=>hW.pr.get i hi
 have HT0:Hid (q6m sb g mb wd R i c 0):=hT0;clear hT0;rw[cvV];clear h hsp;generalize q2 (q0y R i)=q at *;go_in;go_wp2_with fail;have hsk:Sk1 sb g mb wd i c R S w ((w.alloc (.cells #[.int .i64 i,.int .i64 c] 172)).alloc (.cells #[.int .i64 0,.int .i64 0,.int .i64 0,.int .i64 0,.int .i64 0] 174)):=q9u (nq:=0) H.out
 generalize(w.alloc (.cells #[.int .i64 i,.int .i64 c] 172)).alloc (.cells #[.int .i64 0,.int .i64 0,.int .i64 0,.int .i64 0,.int .i64 0] 174)=w1 at *
 have HK:Hid (Sk1 sb g mb wd i c R S w w1):=hsk;have hs1:=hsk.sz
 have hS0:∀W:World,W=w1.drew\/(∃O,W=(w1.alloc O).drew)->W.cell? ⟨sb,0,none⟩=some (.slice (some ⟨g,0,none⟩) R.length R.length)/\W.cell? ⟨w.heap.size,0,none⟩=some (.int .i64 i)/\W.cell? ⟨g,i*7,none⟩=some (.int .i64 q.op)/\W.cell? ⟨g,i*7+1,none⟩=some (.string q.tx)/\W.cell? ⟨g,i*7+2,none⟩=some (.int .i64 q.n)/\W.cell? ⟨g,i*7+3,none⟩=some (.int .i64 q.en)/\W.cell? ⟨g,i*7+4,none⟩=some (.int .i64 q.nx)/\W.cell? ⟨g,i*7+5,none⟩=some (.int .i64 q.dp)/\W.cell? ⟨g,i*7+6,none⟩=some (.int .i64 q.lg):=by
  intro W hW
  have hPA:q3e W sb g wd R/\W.cell? ⟨w.heap.size,0,none⟩=some (.int .i64 i):=by
   rcases hW with rfl|⟨O,rfl⟩
   ·exact⟨HK.out.inv.pl.kept rfl rfl,HK.out.a0⟩
   ·exact⟨(HK.out.inv.pl.alloc O).kept rfl rfl,ka HK.out.a0 O⟩
  obtain⟨d0,d1,d2,d3,d4,d5,d6⟩:=HQ.out W hPA.1;exact⟨hPA.1.c0,hPA.2,d0,d1,d2,d3,d4,d5,d6⟩
 have hSa:=hS0 w1.drew (.inl rfl);have hSb:=fun O=>hS0 (w1.alloc O).drew (.inr ⟨O,rfl⟩)
 have HCB:Hid (ChB w (w1.alloc (q2r q)).drew i c q):=z7w HK.out q;have HI1:Hid (Inv sb g mb wd R (w1.alloc (q2r q)).drew S):=(HK.out.inv.alloc _).kept fun _ _=>rfl
 have HB1:Hid (q0j w.heap.size mb w (w1.alloc (q2r q)).drew):=(q0j.of (HK.out.bw.alloc HK.out.bw.size _)).drew;clear hsk hS0
 go_region_held3 (fun w'=>w'.cell? ⟨sb,0,none⟩=some (.slice (some ⟨g,0,none⟩) R.length R.length)/\w'.cell? ⟨w.heap.size,0,none⟩=some (.int .i64 i)/\w'.cell? ⟨g,i*7,none⟩=some (.int .i64 q.op)/\w'.cell? ⟨g,i*7+1,none⟩=some (.string q.tx)/\w'.cell? ⟨g,i*7+2,none⟩=some (.int .i64 q.n)/\w'.cell? ⟨g,i*7+3,none⟩=some (.int .i64 q.en)/\w'.cell? ⟨g,i*7+4,none⟩=some (.int .i64 q.nx)/\w'.cell? ⟨g,i*7+5,none⟩=some (.int .i64 q.dp)/\w'.cell? ⟨g,i*7+6,none⟩=some (.int .i64 q.lg))
  (first|with_reducible exact hSa|with_reducible exact hSb _) (fail)
 all_goals
  generalize(w1.alloc (.cells #[.int .i64 q.op,.string q.tx,.int .i64 q.n,.int .i64 q.en,.int .i64 q.nx,.int .i64 q.dp,.int .i64 q.lg] 222)).drew=w2 at *
  have a0:=HCB.out.a0;have a1:=HCB.out.a1;have q6:=HCB.out.q6;clear hSa hSb hs1;go_wp2_with fail;refine(HT0.out w2 S HI1.out).mono ?_;rintro e w3⟨rfl,hbx,S',hI,hmo,hlo,hin⟩;rw[cvV];have hCB:=HCB.out.kept hbx hlt.2.2;have HBX:Hid (q0j w.heap.size mb w w3):=HB1.out.trans (hbx.mono HB1.out.size);have HR:Hid (Inv sb g mb wd R w3 S'/\(∀a b,S a b=true->S' a b=true)/\(∀a b,S' a b=true->S a b=true\/i+1<=a)/\((tkC R wd i c 0).np<R.length->S' (tkC R wd i c 0).np (tkC R wd i c 0).nc=true)):=⟨hI,hmo,hlo,hin⟩;have u0:=fun O=>ka hCB.q0 O
  have u1:=fun O=>ka hCB.q1 O
  have u2:=fun O=>ka hCB.q2 O
  have u3:=fun O=>ka hCB.q3 O
  have u4:=fun O=>ka hCB.q4 O
  have u5:=fun O=>ka hCB.q5 O
  have u6:=fun O=>ka hCB.q6 O
  have HCB3:Hid (ChB w w3 i c q):=hCB;clear hbx hI hmo hlo hin hCB a0 a1 q6;go_wp2_with fail;refine(q4s q.op q.tx q.n q.en q.nx q.dp q.lg _).mono ?_;rintro e w4⟨rfl,hb4⟩;rw[hch];have hwk:w3.heap.size<w4.heap.size:=by have:=hb4.size;simp at this;omega
  have HCB4:Hid (ChB w w4 i c q):=(HCB3.out.kept (mb:=mb) (q0j.of ((Below.refl _ w3).alloc (Nat.le_refl _) _)) hlt.2.2).kept (q0j.of hb4) hlt.2.2;have HI4:Hid (Inv sb g mb wd R w4 S'):=(HR.out.1.alloc _).below hb4;have HB4:Hid (q0j w.heap.size mb w w4):=(HBX.out.alloc (by have:=HBX.out.size;omega) _).trans (q0j.of (hb4.mono (by have:=HBX.out.size;simp;omega)));have s0:w4.cell? ⟨w3.heap.size,0,none⟩=some (.int .i64 (tkC R wd i c 0).o):=(hb4.cell (p:=⟨w3.heap.size,0,none⟩) (by simp)).trans (by simp[go_sem]);have s1:w4.cell? ⟨w3.heap.size,1,none⟩=some (.int .i64 (tkC R wd i c 0).l):=(hb4.cell (p:=⟨w3.heap.size,1,none⟩) (by simp)).trans (by simp[go_sem]);have s2:w4.cell? ⟨w3.heap.size,2,none⟩=some (.int .i64 (tkC R wd i c 0).ch):=(hb4.cell (p:=⟨w3.heap.size,2,none⟩) (by simp)).trans (by simp[go_sem]);have s3:w4.cell? ⟨w3.heap.size,3,none⟩=some (.int .i64 (tkC R wd i c 0).np):=(hb4.cell (p:=⟨w3.heap.size,3,none⟩) (by simp)).trans (by simp[go_sem]);have s4:w4.cell? ⟨w3.heap.size,4,none⟩=some (.int .i64 (tkC R wd i c 0).nc):=(hb4.cell (p:=⟨w3.heap.size,4,none⟩) (by simp)).trans (by simp[go_sem]);have r0:=HCB4.out.r0;have r1:=HCB4.out.r1;have r2:=HCB4.out.r2;have r3:=HCB4.out.r3;have r4:=HCB4.out.r4;have y0:w4.frozen? ⟨w.heap.size+1,0,none⟩=false:=HCB4.out.fr.frozen;have y1:w4.frozen? ⟨w.heap.size+1,1,none⟩=false:=HCB4.out.fr.frozen;have y2:w4.frozen? ⟨w.heap.size+1,2,none⟩=false:=HCB4.out.fr.frozen;have y3:w4.frozen? ⟨w.heap.size+1,3,none⟩=false:=HCB4.out.fr.frozen;have y4:w4.frozen? ⟨w.heap.size+1,4,none⟩=false:=HCB4.out.fr.frozen;clear u0 u1 u2 u3 u4 u5 u6 hb4;go_wp2;exact bodyPost_ret (v:=.agg #[.int .i64 (tkC R wd i c 0).o,.int .i64 (tkC R wd i c 0).l,.int .i64 (tkC R wd i c 0).ch,.int .i64 (tkC R wd i c 0).np,.int .i64 (tkC R wd i c 0).nc]) (by simp[results,Tryz.results163,go_sem,r0,r1,r2,r3,r4]) rfl ⟨rfl,z5w HB4.out (by omega) _ _ _ _ _,S',HI4.out.set5 (by omega) (by omega) (by omega) _ _ _ _ _,HR.out.2.1,HR.out.2.2.1,HR.out.2.2.2⟩
end Go.Proofs.YthjapabokcajhaaGreatDoor
