/- Texts as one: DocC, FlatF, FlatG, Pn1, Pn2, Sk4. -/
import Derived.Test.YtchdplceopegoaaGreatDoorPs21
namespace Go.Proofs.YtchdplceopegoaaGreatDoor
open Go Go.RowKit
set_option maxRecDepth 100000
set_option maxHeartbeats 2000000
theorem q2j (ds:List Nd) (a:Option Addr) (cap:Nat) (w:World) (hN:q2y w a ds) :
  Calls Tryz.prog 124 #[.slice a ds.length cap] w fun e w'=>e = .returned (q1f (q2n ds))∧Below w.heap.size w w':=by
 have HN:Hid (q2y w a ds):=hN
 clear hN
 by_cases h4:400<(ds.length:Int)
 ·rw [j0f (by omega),k3s]
  go_enter Tryz.func124,Tryz.ntmps124
  go_wp2
  go_ret
  exact ⟨rfl,Below.refl _ _⟩
 ·have hl:ds.length≤400:=by omega
  go_enter Tryz.func124,Tryz.ntmps124
  go_wp2
  go_loopw [14] (fun i wr=>Below w.heap.size w wr∧∃ k:Nat,k≤ds.length∧i = .int .i64 k∧∀ x∈ds.take k,q0r x=0) (fun i _=>ds.length - (intOf i).toNat)
  case atStart=>exact ⟨Below.refl _ _,0,Nat.zero_le _,rfl,by simp⟩
  case round=>
   obtain ⟨hB,k,hk,rfl,hall⟩:=hrel
   have HA:Hid (∀ x∈ds.take k,q0r x=0):=hall
   have HM:Hid (q2y wr a ds):=HN.out.below hB
   clear hall
   by_cases hlt:k<ds.length
   ·obtain ⟨b,o,ea,hb,c1,c2,c3⟩:=HM.out k hlt
    subst ea
    by_cases h0:q0r ds[k]=0
    ·have H0:Hid (q0r ds[k]=0):=h0
     clear h0
     go_wp2_with fail
     refine (q8y ds[k] _).mono ?_
     rintro e w2 ⟨rfl,hb2⟩
     rw [H0.out,q0q]
     have hB2:=z1k hB (Nat.le_refl _) hb2
     clear hb2
     go_wp2
     go_roundw
     case rel=>exact ⟨hB2,k+1,by omega,by go_num,j5c hlt HA.out H0.out⟩
     case measure=>simp [intOf];omega
    ·have H0:Hid (q0r ds[k]≠0):=h0
     clear h0
     go_wp2_with fail
     refine (q8y ds[k] _).mono ?_
     rintro e w2 ⟨rfl,hb2⟩
     rw [q0h H0.out]
     have hB2:=z1k hB (Nat.le_refl _) hb2
     clear hb2
     go_wp2
     go_ret
     refine ⟨?_,hB2⟩
     rw [j0g hl hlt HA.out H0.out,q0h H0.out]
     rfl
   ·have HF:Hid (q2n ds=if q1k ds 0 1=some ds.length then 0 else 2):=j8c hl (v1g hlt HA.out)
    cases he:q1k ds 0 1 with
    | none=>
     have HE:Hid (q1k ds 0 1=none):=he
     clear he
     go_wp2_with fail
     refine (k1g a cap _ HM.out hl (Nat.zero_le _) HE.out).mono ?_
     rintro e w2 ⟨rfl,rfl⟩
     go_wp2
     go_ret
     refine ⟨?_,hB⟩
     rw [HF.out,HE.out,if_neg (by simp),z8n]
     rfl
    | some j=>
     have HE:Hid (q1k ds 0 1=some j):=he
     clear he
     by_cases hj:j=ds.length
     ·subst hj
      go_wp2_with fail
      refine (z2x a cap _ HM.out hl (Nat.zero_le _) HE.out).mono ?_
      rintro e w2 ⟨rfl,rfl⟩
      go_wp2
      go_ret
      refine ⟨?_,hB⟩
      rw [HF.out,HE.out,if_pos rfl,q0q]
      rfl
     ·have hj':((j:Int) != (ds.length:Int))=true:=by simp;omega
      go_wp2_with fail
      refine (z2x a cap _ HM.out hl (Nat.zero_le _) HE.out).mono ?_
      rintro e w2 ⟨rfl,rfl⟩
      go_wp2
      go_ret
      refine ⟨?_,hB⟩
      rw [HF.out,HE.out,if_neg (by simp [hj]),z8n]
      rfl
theorem j8n (ds:List Nd) (a:Option Addr) (cap:Nat) (w:World) (hN:q2y w a ds) (h:q2n ds≠0) :
  Calls Tryz.prog 221 #[.slice a ds.length cap] w fun e w'=>e = .returned (.tuple #[.string ⟨#[]⟩,.bool false,q1f (q2n ds)])∧Below w.heap.size w w':=by
 have HN:Hid (q2y w a ds):=hN
 have H:Hid (q2n ds≠0):=h
 rw [q0h h]
 clear hN h
 go_enter Tryz.func221,Tryz.ntmps221
 go_wp2_with fail
 refine (q2j ds a cap _ HN.out).mono ?_
 rintro e w2 ⟨rfl,hB⟩
 rw [q0h H.out]
 go_wp2
 go_ret3
 exact ⟨rfl,hB⟩
theorem j0x (ds:List Nd) (t:Tr) (hd:ds=t.nodes) (ht:t.Wf) (hl:ds.length≤400) (a:Option Addr) (cap:Nat) (hc:ds.length≤cap) (w:World) (hN:q2y w a ds) :
  Calls Tryz.prog 221 #[.slice a ds.length cap] w fun e w'=>e = .returned (.tuple #[.string t.line,.bool t.isFlat,.nilIface])∧Below w.heap.size w w':=by
 have HN:Hid (q2y w a ds):=hN
 have H:Hid (q2n ds=0):=(show q2n ds=0 by rw [hd];exact q9z ht (by rw [←hd];exact hl))
 have HD:Hid (ds=t.nodes):=hd
 have H0:Hid (ds≠[]):=(show ds≠[] by have:=t.pos;rw [←hd] at this;exact List.length_pos_iff.1 this)
 clear hN hd
 cases hk:t.brk
 case' true=>obtain ⟨q1,q2⟩:=j1t hk
 case' false=>obtain ⟨q1,q2⟩:=j1s hk
 all_goals
  rw [q1,q2]
  have HK:=(show Hid (t.brk=_) from hk)
  clear hk q1 q2
  go_enter Tryz.func221,Tryz.ntmps221
  go_wp2_with fail
  refine (q2j ds a cap _ HN.out).mono ?_
  rintro e w2 ⟨rfl,hB⟩
  rw [H.out,q0q]
  have HB:Hid (Below w.heap.size w w2):=hB
  obtain ⟨s,hs,hns⟩:=(HN.out.below hB).s H0.out
  have HM:Hid (q0v s w2 a ds):=hns
  clear hB hns
  go_wp2_with fail
  refine (q4d t ht w2.heap.size w2.heap.size s ds [] a cap [] false _ (by rw [HD.out];simp) (HM.out.kept (Below.heap_alloc _ _ _ hs)) hs (by omega) hc (IsX.fresh 328 w2 [.bool false]) (by simp) (by simp;omega)).mono ?_
  rintro e w3 ⟨⟨a3,cap3,rfl,_,_⟩,hw3,hb3,_⟩
  have hB3:Below w.heap.size w w3:=HB.out.trans ((((Below.refl _ w2).alloc (Nat.le_refl _) _).trans (hb3.below (Nat.le_refl _))).mono HB.out.size)
  rw [Bool.false_or,List.nil_append] at hw3
  have HW3:Hid (Ln w2.heap.size w2.heap.size t.laid t.brk w3):=hw3
  have g1:=hw3.cell
  rw [HK.out] at g1
  clear hw3
 ·go_wp2_with fail
  refine (z2i 328 w2.heap.size w2.heap.size t.laid [.bool t.brk] w3 HW3.out).mono ?_
  rintro e w4 ⟨rfl,hb4⟩
  go_wp2
  go_ret3
  exact ⟨rfl,hB3.trans (hb4.mono HB.out.size)⟩
 ·go_wp2
  go_ret3
  exact ⟨rfl,hB3⟩
theorem j8m (ds:List Nd) (a:Option Addr) (cap:Nat) (hc:ds.length≤cap) (w:World) (hN:q2y w a ds) :
  Calls Tryz.prog 221 #[.slice a ds.length cap] w fun e w'=>e = .returned (.tuple #[.string (flS ds),.bool (flB ds),q1f (q2n ds)])∧Below w.heap.size w w':=by
 by_cases h:q2n ds=0
 ·obtain ⟨hl,_,_⟩:=q4y h
  obtain ⟨e0,e1,e2⟩:=j0w (z0o h) (q3z h) hl
  rw [e1,e2,h,q0q]
  exact j0x ds _ (q3z h) (z0o h) hl a cap hc w hN
 ·obtain ⟨e1,e2⟩:=y0t h
  rw [e1,e2]
  exact j8n ds a cap w hN h
theorem j1a (ds:List Nd) (a:Option Addr) (cap:Nat) (hc:ds.length≤cap) (w:World) (hN:q2y w a ds) :
  Calls Tryz.prog 193 #[.slice a ds.length cap] w fun e w'=>e = .returned (.tuple #[.int .i64 (flS ds).size,.bool (flB ds),q1f (q2n ds)])∧Below w.heap.size w w':=by
 have HN:Hid (q2y w a ds):=hN
 clear hN
 generalize hs:flS ds=s
 generalize hb:flB ds=b
 generalize he:q1f (q2n ds)=v
 have H:Hid (flS ds=s∧flB ds=b∧q1f (q2n ds)=v):=⟨hs,hb,he⟩
 clear hs hb he
 go_enter Tryz.func193,Tryz.ntmps193
 go_wp2_with fail
 refine (j8m ds a cap hc _ HN.out).mono ?_
 rintro e w2 ⟨rfl,hB⟩
 rw [H.out.1,H.out.2.1,H.out.2.2]
 go_wp2
 go_ret3
 exact ⟨rfl,hB⟩
theorem k9a (ds:List Nd) (t:Tr) (hd:ds=t.nodes) (ht:t.Wf) (hl:ds.length≤400) (a:Option Addr) (cap:Nat) (hc:ds.length≤cap) (w:World) (hN:q2y w a ds) :
  Calls Tryz.prog 163 #[.slice a ds.length cap] w fun e w'=>e = .returned (.int .i64 (lgF t.flat))∧Below w.heap.size w w':=by
 obtain ⟨e0,e1,e2⟩:=j0w ht hd hl
 have hcall:=j1a ds a cap hc w hN
 rw [e0,e1,e2,q0q] at hcall
 cases hf:t.flat with
 | none=>
  have e3:t.isFlat=false:=by simp [Tr.isFlat,hf]
  rw [e3] at hcall
  have HC:Hid (Calls Tryz.prog 193 #[.slice a ds.length cap] w fun e w'=>e = .returned (.tuple #[.int .i64 t.line.size,.bool false,.nilIface])∧Below w.heap.size w w'):=hcall
  clear hcall hN e0 e1 e2 e3 hd hf
  rw [lgF]
  go_enter Tryz.func163,Tryz.ntmps163
  go_wp2_with fail
  refine HC.out.mono ?_
  rintro e w2 ⟨rfl,hb⟩
  go_wp2
  go_ret
  exact ⟨rfl,hb⟩
 | some s=>
  have e3:t.isFlat=true:=by simp [Tr.isFlat,hf]
  have e4:t.line.size=s.length:=by rw [z9e,hf];rfl
  rw [e3,e4] at hcall
  have HC:Hid (Calls Tryz.prog 193 #[.slice a ds.length cap] w fun e w'=>e = .returned (.tuple #[.int .i64 s.length,.bool true,.nilIface])∧Below w.heap.size w w'):=hcall
  clear hcall hN e0 e1 e2 e3 e4 hd hf
  rw [lgF]
  go_enter Tryz.func163,Tryz.ntmps163
  go_wp2_with fail
  refine HC.out.mono ?_
  rintro e w2 ⟨rfl,hb⟩
  go_wp2
  go_ret
  exact ⟨rfl,hb⟩
theorem v9x.pr {g n j:Nat} {F:Nat→Q} {x y:Int} {w w':World} (h:v9x g (j*7+4) (j*7+5) (.int .i64 x) (.int .i64 y) w w') (hp:PwR w g n F) (hj:j<n):PwR w' g n (upd F j { F j with nx:=x,dp:=y }):=by
 have h1:=(hp.putNx hj x).putDp hj y
 rw [z7r,q0k] at h1
 exact h1.kept (by rw [h.2.2.2])
theorem v9x.belX {g a b:Nat} {e f:Value} {w w':World} (h:v9x g a b e f w w') (B:Nat):q0i B g w w':=
 ⟨h.1,h.2.1,h.2.2.1,by rw [h.2.2.2];simp [World.setCell],fun k _ hk=>by rw [h.2.2.2,Below.heap_setCell _ _ _ _ hk,Below.heap_setCell _ _ _ _ hk]⟩
theorem q8x (bp g n i:Nat) (x y:Int) (F:Nat→Q) (w:World) (hi:i<n) (c0:w.cell? ⟨bp,0,none⟩=some (.slice (some ⟨g,0,none⟩) n n)) (hp:PwR w g n F) :
  Calls Tryz.prog 192 #[.pointer (some ⟨bp,0,none⟩),.int .i64 i,.int .i64 x,.int .i64 y] w fun e w'=>e = .returned (.tuple #[])∧PwR w' g n (upd F i { F i with nx:=x,dp:=y })∧q0i w.heap.size g w w':=by
 have k:=hp.get i hi
 refine (k9j bp g n i x y w (by omega) c0 _ _ k.c4 k.c5 hp.row.frozen hp.row.frozen).mono ?_
 rintro e w2 ⟨rfl,h⟩
 exact ⟨rfl,h.pr hp hi,h.belX _⟩
set_option maxHeartbeats 4000000
theorem j7u (bp g n i:Nat) (F:Nat→Q) (w:World) (hi:i<n) (c0:w.cell? ⟨bp,0,none⟩=some (.slice (some ⟨g,0,none⟩) n n)) (hp:PwR w g n F)
  (h6:((F i).op == 6)=false) (h9:((F i).op == 9)=false) (h7:((F i).op == 7)=false) (h8:((F i).op == 8)=false) :
  Calls Tryz.prog 162 #[.pointer (some ⟨bp,0,none⟩),.int .i64 i] w fun e w'=>e = .returned (.tuple #[])∧PwR w' g n F∧q0i w.heap.size g w w':=by
 obtain ⟨d0,d1,d2,d3,d4,d5,d6⟩:=hp.get i hi
 have hiI:(i:Int)<n:=by omega
 have hp0:(0:Int)≤(i:Int):=by omega
 have HP:Hid (PwR w g n F):=hp
 clear hp hi
 generalize F i=q at *
 go_enter Tryz.func162,Tryz.ntmps162
 go_wp2
 go_end0
 have hb:Below w.heap.size w (w.alloc (.cells #[.int .i64 q.op,.string q.tx,.int .i64 q.n,.int .i64 q.en,.int .i64 q.nx,.int .i64 q.dp,.int .i64 q.lg] 248)):=(Below.refl _ _).alloc (Nat.le_refl _) _
 exact ⟨rfl,HP.out.kept (hb.block g HP.out.row.lt),q0i.of hb⟩
abbrev q4s (q:Q):Obj:=.cells #[.int .i64 q.op,.string q.tx,.int .i64 q.n,.int .i64 q.en,.int .i64 q.nx,.int .i64 q.dp,.int .i64 q.lg] 248
theorem v5k (bp g n i:Nat) (F:Nat→Q) (w:World) (hn:n≤400) (hi1:i+1<n) (c0:w.cell? ⟨bp,0,none⟩=some (.slice (some ⟨g,0,none⟩) n n)) (hp:PwR w g n F)
  (hop:(F i).op=7∨(F i).op=8) (x:Int) (hx:IntKind.i64.wrap ((F i).dp+(F i).n)=x) :
  Calls Tryz.prog 162 #[.pointer (some ⟨bp,0,none⟩),.int .i64 i] w fun e w'=>e = .returned (.tuple #[])∧PwR w' g n (upd F (i+1) { F (i+1) with nx:=(F i).nx,dp:=x })∧q0i w.heap.size g w w':=by
 obtain ⟨d0,d1,d2,d3,d4,d5,d6⟩:=hp.get i (by omega)
 have hiI:(i:Int)<n:=by omega
 have hp0:(0:Int)≤(i:Int):=by omega
 have hw1:=z4i hn hiI
 have HP:Hid (PwR w g n F):=hp
 have HC:Hid (w.cell? ⟨bp,0,none⟩=some (.slice (some ⟨g,0,none⟩) n n)):=c0
 have HF:Hid (∃ q,F i=q):=⟨_,rfl⟩
 clear hp
 generalize F i=q at *
 have hlt:g<w.heap.size:=HP.out.row.lt
 rcases hop with e | e
 all_goals
  rw [e] at d0
  go_enter Tryz.func162,Tryz.ntmps162
  go_wp2_with fail
  refine (q8x bp g n (i+1) q.nx x F _ hi1 (ka HC.out _) (HP.out.kept (Below.heap_alloc _ _ _ hlt))).mono ?_
  rintro e w2 ⟨rfl,h2,hb2⟩
  go_wp2
  go_end0
  exact ⟨rfl,h2,(q0i.of ((Below.refl _ w).alloc (Nat.le_refl _) _)).trans (hb2.mono (by simp))⟩
theorem v5l (bp g n i j:Nat) (F:Nat→Q) (w:World) (hn:n≤400) (hi1:i+1<n) (hj:j<n) (hbg:bp≠g) (c0:w.cell? ⟨bp,0,none⟩=some (.slice (some ⟨g,0,none⟩) n n)) (hp:PwR w g n F)
  (hop:(F i).op=6) (hen:(F (i+1)).en=(j:Int)) :
  Calls Tryz.prog 162 #[.pointer (some ⟨bp,0,none⟩),.int .i64 i] w fun e w'=>e = .returned (.tuple #[])∧PwR w' g n (upd (upd F (i+1) { F (i+1) with nx:=j,dp:=(F i).dp }) j { upd F (i+1) { F (i+1) with nx:=j,dp:=(F i).dp } j with nx:=(F i).nx,dp:=(F i).dp })∧q0i w.heap.size g w w':=by
 obtain ⟨d0,d1,d2,d3,d4,d5,d6⟩:=hp.get i (by omega)
 have k3:=(hp.get (i+1) hi1).c3
 rw [hen] at k3
 have hiI:(i:Int)<n:=by omega
 have hi1I:(i:Int)+1<n:=by omega
 have hp0:(0:Int)≤(i:Int):=by omega
 have hp1:(0:Int)≤(i:Int)+1:=by omega
 have htn:((i:Int)+1).toNat=i+1:=by omega
 have hw1:=z4i hn hiI
 have HP:Hid (PwR w g n F):=hp
 have hlt:g<w.heap.size:=HP.out.row.lt
 have hltb:bp<w.heap.size:=World.block_lt_of_cell? w ⟨bp,0,none⟩ c0
 have HC:Hid (w.cell? ⟨bp,0,none⟩=some (.slice (some ⟨g,0,none⟩) n n)):=c0
 have k3':∀ O,(w.alloc O).cell? ⟨g,(i+1)*7+3,none⟩=some (.int .i64 (j:Int)):=fun O=>ka k3 O
 have c0':∀ O,(w.alloc O).cell? ⟨bp,0,none⟩=some (.slice (some ⟨g,0,none⟩) n n):=fun O=>ka c0 O
 rw [hop] at d0
 have HE:Hid ((F (i+1)).en=(j:Int)):=hen
 clear hp hen k3 hop
 generalize F i=q at *
 go_enter Tryz.func162,Tryz.ntmps162
 go_wp2_with fail
 refine (q8x bp g n (i+1) j q.dp F _ hi1 (c0' _) (HP.out.kept (Below.heap_alloc _ _ _ hlt))).mono ?_
 rintro e w2 ⟨rfl,h2,hb2⟩
 have b4:w2.cell? ⟨w.heap.size,4,none⟩=some (.int .i64 q.nx):=(hb2.cell (p:=⟨w.heap.size,4,none⟩) (by simp) (by simp;omega)).trans (by simp [go_sem])
 have b5:w2.cell? ⟨w.heap.size,5,none⟩=some (.int .i64 q.dp):=(hb2.cell (p:=⟨w.heap.size,5,none⟩) (by simp) (by simp;omega)).trans (by simp [go_sem])
 have c2:w2.cell? ⟨bp,0,none⟩=some (.slice (some ⟨g,0,none⟩) n n):=(hb2.cell (p:=⟨bp,0,none⟩) (by simp;omega) hbg).trans (c0' _)
 have HP2:Hid (PwR w2 g n (upd F (i+1) { F (i+1) with nx:=j,dp:=q.dp })):=h2
 have HB2:Hid (q0i w.heap.size g w w2):=(q0i.of ((Below.refl _ w).alloc (Nat.le_refl _) _)).trans (hb2.mono (by simp))
 clear h2 hb2
 go_wp2_with fail
 refine (q8x bp g n j q.nx q.dp _ _ hj c2 HP2.out).mono ?_
 rintro e w3 ⟨rfl,h3,hb3⟩
 go_wp2
 go_end0
 exact ⟨rfl,h3,HB2.out.trans (hb3.mono HB2.out.size)⟩
theorem j7v (bp g n i j:Nat) (F:Nat→Q) (w:World) (hn:n≤400) (hi1:i+1<n) (hj:j<n) (hbg:bp≠g) (c0:w.cell? ⟨bp,0,none⟩=some (.slice (some ⟨g,0,none⟩) n n)) (hp:PwR w g n F)
  (hop:(F i).op=9) (hen:(F (i+1)).en=(j:Int)) :
  Calls Tryz.prog 162 #[.pointer (some ⟨bp,0,none⟩),.int .i64 i] w fun e w'=>e = .returned (.tuple #[])∧PwR w' g n (upd (upd F (i+1) { F (i+1) with nx:=(F i).nx,dp:=(F i).dp }) j { upd F (i+1) { F (i+1) with nx:=(F i).nx,dp:=(F i).dp } j with nx:=(F i).nx,dp:=(F i).dp })∧q0i w.heap.size g w w':=by
 obtain ⟨d0,d1,d2,d3,d4,d5,d6⟩:=hp.get i (by omega)
 have hiI:(i:Int)<n:=by omega
 have hi1I:(i:Int)+1<n:=by omega
 have hp0:(0:Int)≤(i:Int):=by omega
 have hp1:(0:Int)≤(i:Int)+1:=by omega
 have htn:((i:Int)+1).toNat=i+1:=by omega
 have hw1:=z4i hn hiI
 have HP:Hid (PwR w g n F):=hp
 have hlt:g<w.heap.size:=HP.out.row.lt
 have hltb:bp<w.heap.size:=World.block_lt_of_cell? w ⟨bp,0,none⟩ c0
 have c0':∀ O,(w.alloc O).cell? ⟨bp,0,none⟩=some (.slice (some ⟨g,0,none⟩) n n):=fun O=>ka c0 O
 rw [hop] at d0
 have HE:Hid ((F (i+1)).en=(j:Int)):=hen
 clear hp hen hop
 generalize F i=q at *
 go_enter Tryz.func162,Tryz.ntmps162
 go_wp2_with fail
 refine (q8x bp g n (i+1) q.nx q.dp F _ hi1 (c0' _) (HP.out.kept (Below.heap_alloc _ _ _ hlt))).mono ?_
 rintro e w2 ⟨rfl,h2,hb2⟩
 have b4:w2.cell? ⟨w.heap.size,4,none⟩=some (.int .i64 q.nx):=(hb2.cell (p:=⟨w.heap.size,4,none⟩) (by simp) (by simp;omega)).trans (by simp [go_sem])
 have b5:w2.cell? ⟨w.heap.size,5,none⟩=some (.int .i64 q.dp):=(hb2.cell (p:=⟨w.heap.size,5,none⟩) (by simp) (by simp;omega)).trans (by simp [go_sem])
 have c2:w2.cell? ⟨bp,0,none⟩=some (.slice (some ⟨g,0,none⟩) n n):=(hb2.cell (p:=⟨bp,0,none⟩) (by simp;omega) hbg).trans (c0' _)
 have k3:w2.cell? ⟨g,(i+1)*7+3,none⟩=some (.int .i64 (j:Int)):=by
  have:=(h2.get (i+1) hi1).c3
  rw [q0k] at this
  rw [←HE.out]
  exact this
 have HP2:Hid (PwR w2 g n (upd F (i+1) { F (i+1) with nx:=q.nx,dp:=q.dp })):=h2
 have HB2:Hid (q0i w.heap.size g w w2):=(q0i.of ((Below.refl _ w).alloc (Nat.le_refl _) _)).trans (hb2.mono (by simp))
 have hs2:w.heap.size<w2.heap.size:=by have:=hb2.size;simp at this;omega
 have hKb:∀ w3,q0i w2.drew.heap.size g w2.drew w3→w3.cell? ⟨bp,0,none⟩=some (.slice (some ⟨g,0,none⟩) n n):=fun w3 h=>(h.cell (p:=⟨bp,0,none⟩) (by simp;omega) hbg).trans c2
 have hK4:∀ w3,q0i w2.drew.heap.size g w2.drew w3→w3.cell? ⟨w.heap.size,4,none⟩=some (.int .i64 q.nx):=fun w3 h=>(h.cell (p:=⟨w.heap.size,4,none⟩) hs2 (by simp;omega)).trans b4
 have hK5:∀ w3,q0i w2.drew.heap.size g w2.drew w3→w3.cell? ⟨w.heap.size,5,none⟩=some (.int .i64 q.dp):=fun w3 h=>(h.cell (p:=⟨w.heap.size,5,none⟩) hs2 (by simp;omega)).trans b5
 have hK3:∀ w3,PwR w3 g n (upd (upd F (i+1) { F (i+1) with nx:=q.nx,dp:=q.dp }) j { upd F (i+1) { F (i+1) with nx:=q.nx,dp:=q.dp } j with nx:=q.nx,dp:=q.dp })→w3.cell? ⟨g,(i+1)*7+3,none⟩=some (.int .i64 (j:Int)):=fun w3 h=>by
  have:=(h.get (i+1) hi1).c3
  rw [←HE.out]
  by_cases e:i+1=j
  ·subst e
   rw [q0k,q0k] at this
   exact this
  ·rw [q0z e,q0k] at this
   exact this
 clear h2 hb2
 go_wp2_with fail
 go_region_held3 (fun w'=>w'.cell? ⟨bp,0,none⟩=some (.slice (some ⟨g,0,none⟩) n n)∧w'.cell? ⟨g,(i+1)*7+3,none⟩=some (.int .i64 (j:Int))∧w'.cell? ⟨w.heap.size,4,none⟩=some (.int .i64 q.nx)∧w'.cell? ⟨w.heap.size,5,none⟩=some (.int .i64 q.dp))
  (first | exact ⟨c2,k3,b4,b5⟩ | exact ⟨hKb _ hb3,hK3 _ h3,hK4 _ hb3,hK5 _ hb3⟩) ((go_at_call 192;refine (q8x bp g n j q.nx q.dp _ w2.drew hj c2 (HP2.out.kept rfl)).mono ?_;rintro e w3 ⟨rfl,h3,hb3⟩))
 all_goals
  go_wp2
  go_end0
  exact ⟨rfl,h3,HB2.out.drew.trans (hb3.mono HB2.out.size)⟩
structure ChB (w wx:World) (i c:Nat) (q:Q):Prop where
 a0:wx.cell? ⟨w.heap.size,0,none⟩=some (.int .i64 i)
 a1:wx.cell? ⟨w.heap.size,1,none⟩=some (.int .i64 c)
 r0:wx.cell? ⟨w.heap.size+1,0,none⟩=some (.int .i64 0)
 r1:wx.cell? ⟨w.heap.size+1,1,none⟩=some (.int .i64 0)
 r2:wx.cell? ⟨w.heap.size+1,2,none⟩=some (.int .i64 0)
 r3:wx.cell? ⟨w.heap.size+1,3,none⟩=some (.int .i64 0)
 r4:wx.cell? ⟨w.heap.size+1,4,none⟩=some (.int .i64 0)
 fr:z2o wx (w.heap.size+1)
 q0:wx.cell? ⟨w.heap.size+1+1,0,none⟩=some (.int .i64 q.op)
 q1:wx.cell? ⟨w.heap.size+1+1,1,none⟩=some (.string q.tx)
 q2:wx.cell? ⟨w.heap.size+1+1,2,none⟩=some (.int .i64 q.n)
 q3:wx.cell? ⟨w.heap.size+1+1,3,none⟩=some (.int .i64 q.en)
 q4:wx.cell? ⟨w.heap.size+1+1,4,none⟩=some (.int .i64 q.nx)
 q5:wx.cell? ⟨w.heap.size+1+1,5,none⟩=some (.int .i64 q.dp)
 q6:wx.cell? ⟨w.heap.size+1+1,6,none⟩=some (.int .i64 q.lg)
 lt:w.heap.size+1+1<wx.heap.size
theorem ChB.kept {w wx wy:World} {i c mb:Nat} {q:Q} (h:ChB w wx i c q) (hb:q0i wx.heap.size mb wx wy) (hm:mb<w.heap.size):ChB w wy i c q:=by
 have hc:∀ b o v,b≠mb→wx.cell? ⟨b,o,none⟩=some v→wy.cell? ⟨b,o,none⟩=some v:=fun b o v he hv=>(hb.cell (p:=⟨b,o,none⟩) (World.block_lt_of_cell? wx ⟨b,o,none⟩ hv) he).trans hv
 exact ⟨hc _ _ _ (by omega) h.a0,hc _ _ _ (by omega) h.a1,hc _ _ _ (by omega) h.r0,hc _ _ _ (by omega) h.r1,hc _ _ _ (by omega) h.r2,hc _ _ _ (by omega) h.r3,hc _ _ _ (by omega) h.r4,h.fr.kept (hb.block _ h.fr.lt (by omega)),
  hc _ _ _ (by omega) h.q0,hc _ _ _ (by omega) h.q1,hc _ _ _ (by omega) h.q2,hc _ _ _ (by omega) h.q3,hc _ _ _ (by omega) h.q4,hc _ _ _ (by omega) h.q5,hc _ _ _ (by omega) h.q6,Nat.lt_of_lt_of_le h.lt hb.size⟩
theorem k9n {sb g mb wd i c:Nat} {R:List Pl} {S:Nat→Nat→Bool} {w w1:World} (h:Sk1 sb g mb wd i c R S w w1) (q:Q):ChB w (w1.alloc (q4s q)).drew i c q:=by
 have n1:=heap_alloc_new w1 (q4s q)
 rw [h.sz] at n1
 have hc:∀ o v,(w1.alloc (q4s q)).cell? ⟨w.heap.size+1+1,o,none⟩=v→(w1.alloc (q4s q)).drew.cell? ⟨w.heap.size+1+1,o,none⟩=v:=fun _ _ h=>h
 refine ⟨ka h.a0 _,ka h.a1 _,ka h.r0 _,ka h.r1 _,ka h.r2 _,ka h.r3 _,ka h.r4 _,h.fr.kept (Below.heap_alloc _ _ _ h.fr.lt),hc _ _ ?_,hc _ _ ?_,hc _ _ ?_,hc _ _ ?_,hc _ _ ?_,hc _ _ ?_,hc _ _ ?_,?_⟩
 ·simp [World.cell?,n1,q4s]
 ·simp [World.cell?,n1,q4s]
 ·simp [World.cell?,n1,q4s]
 ·simp [World.cell?,n1,q4s]
 ·simp [World.cell?,n1,q4s]
 ·simp [World.cell?,n1,q4s]
 ·simp [World.cell?,n1,q4s]
 ·show w.heap.size+1+1<(w1.alloc (q4s q)).heap.size
  simp [h.sz]
end Go.Proofs.YtchdplceopegoaaGreatDoor
