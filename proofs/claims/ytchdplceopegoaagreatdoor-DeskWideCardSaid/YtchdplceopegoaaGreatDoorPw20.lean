/- Texts as one: LayF1, LayF3, LayF6, LayF7, LayF9, DocL, LayFZ. -/
import Derived.Test.YtchdplceopegoaaGreatDoorPw19
namespace Go.Proofs.YtchdplceopegoaaGreatDoor
open Go Go.RowKit
set_option maxRecDepth 100000
set_option maxHeartbeats 4000000
theorem v3v (tx:ByteArray) (n:Int) (ht:tx.size≤20):z6t (⟨1,tx,n⟩::[]) (tx.data.toList) (false):=by
 intro B b s ds r0 a cap l k w hd hN hsB hsb hc hW hBw hl
 generalize hr:[]++r0=r
 have HR:Hid ([]++r0=r):=hr
 have HRL:Hid (r.length=([]:List Nd).length+r0.length):=(show _=_ by rw [←hr,List.length_append])
 obtain rfl:ds=⟨1,tx,n⟩::r:=by rw [hd,←hr];rfl
 clear hd hr
 obtain ⟨o0,ea,c1,c2,c3⟩:=hN 0 (by simp)
 subst ea
 simp only [List.length_cons] at hc hl ⊢
 have HN1:Hid (q0u s w (some ⟨s,o0+3,none⟩) r):=hN.rest
 have HN2:Hid (cap=1→q0u s w (some ⟨s,o0,none⟩) r):=fun h=>by
  have h1:=hN.slid hc
  rw [if_pos h] at h1
  exact h1
 have HW:Hid (Ln B b l k w):=hW
 simp only [Nat.zero_mul,Nat.add_zero,List.getElem_cons_zero] at c1 c2 c3
 have hb0:s<w.heap.size:=by omega
 have hr1:(1:Int)≤(r.length:Int)+1:=by omega
 have HB:Hid (∀ O:Obj,q0i B b w (w.alloc O).drew):=fun O=>q0i.drew ((q0i.refl B b w).alloc hBw O)
 have HK:Hid (∀ O:Obj,Lib.OthersKept 5 (some b) w (w.alloc O).drew):=fun O=>((Lib.OthersKept.refl _ _ w).alloc O).drew
 have HS:Hid (s<B∧s≠b):=⟨hsB,hsb⟩
 clear hN hW hsB hsb
 go_enter Tryz.func242,Tryz.ntmps242
 go_upto_region 1 with fail
 go_cut [0,1,5,6] (fun t _ p q wx=>z9u B b s w.heap.size ⟨1,tx,n⟩ r l k w t p q wx)
 case first=>
  go_region
  all_goals (go_wp2_with fail)
  all_goals
   go_meet
   refine ⟨rfl,rfl,⟨_,_,rfl,?_,by omega⟩,by simp [go_sem],by simp [go_sem],by simp [go_sem],IsX.drew (IsX.alloc HW.out _),HB.out _,HK.out _⟩
   first
    | exact HN1.out.kept ((HB.out _).block s HS.out.1 HS.out.2)
    | exact (HN2.out (by assumption)).kept ((HB.out _).block s HS.out.1 HS.out.2)
    | exact (HN2.out rfl).kept ((HB.out _).block s HS.out.1 HS.out.2)
 case rest=>
  obtain ⟨rfl,rfl,⟨a',cap',rfl,hn,hc'⟩,e1,e2,e3,hw,hbw,hkw⟩:=hcut
  dsimp only at e1 e2 e3
  have HN':Hid (q0u s wc a' r):=hn
  have HW':Hid (Ln B b l k wc):=hw
  have HB':Hid (q0i B b w wc):=hbw
  have HK':Hid (Lib.OthersKept 5 (some b) w wc):=hkw
  have hBc:B≤wc.heap.size:=Nat.le_trans hBw hbw.size
  clear hn hw hbw hkw
  go_wp2_with fail
  go_region_with (go_at_call 33;refine (y2p (w:=wc.drew) HW'.out hBc tx (by omega)).mono ?_;rintro e w2 ⟨⟨z,rfl⟩,h2,hb2,hk2⟩)
  all_goals
   go_wp2
   go_ret
   obtain rfl:r0=r:=HR.out
   rw [Bool.or_false]
   exact ⟨⟨_,_,rfl,q0u.kept (w:=wc.drew) HN'.out (hb2.block s HS.out.1 HS.out.2),hc'⟩,h2,HB'.out.drew.trans hb2,HK'.out.drew.trans hk2⟩
theorem v3w (tx:ByteArray) (n:Int):z6t (⟨2,tx,n⟩::[]) ([32]) (false):=by
 intro B b s ds r0 a cap l k w hd hN hsB hsb hc hW hBw hl
 generalize hr:[]++r0=r
 have HR:Hid ([]++r0=r):=hr
 have HRL:Hid (r.length=([]:List Nd).length+r0.length):=(show _=_ by rw [←hr,List.length_append])
 obtain rfl:ds=⟨2,tx,n⟩::r:=by rw [hd,←hr];rfl
 clear hd hr
 obtain ⟨o0,ea,c1,c2,c3⟩:=hN 0 (by simp)
 subst ea
 simp only [List.length_cons] at hc hl ⊢
 have HN1:Hid (q0u s w (some ⟨s,o0+3,none⟩) r):=hN.rest
 have HN2:Hid (cap=1→q0u s w (some ⟨s,o0,none⟩) r):=fun h=>by
  have h1:=hN.slid hc
  rw [if_pos h] at h1
  exact h1
 have HW:Hid (Ln B b l k w):=hW
 simp only [Nat.zero_mul,Nat.add_zero,List.getElem_cons_zero] at c1 c2 c3
 have hb0:s<w.heap.size:=by omega
 have hr1:(1:Int)≤(r.length:Int)+1:=by omega
 have HB:Hid (∀ O:Obj,q0i B b w (w.alloc O).drew):=fun O=>q0i.drew ((q0i.refl B b w).alloc hBw O)
 have HK:Hid (∀ O:Obj,Lib.OthersKept 5 (some b) w (w.alloc O).drew):=fun O=>((Lib.OthersKept.refl _ _ w).alloc O).drew
 have HS:Hid (s<B∧s≠b):=⟨hsB,hsb⟩
 clear hN hW hsB hsb
 go_enter Tryz.func242,Tryz.ntmps242
 go_upto_region 1 with fail
 go_cut [0,1,5,6] (fun t _ p q wx=>z9u B b s w.heap.size ⟨2,tx,n⟩ r l k w t p q wx)
 case first=>
  go_region
  all_goals (go_wp2_with fail)
  all_goals
   go_meet
   refine ⟨rfl,rfl,⟨_,_,rfl,?_,by omega⟩,by simp [go_sem],by simp [go_sem],by simp [go_sem],IsX.drew (IsX.alloc HW.out _),HB.out _,HK.out _⟩
   first
    | exact HN1.out.kept ((HB.out _).block s HS.out.1 HS.out.2)
    | exact (HN2.out (by assumption)).kept ((HB.out _).block s HS.out.1 HS.out.2)
    | exact (HN2.out rfl).kept ((HB.out _).block s HS.out.1 HS.out.2)
 case rest=>
  obtain ⟨rfl,rfl,⟨a',cap',rfl,hn,hc'⟩,e1,e2,e3,hw,hbw,hkw⟩:=hcut
  dsimp only at e1 e2 e3
  have HN':Hid (q0u s wc a' r):=hn
  have HW':Hid (Ln B b l k wc):=hw
  have HB':Hid (q0i B b w wc):=hbw
  have HK':Hid (Lib.OthersKept 5 (some b) w wc):=hkw
  have hBc:B≤wc.heap.size:=Nat.le_trans hBw hbw.size
  clear hn hw hbw hkw
  go_wp2_with fail
  refine (y1m HW'.out hBc 32 32 rfl (by omega)).mono ?_
  rintro e w2 ⟨rfl,h2,hb2,hk2⟩
  go_wp2
  go_ret
  obtain rfl:r0=r:=HR.out
  rw [Bool.or_false]
  exact ⟨⟨_,_,rfl,HN'.out.kept (hb2.block s HS.out.1 HS.out.2),hc'⟩,h2,HB'.out.trans hb2,HK'.out.trans hk2⟩
set_option maxHeartbeats 8000000
theorem k2z (k:Nat) {o:Int} (hk:k=0∧o=3∨k=1∧o=5) (tx:ByteArray) (n:Int):z6t (⟨o,tx,n⟩::[]) ([]) (false):=by
 have tg:Tag k:=.mk
 rcases hk with ⟨rfl,rfl⟩ | ⟨rfl,rfl⟩
 all_goals
  intro B b s ds r0 a cap l k w hd hN hsB hsb hc hW hBw hl
  generalize hr:[]++r0=r
  have HR:Hid ([]++r0=r):=hr
  have HRL:Hid (r.length=([]:List Nd).length+r0.length):=(show _=_ by rw [←hr,List.length_append])
  obtain rfl:ds=⟨↑(sel tg (3:Int) 5),tx,n⟩::r:=by rw [hd,←hr];rfl
  clear hd hr
  obtain ⟨o0,ea,c1,c2,c3⟩:=hN 0 (by simp)
  subst ea
  simp only [List.length_cons] at hc hl ⊢
  have HN1:Hid (q0u s w (some ⟨s,o0+3,none⟩) r):=hN.rest
  have HN2:Hid (cap=1→q0u s w (some ⟨s,o0,none⟩) r):=fun h=>by
   have h1:=hN.slid hc
   rw [if_pos h] at h1
   exact h1
  have HW:Hid (Ln B b l k w):=hW
  simp only [Nat.zero_mul,Nat.add_zero,List.getElem_cons_zero] at c1 c2 c3
  have hb0:s<w.heap.size:=by omega
  have hr1:(1:Int)≤(r.length:Int)+1:=by omega
  have HB:Hid (∀ O:Obj,q0i B b w (w.alloc O).drew):=fun O=>q0i.drew ((q0i.refl B b w).alloc hBw O)
  have HK:Hid (∀ O:Obj,Lib.OthersKept 5 (some b) w (w.alloc O).drew):=fun O=>((Lib.OthersKept.refl _ _ w).alloc O).drew
  have HS:Hid (s<B∧s≠b):=⟨hsB,hsb⟩
  clear hN hW hsB hsb
  go_enter Tryz.func242,Tryz.ntmps242
  go_upto_region 1 with fail
  go_cut [0,1,5,6] (fun t _ p q wx=>z9u B b s w.heap.size ⟨↑(sel tg (3:Int) 5),tx,n⟩ r l k w t p q wx)
  case first=>
   go_region
   all_goals (go_wp2_with fail)
   all_goals
    go_meet
    refine ⟨rfl,rfl,⟨_,_,rfl,?_,by omega⟩,by simp [go_sem],by simp [go_sem],by simp [go_sem],IsX.drew (IsX.alloc HW.out _),HB.out _,HK.out _⟩
    first
     | exact HN1.out.kept ((HB.out _).block s HS.out.1 HS.out.2)
     | exact (HN2.out (by assumption)).kept ((HB.out _).block s HS.out.1 HS.out.2)
     | exact (HN2.out rfl).kept ((HB.out _).block s HS.out.1 HS.out.2)
  case rest=>
   obtain ⟨rfl,rfl,⟨a',cap',rfl,hn,hc'⟩,e1,e2,e3,hw,hbw,hkw⟩:=hcut
   dsimp only at e1 e2 e3
   have HN':Hid (q0u s wc a' r):=hn
   have HW':Hid (Ln B b l k wc):=hw
   have HB':Hid (q0i B b w wc):=hbw
   have HK':Hid (Lib.OthersKept 5 (some b) w wc):=hkw
   have hBc:B≤wc.heap.size:=Nat.le_trans hBw hbw.size
   clear hn hw hbw hkw
   go_wp2
   go_ret
   obtain rfl:r0=r:=HR.out
   rw [Bool.or_false,List.append_nil]
   exact ⟨⟨_,_,rfl,HN'.out,hc'⟩,HW'.out,HB'.out,HK'.out⟩
theorem v3x (tx:ByteArray) (n:Int):z6t (⟨4,tx,n⟩::[]) ([]) (true):=by
 intro B b s ds r0 a cap l k w hd hN hsB hsb hc hW hBw hl
 generalize hr:[]++r0=r
 have HR:Hid ([]++r0=r):=hr
 have HRL:Hid (r.length=([]:List Nd).length+r0.length):=(show _=_ by rw [←hr,List.length_append])
 obtain rfl:ds=⟨4,tx,n⟩::r:=by rw [hd,←hr];rfl
 clear hd hr
 obtain ⟨o0,ea,c1,c2,c3⟩:=hN 0 (by simp)
 subst ea
 simp only [List.length_cons] at hc hl ⊢
 have HN1:Hid (q0u s w (some ⟨s,o0+3,none⟩) r):=hN.rest
 have HN2:Hid (cap=1→q0u s w (some ⟨s,o0,none⟩) r):=fun h=>by
  have h1:=hN.slid hc
  rw [if_pos h] at h1
  exact h1
 have HW:Hid (Ln B b l k w):=hW
 simp only [Nat.zero_mul,Nat.add_zero,List.getElem_cons_zero] at c1 c2 c3
 have hb0:s<w.heap.size:=by omega
 have hr1:(1:Int)≤(r.length:Int)+1:=by omega
 have HB:Hid (∀ O:Obj,q0i B b w (w.alloc O).drew):=fun O=>q0i.drew ((q0i.refl B b w).alloc hBw O)
 have HK:Hid (∀ O:Obj,Lib.OthersKept 5 (some b) w (w.alloc O).drew):=fun O=>((Lib.OthersKept.refl _ _ w).alloc O).drew
 have HS:Hid (s<B∧s≠b):=⟨hsB,hsb⟩
 clear hN hW hsB hsb
 go_enter Tryz.func242,Tryz.ntmps242
 go_upto_region 1 with fail
 go_cut [0,1,5,6] (fun t _ p q wx=>z9u B b s w.heap.size ⟨4,tx,n⟩ r l k w t p q wx)
 case first=>
  go_region
  all_goals (go_wp2_with fail)
  all_goals
   go_meet
   refine ⟨rfl,rfl,⟨_,_,rfl,?_,by omega⟩,by simp [go_sem],by simp [go_sem],by simp [go_sem],IsX.drew (IsX.alloc HW.out _),HB.out _,HK.out _⟩
   first
    | exact HN1.out.kept ((HB.out _).block s HS.out.1 HS.out.2)
    | exact (HN2.out (by assumption)).kept ((HB.out _).block s HS.out.1 HS.out.2)
    | exact (HN2.out rfl).kept ((HB.out _).block s HS.out.1 HS.out.2)
 case rest=>
  obtain ⟨rfl,rfl,⟨a',cap',rfl,hn,hc'⟩,e1,e2,e3,hw,hbw,hkw⟩:=hcut
  dsimp only at e1 e2 e3
  have HN':Hid (q0u s wc a' r):=hn
  have HW':Hid (Ln B b l k wc):=hw
  have HB':Hid (q0i B b w wc):=hbw
  have HK':Hid (Lib.OthersKept 5 (some b) w wc):=hkw
  have hBc:B≤wc.heap.size:=Nat.le_trans hBw hbw.size
  clear hn hw hbw hkw
  have g1:=HW'.out.cell
  have g2:=HW'.out.frozen
  go_wp2
  go_ret
  obtain rfl:r0=r:=HR.out
  rw [Bool.or_true,List.append_nil]
  refine ⟨⟨_,_,rfl,HN'.out.kept (Below.heap_setCell _ _ _ _ HS.out.2),hc'⟩,HW'.out.stored true,HB'.out.setCell (.inl rfl) _,HK'.out.setCell _ rfl _⟩
theorem v3y (tx:ByteArray) (n:Int) (A C:List Nd) (tA tC:List UInt8) (kA kC:Bool) (hA:z6t A tA kA) (hC:z6t C tC kC) (htA:tA.length≤20*A.length):z6t (⟨6,tx,n⟩::(A++C)) (tA++tC) (kA || kC):=by
 intro B b s ds r0 a cap l k w hd hN hsB hsb hc hW hBw hl
 generalize hr:(A++C)++r0=r
 have HR:Hid ((A++C)++r0=r):=hr
 have HRL:Hid (r.length=((A++C):List Nd).length+r0.length):=(show _=_ by rw [←hr,List.length_append])
 obtain rfl:ds=⟨6,tx,n⟩::r:=by rw [hd,←hr];rfl
 clear hd hr
 obtain ⟨o0,ea,c1,c2,c3⟩:=hN 0 (by simp)
 subst ea
 simp only [List.length_cons] at hc hl ⊢
 have HN1:Hid (q0u s w (some ⟨s,o0+3,none⟩) r):=hN.rest
 have HN2:Hid (cap=1→q0u s w (some ⟨s,o0,none⟩) r):=fun h=>by
  have h1:=hN.slid hc
  rw [if_pos h] at h1
  exact h1
 have HW:Hid (Ln B b l k w):=hW
 simp only [Nat.zero_mul,Nat.add_zero,List.getElem_cons_zero] at c1 c2 c3
 have hb0:s<w.heap.size:=by omega
 have hr1:(1:Int)≤(r.length:Int)+1:=by omega
 have HB:Hid (∀ O:Obj,q0i B b w (w.alloc O).drew):=fun O=>q0i.drew ((q0i.refl B b w).alloc hBw O)
 have HK:Hid (∀ O:Obj,Lib.OthersKept 5 (some b) w (w.alloc O).drew):=fun O=>((Lib.OthersKept.refl _ _ w).alloc O).drew
 have HS:Hid (s<B∧s≠b):=⟨hsB,hsb⟩
 clear hN hW hsB hsb
 go_enter Tryz.func242,Tryz.ntmps242
 go_upto_region 1 with fail
 go_cut [0,1,5,6] (fun t _ p q wx=>z9u B b s w.heap.size ⟨6,tx,n⟩ r l k w t p q wx)
 case first=>
  go_region
  all_goals (go_wp2_with fail)
  all_goals
   go_meet
   refine ⟨rfl,rfl,⟨_,_,rfl,?_,by omega⟩,by simp [go_sem],by simp [go_sem],by simp [go_sem],IsX.drew (IsX.alloc HW.out _),HB.out _,HK.out _⟩
   first
    | exact HN1.out.kept ((HB.out _).block s HS.out.1 HS.out.2)
    | exact (HN2.out (by assumption)).kept ((HB.out _).block s HS.out.1 HS.out.2)
    | exact (HN2.out rfl).kept ((HB.out _).block s HS.out.1 HS.out.2)
 case rest=>
  obtain ⟨rfl,rfl,⟨a',cap',rfl,hn,hc'⟩,e1,e2,e3,hw,hbw,hkw⟩:=hcut
  dsimp only at e1 e2 e3
  have HN':Hid (q0u s wc a' r):=hn
  have HW':Hid (Ln B b l k wc):=hw
  have HB':Hid (q0i B b w wc):=hbw
  have HK':Hid (Lib.OthersKept 5 (some b) w wc):=hkw
  have hBc:B≤wc.heap.size:=Nat.le_trans hBw hbw.size
  clear hn hw hbw hkw
  rw [List.append_assoc] at HR
  generalize hrc:C++r0=rc at HR
  have HRC:Hid (C++r0=rc):=hrc
  have HLC:Hid (rc.length=C.length+r0.length):=(show _=_ by rw [←hrc,List.length_append])
  have HAC:Hid ((A++C).length=A.length+C.length):=(show _=_ from List.length_append)
  clear hrc
  have HA:Hid (z6t A tA kA):=hA
  have HC:Hid (z6t C tC kC):=hC
  clear hA hC
  go_wp2_with fail
  refine (HA.out B b s r rc _ _ l k _ HR.out.symm HN'.out HS.out.1 HS.out.2 hc' HW'.out hBc (by omega)).mono ?_
  rintro e w3 ⟨⟨a3,cap3,rfl,n3,hc3⟩,h3,hb3,hk3⟩
  have hBw3:B≤w3.heap.size:=Nat.le_trans hBc hb3.size
  go_wp2_with fail
  refine (HC.out B b s rc r0 _ _ _ _ _ HRC.out.symm n3 HS.out.1 HS.out.2 hc3 h3 hBw3 (by have q1:=HRL.out;have q2:=HLC.out;have q3:=HAC.out;simp;omega)).mono ?_
  rintro e w4 ⟨⟨a4,cap4,rfl,n4,hc4⟩,h4,hb4,hk4⟩
  go_wp2
  go_ret
  rw [←Bool.or_assoc,←List.append_assoc]
  exact ⟨⟨_,_,rfl,n4,hc4⟩,h4,HB'.out.trans (hb3.trans hb4),HK'.out.trans (hk3.trans hk4)⟩
theorem k3a (k:Nat) {o:Int} (hk:k=0∧o=7∨k=1∧o=8) (tx:ByteArray) (n:Int) (A:List Nd) (tA:List UInt8) (kA:Bool) (hA:z6t A tA kA):z6t (⟨o,tx,n⟩::A) (tA) (kA):=by
 have tg:Tag k:=.mk
 rcases hk with ⟨rfl,rfl⟩ | ⟨rfl,rfl⟩
 all_goals
  intro B b s ds r0 a cap l k w hd hN hsB hsb hc hW hBw hl
  generalize hr:A++r0=r
  have HR:Hid (A++r0=r):=hr
  have HRL:Hid (r.length=(A:List Nd).length+r0.length):=(show _=_ by rw [←hr,List.length_append])
  obtain rfl:ds=⟨↑(sel tg (7:Int) 8),tx,n⟩::r:=by rw [hd,←hr];rfl
  clear hd hr
  obtain ⟨o0,ea,c1,c2,c3⟩:=hN 0 (by simp)
  subst ea
  simp only [List.length_cons] at hc hl ⊢
  have HN1:Hid (q0u s w (some ⟨s,o0+3,none⟩) r):=hN.rest
  have HN2:Hid (cap=1→q0u s w (some ⟨s,o0,none⟩) r):=fun h=>by
   have h1:=hN.slid hc
   rw [if_pos h] at h1
   exact h1
  have HW:Hid (Ln B b l k w):=hW
  simp only [Nat.zero_mul,Nat.add_zero,List.getElem_cons_zero] at c1 c2 c3
  have hb0:s<w.heap.size:=by omega
  have hr1:(1:Int)≤(r.length:Int)+1:=by omega
  have HB:Hid (∀ O:Obj,q0i B b w (w.alloc O).drew):=fun O=>q0i.drew ((q0i.refl B b w).alloc hBw O)
  have HK:Hid (∀ O:Obj,Lib.OthersKept 5 (some b) w (w.alloc O).drew):=fun O=>((Lib.OthersKept.refl _ _ w).alloc O).drew
  have HS:Hid (s<B∧s≠b):=⟨hsB,hsb⟩
  clear hN hW hsB hsb
  go_enter Tryz.func242,Tryz.ntmps242
  go_upto_region 1 with fail
  go_cut [0,1,5,6] (fun t _ p q wx=>z9u B b s w.heap.size ⟨↑(sel tg (7:Int) 8),tx,n⟩ r l k w t p q wx)
  case first=>
   go_region
   all_goals (go_wp2_with fail)
   all_goals
    go_meet
    refine ⟨rfl,rfl,⟨_,_,rfl,?_,by omega⟩,by simp [go_sem],by simp [go_sem],by simp [go_sem],IsX.drew (IsX.alloc HW.out _),HB.out _,HK.out _⟩
    first
     | exact HN1.out.kept ((HB.out _).block s HS.out.1 HS.out.2)
     | exact (HN2.out (by assumption)).kept ((HB.out _).block s HS.out.1 HS.out.2)
     | exact (HN2.out rfl).kept ((HB.out _).block s HS.out.1 HS.out.2)
  case rest=>
   obtain ⟨rfl,rfl,⟨a',cap',rfl,hn,hc'⟩,e1,e2,e3,hw,hbw,hkw⟩:=hcut
   dsimp only at e1 e2 e3
   have HN':Hid (q0u s wc a' r):=hn
   have HW':Hid (Ln B b l k wc):=hw
   have HB':Hid (q0i B b w wc):=hbw
   have HK':Hid (Lib.OthersKept 5 (some b) w wc):=hkw
   have hBc:B≤wc.heap.size:=Nat.le_trans hBw hbw.size
   clear hn hw hbw hkw
   have HA:Hid (z6t A tA kA):=hA
   clear hA
   go_wp2_with fail
   refine (HA.out B b s r r0 _ _ l k _ HR.out.symm HN'.out HS.out.1 HS.out.2 hc' HW'.out hBc (by omega)).mono ?_
   rintro e w3 ⟨⟨a3,cap3,rfl,n3,hc3⟩,h3,hb3,hk3⟩
   go_wp2
   go_ret
   exact ⟨⟨_,_,rfl,n3,hc3⟩,h3,HB'.out.trans hb3,HK'.out.trans hk3⟩
theorem v3z (tx:ByteArray) (n:Int) (A C:List Nd) (tA tC:List UInt8) (kA kC:Bool) (hA:z6t A tA kA) (hC:z6t C tC kC):z6t (⟨9,tx,n⟩::(A++C)) (tA) (kA):=by
 intro B b s ds r0 a cap l k w hd hN hsB hsb hc hW hBw hl
 generalize hr:(A++C)++r0=r
 have HR:Hid ((A++C)++r0=r):=hr
 have HRL:Hid (r.length=((A++C):List Nd).length+r0.length):=(show _=_ by rw [←hr,List.length_append])
 obtain rfl:ds=⟨9,tx,n⟩::r:=by rw [hd,←hr];rfl
 clear hd hr
 obtain ⟨o0,ea,c1,c2,c3⟩:=hN 0 (by simp)
 subst ea
 simp only [List.length_cons] at hc hl ⊢
 have HN1:Hid (q0u s w (some ⟨s,o0+3,none⟩) r):=hN.rest
 have HN2:Hid (cap=1→q0u s w (some ⟨s,o0,none⟩) r):=fun h=>by
  have h1:=hN.slid hc
  rw [if_pos h] at h1
  exact h1
 have HW:Hid (Ln B b l k w):=hW
 simp only [Nat.zero_mul,Nat.add_zero,List.getElem_cons_zero] at c1 c2 c3
 have hb0:s<w.heap.size:=by omega
 have hr1:(1:Int)≤(r.length:Int)+1:=by omega
 have HB:Hid (∀ O:Obj,q0i B b w (w.alloc O).drew):=fun O=>q0i.drew ((q0i.refl B b w).alloc hBw O)
 have HK:Hid (∀ O:Obj,Lib.OthersKept 5 (some b) w (w.alloc O).drew):=fun O=>((Lib.OthersKept.refl _ _ w).alloc O).drew
 have HS:Hid (s<B∧s≠b):=⟨hsB,hsb⟩
 clear hN hW hsB hsb
 go_enter Tryz.func242,Tryz.ntmps242
 go_upto_region 1 with fail
 go_cut [0,1,5,6] (fun t _ p q wx=>z9u B b s w.heap.size ⟨9,tx,n⟩ r l k w t p q wx)
 case first=>
  go_region
  all_goals (go_wp2_with fail)
  all_goals
   go_meet
   refine ⟨rfl,rfl,⟨_,_,rfl,?_,by omega⟩,by simp [go_sem],by simp [go_sem],by simp [go_sem],IsX.drew (IsX.alloc HW.out _),HB.out _,HK.out _⟩
   first
    | exact HN1.out.kept ((HB.out _).block s HS.out.1 HS.out.2)
    | exact (HN2.out (by assumption)).kept ((HB.out _).block s HS.out.1 HS.out.2)
    | exact (HN2.out rfl).kept ((HB.out _).block s HS.out.1 HS.out.2)
 case rest=>
  obtain ⟨rfl,rfl,⟨a',cap',rfl,hn,hc'⟩,e1,e2,e3,hw,hbw,hkw⟩:=hcut
  dsimp only at e1 e2 e3
  have HN':Hid (q0u s wc a' r):=hn
  have HW':Hid (Ln B b l k wc):=hw
  have HB':Hid (q0i B b w wc):=hbw
  have HK':Hid (Lib.OthersKept 5 (some b) w wc):=hkw
  have hBc:B≤wc.heap.size:=Nat.le_trans hBw hbw.size
  clear hn hw hbw hkw
  rw [List.append_assoc] at HR
  generalize hrc:C++r0=rc at HR
  have HRC:Hid (C++r0=rc):=hrc
  have HLC:Hid (rc.length=C.length+r0.length):=(show _=_ by rw [←hrc,List.length_append])
  have HAC:Hid ((A++C).length=A.length+C.length):=(show _=_ from List.length_append)
  clear hrc
  have HA:Hid (z6t A tA kA):=hA
  have HC:Hid (z6t C tC kC):=hC
  clear hA hC
  go_wp2_with fail
  refine (HA.out B b s r rc _ _ l k _ HR.out.symm (HN'.out.kept (Below.heap_alloc _ _ _ (by have:=HS.out;omega))) HS.out.1 HS.out.2 hc' (IsX.alloc HW'.out _) (by simp;omega) (by omega)).mono ?_
  rintro e w3 ⟨⟨a3,cap3,rfl,n3,hc3⟩,h3,hb3,hk3⟩
  have hbc:b<wc.heap.size:=IsX.lt HW'.out
  have hx:=hk3 wc.heap.size _ (heap_alloc_new wc _) (by simp;omega) (by intro c fz h;cases h)
  have hsz:=hb3.size
  have hsz2:wc.heap.size+1≤w3.heap.size:=by simpa using hsz
  have HX:Hid (w3.heap[wc.heap.size]? = _):=hx
  clear hsz hx
  go_wp2_with fail
  refine (HC.out w3.heap.size wc.heap.size s rc r0 _ _ [] false _ HRC.out.symm n3 (by have:=HS.out;omega) (by have:=HS.out;omega) hc3 (IsX.unused _ _ _ _ _ HX.out) (Nat.le_refl _) (by have q1:=HRL.out;have q2:=HLC.out;have q3:=HAC.out;simp;omega)).mono ?_
  rintro e w4 ⟨⟨a4,cap4,rfl,n4,hc4⟩,h4,hb4,hk4⟩
  go_wp2
  go_ret
  refine ⟨⟨_,_,rfl,n4,hc4⟩,IsX.far h3 hb4 (by omega) HX.out (by decide),(HB'.out.trans (((q0i.refl _ _ _).alloc hBc _).trans hb3)).trans (hb4.weak (by omega) hBc),?_⟩
  exact j6q (HK'.out.trans (((Lib.OthersKept.refl _ _ _).alloc _).trans hk3)) hk4 HB'.out.size
theorem j6p {s:ByteArray} (h1:1≤s.size) (h2:s.size≤20) (h:∀ k (h:k<s.size),q4l s[k]=true):isW s=true:=by
 simp only [isW,h1,h2,decide_true,Bool.true_and,List.all_eq_true]
 intro b hb
 obtain ⟨i,hi,rfl⟩:=List.getElem_of_mem hb
 exact h i (by rw [←q0w];exact hi)
theorem v3h {s:ByteArray} {k:Nat} (h:k<s.size) (hb:q4l s[k]=false):isW s=false:=by
 cases e:isW s with
 | false=>rfl
 | true=>
  simp only [isW,Bool.and_eq_true,List.all_eq_true] at e
  have:=e.2 s[k] (by
   have:k<s.data.toList.length:=by rw [q0w];exact h
   exact List.getElem_mem this)
  rw [hb] at this
  cases this
theorem k1r {b:UInt8} (h:q4l b=false):(b.toNat:Int)<32∨(¬ (b.toNat:Int)<32∧126<(b.toNat:Int)):=by
 simp [q4l] at h
 omega
theorem k6k {b:UInt8} (h:q4l b=true):¬ (b.toNat:Int)<32∧¬ 126<(b.toNat:Int):=by
 simp [q4l] at h
 omega
theorem j2r {s:ByteArray} (h:s.size≠0):¬ s.toList=[]:=by
 rw [ByteArray.toList_eq]
 intro e
 have:=q0w s
 rw [e] at this
 exact h this.symm
theorem y2t {op:Int} (h1:¬ op<1) (h2:¬ 9<op):op=1∨op=2∨op=3∨op=4∨op=5∨op=6∨op=7∨op=8∨op=9:=by omega
theorem k8u {ds:List Nd} (h:400<ds.length):q2k ds=3:=by rw [q2k,if_pos h]
theorem k8v {ds:List Nd} {k:Nat} (hl:ds.length≤400) (hk:k<ds.length) (ha:∀ x∈ds.take k,q0p x=0) (h:q0p ds[k]≠0):q2k ds=q0p ds[k]:=by
 have e:=z7r ds k hk ha h
 rw [q2k,if_neg (by omega),if_neg (by rw [e];exact h),e]
theorem j5z {ds:List Nd} (hl:ds.length≤400) (ha:∀ x∈ds,q0p x=0):q2k ds=if q1k ds 0 1=some ds.length then 0 else 2:=by
 rw [q2k,if_neg (by omega),if_pos (q9q ds ha)]
theorem j8w {ds:List Nd} {k:Nat} (h:¬ k<ds.length) (ha:∀ x∈ds.take k,q0p x=0):∀ x∈ds,q0p x=0:=by
 rw [List.take_of_length_le (by omega)] at ha;exact ha
theorem j3f {ds:List Nd} {k:Nat} (h:k<ds.length) (ha:∀ x∈ds.take k,q0p x=0) (h0:q0p ds[k]=0):∀ x∈ds.take (k+1),q0p x=0:=by
 intro x hx
 rw [List.take_succ_eq_append_getElem h] at hx
 rcases List.mem_append.1 hx with hx | hx
 ·exact ha x hx
 ·simp at hx;subst hx;exact h0
def Tr.laid:Tr→List UInt8
 | .leaf x=>if x.op=1 then x.tx.data.toList else if x.op=2 then [32] else []
 | .one _ a=>a.laid
 | .two x a b=>if x.op=6 then a.laid++b.laid else a.laid
def Tr.brk:Tr→Bool
 | .leaf x=>decide (x.op=4)
 | .one _ a=>a.brk
 | .two x a b=>if x.op=6 then a.brk || b.brk else a.brk
theorem q5z:∀ t:Tr,t.flat=(if t.brk=true then none else some t.laid)
 | .leaf x=>by
  simp only [Tr.flat,Tr.brk,Tr.laid]
  by_cases h1:x.op=1
  ·simp [h1]
  ·by_cases h2:x.op=2
   ·simp [h2]
   ·by_cases h4:x.op=4
    ·simp [h4]
    ·simp [h1,h2,h4]
 | .one _ a=>q5z a
 | .two x a b=>by
  have h1:=q5z a
  have h2:=q5z b
  simp only [Tr.flat,Tr.brk,Tr.laid]
  split
  ·rw [h1,h2]
   cases a.brk<;>cases b.brk<;>simp
  ·exact h1
theorem z5m:∀ t:Tr,t.Wf→t.laid.length≤20*t.nodes.length
 | .leaf x,h=>by
  obtain ⟨_,_,_,_,h5,_⟩:=q1r h.1
  simp only [Tr.laid,Tr.nodes]
  split
  ·rename_i h1
   have:=q3r (h5 h1)
   have e:=q0w x.tx
   simp only [List.length_cons,List.length_nil]
   omega
  ·split<;>simp
 | .one x a,h=>by
  have:=z5m a h.2.2
  simp only [Tr.laid,Tr.nodes,List.length_cons]
  omega
 | .two x a b,h=>by
  have h1:=z5m a h.2.2.1
  have h2:=z5m b h.2.2.2
  simp only [Tr.laid,Tr.nodes,List.length_cons,List.length_append]
  split
  ·rw [List.length_append];omega
  ·omega
theorem j0d {t:Tr} (h:t.brk=false):t.isFlat=true∧t.line=⟨t.laid.toArray⟩:=by
 have:=q5z t
 rw [h] at this
 constructor
 ·rw [Tr.isFlat,this];rfl
 ·rw [Tr.line,this];rfl
theorem j0e {t:Tr} (h:t.brk=true):t.isFlat=false∧t.line=⟨#[]⟩:=by
 have:=q5z t
 rw [h] at this
 constructor
 ·rw [Tr.isFlat,this];rfl
 ·rw [Tr.line,this];rfl
theorem q3x:∀ t:Tr,t.Wf→z6t t.nodes t.laid t.brk
 | .leaf ⟨op,tx,n⟩,h=>by
  obtain ⟨_,_,_,_,h5,_⟩:=q1r h.1
  rcases q4i h.1 h.2 with e | e | e | e | e
  all_goals (simp only at e;subst e)
  ·exact v3v tx n (q3r (h5 rfl)).2
  ·exact v3w tx n
  ·exact k2z 0 (.inl ⟨rfl,rfl⟩) tx n
  ·exact v3x tx n
  ·exact k2z 1 (.inr ⟨rfl,rfl⟩) tx n
 | .one ⟨op,tx,n⟩ a,h=>by
  rcases z0m h.2.1 with e | e
  all_goals (simp only at e;subst e)
  ·exact k3a 0 (.inl ⟨rfl,rfl⟩) tx n _ _ _ (q3x a h.2.2)
  ·exact k3a 1 (.inr ⟨rfl,rfl⟩) tx n _ _ _ (q3x a h.2.2)
 | .two ⟨op,tx,n⟩ a c,h=>by
  rcases q9a h.2.1 with e | e
  all_goals (simp only at e;subst e)
  ·exact v3y tx n _ _ _ _ _ _ (q3x a h.2.2.1) (q3x c h.2.2.2) (z5m a h.2.2.1)
  ·exact v3z tx n _ _ _ _ _ _ (q3x a h.2.2.1) (q3x c h.2.2.2)
end Go.Proofs.YtchdplceopegoaaGreatDoor
