/- Texts as one: LayF3, LayF6, LayF7, LayF9, DocL, LayFZ, DocA, DocB. -/
import Derived.Test.YtchdplceopegoaaGreatDoorPs20
namespace Go.Proofs.YtchdplceopegoaaGreatDoor
open Go Go.RowKit
set_option maxRecDepth 100000
set_option maxHeartbeats 8000000
theorem k4f (k:Nat) {o:Int} (hk:k=0∧o=3∨k=1∧o=5) (tx:ByteArray) (n:Int):z7t (⟨o,tx,n⟩::[]) ([]) (false):=by
 have tg:Tag k:=.mk
 rcases hk with ⟨rfl,rfl⟩ | ⟨rfl,rfl⟩
 all_goals
  intro B b s ds r0 a cap l k w hd hN hsB hsb hc hW hBw hl
  generalize hr:[]++r0=r
  have HR:Hid ([]++r0=r):=hr
  have HRL:Hid (r.length=([]:List Nd).length+r0.length):=(show _=_ by rw [←hr,List.length_append])
  obtain rfl:ds=⟨↑(sel tg (3:Int) 5),tx,n⟩::r:=by rw [hd,←hr];rfl
  clear hd hr
  obtain ⟨o0,ea,c1,c2,c3⟩:=hN 0 (by simp)
  subst ea
  simp only [List.length_cons] at hc hl ⊢
  have HN1:Hid (q0v s w (some ⟨s,o0+3,none⟩) r):=hN.rest
  have HN2:Hid (cap=1→q0v s w (some ⟨s,o0,none⟩) r):=fun h=>by
   have h1:=hN.slid hc
   rw [if_pos h] at h1
   exact h1
  have HW:Hid (Ln B b l k w):=hW
  simp only [Nat.zero_mul,Nat.add_zero,List.getElem_cons_zero] at c1 c2 c3
  have hb0:s<w.heap.size:=by omega
  have hr1:(1:Int)≤(r.length:Int)+1:=by omega
  have HB:Hid (∀ O:Obj,q0i B b w (w.alloc O).drew):=fun O=>q0i.drew ((q0i.refl B b w).alloc hBw O)
  have HK:Hid (∀ O:Obj,Lib.OthersKept 5 (some b) w (w.alloc O).drew):=fun O=>((Lib.OthersKept.refl _ _ w).alloc O).drew
  have HS:Hid (s<B∧s≠b):=⟨hsB,hsb⟩
  clear hN hW hsB hsb
  go_enter Tryz.func242,Tryz.ntmps242
  go_upto_region 1 with fail
  go_cut [0,1,5,6] (fun t _ p q wx=>k0u B b s w.heap.size ⟨↑(sel tg (3:Int) 5),tx,n⟩ r l k w t p q wx)
  case first=>
   go_region
   all_goals (go_wp2_with fail)
   all_goals
    go_meet
    refine ⟨rfl,rfl,⟨_,_,rfl,?_,by omega⟩,by simp [go_sem],by simp [go_sem],by simp [go_sem],IsX.drew (IsX.alloc HW.out _),HB.out _,HK.out _⟩
    first
     | exact HN1.out.kept ((HB.out _).block s HS.out.1 HS.out.2)
     | exact (HN2.out (by assumption)).kept ((HB.out _).block s HS.out.1 HS.out.2)
     | exact (HN2.out rfl).kept ((HB.out _).block s HS.out.1 HS.out.2)
  case rest=>
   obtain ⟨rfl,rfl,⟨a',cap',rfl,hn,hc'⟩,e1,e2,e3,hw,hbw,hkw⟩:=hcut
   dsimp only at e1 e2 e3
   have HN':Hid (q0v s wc a' r):=hn
   have HW':Hid (Ln B b l k wc):=hw
   have HB':Hid (q0i B b w wc):=hbw
   have HK':Hid (Lib.OthersKept 5 (some b) w wc):=hkw
   have hBc:B≤wc.heap.size:=Nat.le_trans hBw hbw.size
   clear hn hw hbw hkw
   go_wp2
   go_ret
   obtain rfl:r0=r:=HR.out
   rw [Bool.or_false,List.append_nil]
   exact ⟨⟨_,_,rfl,HN'.out,hc'⟩,HW'.out,HB'.out,HK'.out⟩
theorem v6y (tx:ByteArray) (n:Int):z7t (⟨4,tx,n⟩::[]) ([]) (true):=by
 intro B b s ds r0 a cap l k w hd hN hsB hsb hc hW hBw hl
 generalize hr:[]++r0=r
 have HR:Hid ([]++r0=r):=hr
 have HRL:Hid (r.length=([]:List Nd).length+r0.length):=(show _=_ by rw [←hr,List.length_append])
 obtain rfl:ds=⟨4,tx,n⟩::r:=by rw [hd,←hr];rfl
 clear hd hr
 obtain ⟨o0,ea,c1,c2,c3⟩:=hN 0 (by simp)
 subst ea
 simp only [List.length_cons] at hc hl ⊢
 have HN1:Hid (q0v s w (some ⟨s,o0+3,none⟩) r):=hN.rest
 have HN2:Hid (cap=1→q0v s w (some ⟨s,o0,none⟩) r):=fun h=>by
  have h1:=hN.slid hc
  rw [if_pos h] at h1
  exact h1
 have HW:Hid (Ln B b l k w):=hW
 simp only [Nat.zero_mul,Nat.add_zero,List.getElem_cons_zero] at c1 c2 c3
 have hb0:s<w.heap.size:=by omega
 have hr1:(1:Int)≤(r.length:Int)+1:=by omega
 have HB:Hid (∀ O:Obj,q0i B b w (w.alloc O).drew):=fun O=>q0i.drew ((q0i.refl B b w).alloc hBw O)
 have HK:Hid (∀ O:Obj,Lib.OthersKept 5 (some b) w (w.alloc O).drew):=fun O=>((Lib.OthersKept.refl _ _ w).alloc O).drew
 have HS:Hid (s<B∧s≠b):=⟨hsB,hsb⟩
 clear hN hW hsB hsb
 go_enter Tryz.func242,Tryz.ntmps242
 go_upto_region 1 with fail
 go_cut [0,1,5,6] (fun t _ p q wx=>k0u B b s w.heap.size ⟨4,tx,n⟩ r l k w t p q wx)
 case first=>
  go_region
  all_goals (go_wp2_with fail)
  all_goals
   go_meet
   refine ⟨rfl,rfl,⟨_,_,rfl,?_,by omega⟩,by simp [go_sem],by simp [go_sem],by simp [go_sem],IsX.drew (IsX.alloc HW.out _),HB.out _,HK.out _⟩
   first
    | exact HN1.out.kept ((HB.out _).block s HS.out.1 HS.out.2)
    | exact (HN2.out (by assumption)).kept ((HB.out _).block s HS.out.1 HS.out.2)
    | exact (HN2.out rfl).kept ((HB.out _).block s HS.out.1 HS.out.2)
 case rest=>
  obtain ⟨rfl,rfl,⟨a',cap',rfl,hn,hc'⟩,e1,e2,e3,hw,hbw,hkw⟩:=hcut
  dsimp only at e1 e2 e3
  have HN':Hid (q0v s wc a' r):=hn
  have HW':Hid (Ln B b l k wc):=hw
  have HB':Hid (q0i B b w wc):=hbw
  have HK':Hid (Lib.OthersKept 5 (some b) w wc):=hkw
  have hBc:B≤wc.heap.size:=Nat.le_trans hBw hbw.size
  clear hn hw hbw hkw
  have g1:=HW'.out.cell
  have g2:=HW'.out.frozen
  go_wp2
  go_ret
  obtain rfl:r0=r:=HR.out
  rw [Bool.or_true,List.append_nil]
  refine ⟨⟨_,_,rfl,HN'.out.kept (Below.heap_setCell _ _ _ _ HS.out.2),hc'⟩,HW'.out.stored true,HB'.out.setCell (.inl rfl) _,HK'.out.setCell _ rfl _⟩
theorem v6z (tx:ByteArray) (n:Int) (A C:List Nd) (tA tC:List UInt8) (kA kC:Bool) (hA:z7t A tA kA) (hC:z7t C tC kC) (htA:tA.length≤20*A.length):z7t (⟨6,tx,n⟩::(A++C)) (tA++tC) (kA || kC):=by
 intro B b s ds r0 a cap l k w hd hN hsB hsb hc hW hBw hl
 generalize hr:(A++C)++r0=r
 have HR:Hid ((A++C)++r0=r):=hr
 have HRL:Hid (r.length=((A++C):List Nd).length+r0.length):=(show _=_ by rw [←hr,List.length_append])
 obtain rfl:ds=⟨6,tx,n⟩::r:=by rw [hd,←hr];rfl
 clear hd hr
 obtain ⟨o0,ea,c1,c2,c3⟩:=hN 0 (by simp)
 subst ea
 simp only [List.length_cons] at hc hl ⊢
 have HN1:Hid (q0v s w (some ⟨s,o0+3,none⟩) r):=hN.rest
 have HN2:Hid (cap=1→q0v s w (some ⟨s,o0,none⟩) r):=fun h=>by
  have h1:=hN.slid hc
  rw [if_pos h] at h1
  exact h1
 have HW:Hid (Ln B b l k w):=hW
 simp only [Nat.zero_mul,Nat.add_zero,List.getElem_cons_zero] at c1 c2 c3
 have hb0:s<w.heap.size:=by omega
 have hr1:(1:Int)≤(r.length:Int)+1:=by omega
 have HB:Hid (∀ O:Obj,q0i B b w (w.alloc O).drew):=fun O=>q0i.drew ((q0i.refl B b w).alloc hBw O)
 have HK:Hid (∀ O:Obj,Lib.OthersKept 5 (some b) w (w.alloc O).drew):=fun O=>((Lib.OthersKept.refl _ _ w).alloc O).drew
 have HS:Hid (s<B∧s≠b):=⟨hsB,hsb⟩
 clear hN hW hsB hsb
 go_enter Tryz.func242,Tryz.ntmps242
 go_upto_region 1 with fail
 go_cut [0,1,5,6] (fun t _ p q wx=>k0u B b s w.heap.size ⟨6,tx,n⟩ r l k w t p q wx)
 case first=>
  go_region
  all_goals (go_wp2_with fail)
  all_goals
   go_meet
   refine ⟨rfl,rfl,⟨_,_,rfl,?_,by omega⟩,by simp [go_sem],by simp [go_sem],by simp [go_sem],IsX.drew (IsX.alloc HW.out _),HB.out _,HK.out _⟩
   first
    | exact HN1.out.kept ((HB.out _).block s HS.out.1 HS.out.2)
    | exact (HN2.out (by assumption)).kept ((HB.out _).block s HS.out.1 HS.out.2)
    | exact (HN2.out rfl).kept ((HB.out _).block s HS.out.1 HS.out.2)
 case rest=>
  obtain ⟨rfl,rfl,⟨a',cap',rfl,hn,hc'⟩,e1,e2,e3,hw,hbw,hkw⟩:=hcut
  dsimp only at e1 e2 e3
  have HN':Hid (q0v s wc a' r):=hn
  have HW':Hid (Ln B b l k wc):=hw
  have HB':Hid (q0i B b w wc):=hbw
  have HK':Hid (Lib.OthersKept 5 (some b) w wc):=hkw
  have hBc:B≤wc.heap.size:=Nat.le_trans hBw hbw.size
  clear hn hw hbw hkw
  rw [List.append_assoc] at HR
  generalize hrc:C++r0=rc at HR
  have HRC:Hid (C++r0=rc):=hrc
  have HLC:Hid (rc.length=C.length+r0.length):=(show _=_ by rw [←hrc,List.length_append])
  have HAC:Hid ((A++C).length=A.length+C.length):=(show _=_ from List.length_append)
  clear hrc
  have HA:Hid (z7t A tA kA):=hA
  have HC:Hid (z7t C tC kC):=hC
  clear hA hC
  go_wp2_with fail
  refine (HA.out B b s r rc _ _ l k _ HR.out.symm HN'.out HS.out.1 HS.out.2 hc' HW'.out hBc (by omega)).mono ?_
  rintro e w3 ⟨⟨a3,cap3,rfl,n3,hc3⟩,h3,hb3,hk3⟩
  have hBw3:B≤w3.heap.size:=Nat.le_trans hBc hb3.size
  go_wp2_with fail
  refine (HC.out B b s rc r0 _ _ _ _ _ HRC.out.symm n3 HS.out.1 HS.out.2 hc3 h3 hBw3 (by have q1:=HRL.out;have q2:=HLC.out;have q3:=HAC.out;simp;omega)).mono ?_
  rintro e w4 ⟨⟨a4,cap4,rfl,n4,hc4⟩,h4,hb4,hk4⟩
  go_wp2
  go_ret
  rw [←Bool.or_assoc,←List.append_assoc]
  exact ⟨⟨_,_,rfl,n4,hc4⟩,h4,HB'.out.trans (hb3.trans hb4),HK'.out.trans (hk3.trans hk4)⟩
theorem k4g (k:Nat) {o:Int} (hk:k=0∧o=7∨k=1∧o=8) (tx:ByteArray) (n:Int) (A:List Nd) (tA:List UInt8) (kA:Bool) (hA:z7t A tA kA):z7t (⟨o,tx,n⟩::A) (tA) (kA):=by
 have tg:Tag k:=.mk
 rcases hk with ⟨rfl,rfl⟩ | ⟨rfl,rfl⟩
 all_goals
  intro B b s ds r0 a cap l k w hd hN hsB hsb hc hW hBw hl
  generalize hr:A++r0=r
  have HR:Hid (A++r0=r):=hr
  have HRL:Hid (r.length=(A:List Nd).length+r0.length):=(show _=_ by rw [←hr,List.length_append])
  obtain rfl:ds=⟨↑(sel tg (7:Int) 8),tx,n⟩::r:=by rw [hd,←hr];rfl
  clear hd hr
  obtain ⟨o0,ea,c1,c2,c3⟩:=hN 0 (by simp)
  subst ea
  simp only [List.length_cons] at hc hl ⊢
  have HN1:Hid (q0v s w (some ⟨s,o0+3,none⟩) r):=hN.rest
  have HN2:Hid (cap=1→q0v s w (some ⟨s,o0,none⟩) r):=fun h=>by
   have h1:=hN.slid hc
   rw [if_pos h] at h1
   exact h1
  have HW:Hid (Ln B b l k w):=hW
  simp only [Nat.zero_mul,Nat.add_zero,List.getElem_cons_zero] at c1 c2 c3
  have hb0:s<w.heap.size:=by omega
  have hr1:(1:Int)≤(r.length:Int)+1:=by omega
  have HB:Hid (∀ O:Obj,q0i B b w (w.alloc O).drew):=fun O=>q0i.drew ((q0i.refl B b w).alloc hBw O)
  have HK:Hid (∀ O:Obj,Lib.OthersKept 5 (some b) w (w.alloc O).drew):=fun O=>((Lib.OthersKept.refl _ _ w).alloc O).drew
  have HS:Hid (s<B∧s≠b):=⟨hsB,hsb⟩
  clear hN hW hsB hsb
  go_enter Tryz.func242,Tryz.ntmps242
  go_upto_region 1 with fail
  go_cut [0,1,5,6] (fun t _ p q wx=>k0u B b s w.heap.size ⟨↑(sel tg (7:Int) 8),tx,n⟩ r l k w t p q wx)
  case first=>
   go_region
   all_goals (go_wp2_with fail)
   all_goals
    go_meet
    refine ⟨rfl,rfl,⟨_,_,rfl,?_,by omega⟩,by simp [go_sem],by simp [go_sem],by simp [go_sem],IsX.drew (IsX.alloc HW.out _),HB.out _,HK.out _⟩
    first
     | exact HN1.out.kept ((HB.out _).block s HS.out.1 HS.out.2)
     | exact (HN2.out (by assumption)).kept ((HB.out _).block s HS.out.1 HS.out.2)
     | exact (HN2.out rfl).kept ((HB.out _).block s HS.out.1 HS.out.2)
  case rest=>
   obtain ⟨rfl,rfl,⟨a',cap',rfl,hn,hc'⟩,e1,e2,e3,hw,hbw,hkw⟩:=hcut
   dsimp only at e1 e2 e3
   have HN':Hid (q0v s wc a' r):=hn
   have HW':Hid (Ln B b l k wc):=hw
   have HB':Hid (q0i B b w wc):=hbw
   have HK':Hid (Lib.OthersKept 5 (some b) w wc):=hkw
   have hBc:B≤wc.heap.size:=Nat.le_trans hBw hbw.size
   clear hn hw hbw hkw
   have HA:Hid (z7t A tA kA):=hA
   clear hA
   go_wp2_with fail
   refine (HA.out B b s r r0 _ _ l k _ HR.out.symm HN'.out HS.out.1 HS.out.2 hc' HW'.out hBc (by omega)).mono ?_
   rintro e w3 ⟨⟨a3,cap3,rfl,n3,hc3⟩,h3,hb3,hk3⟩
   go_wp2
   go_ret
   exact ⟨⟨_,_,rfl,n3,hc3⟩,h3,HB'.out.trans hb3,HK'.out.trans hk3⟩
theorem v7a (tx:ByteArray) (n:Int) (A C:List Nd) (tA tC:List UInt8) (kA kC:Bool) (hA:z7t A tA kA) (hC:z7t C tC kC):z7t (⟨9,tx,n⟩::(A++C)) (tA) (kA):=by
 intro B b s ds r0 a cap l k w hd hN hsB hsb hc hW hBw hl
 generalize hr:(A++C)++r0=r
 have HR:Hid ((A++C)++r0=r):=hr
 have HRL:Hid (r.length=((A++C):List Nd).length+r0.length):=(show _=_ by rw [←hr,List.length_append])
 obtain rfl:ds=⟨9,tx,n⟩::r:=by rw [hd,←hr];rfl
 clear hd hr
 obtain ⟨o0,ea,c1,c2,c3⟩:=hN 0 (by simp)
 subst ea
 simp only [List.length_cons] at hc hl ⊢
 have HN1:Hid (q0v s w (some ⟨s,o0+3,none⟩) r):=hN.rest
 have HN2:Hid (cap=1→q0v s w (some ⟨s,o0,none⟩) r):=fun h=>by
  have h1:=hN.slid hc
  rw [if_pos h] at h1
  exact h1
 have HW:Hid (Ln B b l k w):=hW
 simp only [Nat.zero_mul,Nat.add_zero,List.getElem_cons_zero] at c1 c2 c3
 have hb0:s<w.heap.size:=by omega
 have hr1:(1:Int)≤(r.length:Int)+1:=by omega
 have HB:Hid (∀ O:Obj,q0i B b w (w.alloc O).drew):=fun O=>q0i.drew ((q0i.refl B b w).alloc hBw O)
 have HK:Hid (∀ O:Obj,Lib.OthersKept 5 (some b) w (w.alloc O).drew):=fun O=>((Lib.OthersKept.refl _ _ w).alloc O).drew
 have HS:Hid (s<B∧s≠b):=⟨hsB,hsb⟩
 clear hN hW hsB hsb
 go_enter Tryz.func242,Tryz.ntmps242
 go_upto_region 1 with fail
 go_cut [0,1,5,6] (fun t _ p q wx=>k0u B b s w.heap.size ⟨9,tx,n⟩ r l k w t p q wx)
 case first=>
  go_region
  all_goals (go_wp2_with fail)
  all_goals
   go_meet
   refine ⟨rfl,rfl,⟨_,_,rfl,?_,by omega⟩,by simp [go_sem],by simp [go_sem],by simp [go_sem],IsX.drew (IsX.alloc HW.out _),HB.out _,HK.out _⟩
   first
    | exact HN1.out.kept ((HB.out _).block s HS.out.1 HS.out.2)
    | exact (HN2.out (by assumption)).kept ((HB.out _).block s HS.out.1 HS.out.2)
    | exact (HN2.out rfl).kept ((HB.out _).block s HS.out.1 HS.out.2)
 case rest=>
  obtain ⟨rfl,rfl,⟨a',cap',rfl,hn,hc'⟩,e1,e2,e3,hw,hbw,hkw⟩:=hcut
  dsimp only at e1 e2 e3
  have HN':Hid (q0v s wc a' r):=hn
  have HW':Hid (Ln B b l k wc):=hw
  have HB':Hid (q0i B b w wc):=hbw
  have HK':Hid (Lib.OthersKept 5 (some b) w wc):=hkw
  have hBc:B≤wc.heap.size:=Nat.le_trans hBw hbw.size
  clear hn hw hbw hkw
  rw [List.append_assoc] at HR
  generalize hrc:C++r0=rc at HR
  have HRC:Hid (C++r0=rc):=hrc
  have HLC:Hid (rc.length=C.length+r0.length):=(show _=_ by rw [←hrc,List.length_append])
  have HAC:Hid ((A++C).length=A.length+C.length):=(show _=_ from List.length_append)
  clear hrc
  have HA:Hid (z7t A tA kA):=hA
  have HC:Hid (z7t C tC kC):=hC
  clear hA hC
  go_wp2_with fail
  refine (HA.out B b s r rc _ _ l k _ HR.out.symm (HN'.out.kept (Below.heap_alloc _ _ _ (by have:=HS.out;omega))) HS.out.1 HS.out.2 hc' (IsX.alloc HW'.out _) (by simp;omega) (by omega)).mono ?_
  rintro e w3 ⟨⟨a3,cap3,rfl,n3,hc3⟩,h3,hb3,hk3⟩
  have hbc:b<wc.heap.size:=IsX.lt HW'.out
  have hx:=hk3 wc.heap.size _ (heap_alloc_new wc _) (by simp;omega) (by intro c fz h;cases h)
  have hsz:=hb3.size
  have hsz2:wc.heap.size+1≤w3.heap.size:=by simpa using hsz
  have HX:Hid (w3.heap[wc.heap.size]? = _):=hx
  clear hsz hx
  go_wp2_with fail
  refine (HC.out w3.heap.size wc.heap.size s rc r0 _ _ [] false _ HRC.out.symm n3 (by have:=HS.out;omega) (by have:=HS.out;omega) hc3 (IsX.unused _ _ _ _ _ HX.out) (Nat.le_refl _) (by have q1:=HRL.out;have q2:=HLC.out;have q3:=HAC.out;simp;omega)).mono ?_
  rintro e w4 ⟨⟨a4,cap4,rfl,n4,hc4⟩,h4,hb4,hk4⟩
  go_wp2
  go_ret
  refine ⟨⟨_,_,rfl,n4,hc4⟩,IsX.far h3 hb4 (by omega) HX.out (by decide),(HB'.out.trans (((q0i.refl _ _ _).alloc hBc _).trans hb3)).trans (hb4.weak (by omega) hBc),?_⟩
  exact j8x (HK'.out.trans (((Lib.OthersKept.refl _ _ _).alloc _).trans hk3)) hk4 HB'.out.size
theorem j8w {s:ByteArray} (h1:1≤s.size) (h2:s.size≤20) (h:∀ k (h:k<s.size),q4u s[k]=true):isW s=true:=by
 simp only [isW,h1,h2,decide_true,Bool.true_and,List.all_eq_true]
 intro b hb
 obtain ⟨i,hi,rfl⟩:=List.getElem_of_mem hb
 exact h i (by rw [←q0y];exact hi)
theorem v6h {s:ByteArray} {k:Nat} (h:k<s.size) (hb:q4u s[k]=false):isW s=false:=by
 cases e:isW s with
 | false=>rfl
 | true=>
  simp only [isW,Bool.and_eq_true,List.all_eq_true] at e
  have:=e.2 s[k] (by
   have:k<s.data.toList.length:=by rw [q0y];exact h
   exact List.getElem_mem this)
  rw [hb] at this
  cases this
theorem k2v {b:UInt8} (h:q4u b=false):(b.toNat:Int)<32∨(¬ (b.toNat:Int)<32∧126<(b.toNat:Int)):=by
 simp [q4u] at h
 omega
theorem k7t {b:UInt8} (h:q4u b=true):¬ (b.toNat:Int)<32∧¬ 126<(b.toNat:Int):=by
 simp [q4u] at h
 omega
theorem j4n {s:ByteArray} (h:s.size≠0):¬ s.toList=[]:=by
 rw [ByteArray.toList_eq]
 intro e
 have:=q0y s
 rw [e] at this
 exact h this.symm
theorem y6o {op:Int} (h1:¬ op<1) (h2:¬ 9<op):op=1∨op=2∨op=3∨op=4∨op=5∨op=6∨op=7∨op=8∨op=9:=by omega
theorem j0f {ds:List Nd} (h:400<ds.length):q2n ds=3:=by rw [q2n,if_pos h]
theorem j0g {ds:List Nd} {k:Nat} (hl:ds.length≤400) (hk:k<ds.length) (ha:∀ x∈ds.take k,q0r x=0) (h:q0r ds[k]≠0):q2n ds=q0r ds[k]:=by
 have e:=z8q ds k hk ha h
 rw [q2n,if_neg (by omega),if_neg (by rw [e];exact h),e]
theorem j8c {ds:List Nd} (hl:ds.length≤400) (ha:∀ x∈ds,q0r x=0):q2n ds=if q1k ds 0 1=some ds.length then 0 else 2:=by
 rw [q2n,if_neg (by omega),if_pos (z0q ds ha)]
theorem v1g {ds:List Nd} {k:Nat} (h:¬ k<ds.length) (ha:∀ x∈ds.take k,q0r x=0):∀ x∈ds,q0r x=0:=by
 rw [List.take_of_length_le (by omega)] at ha;exact ha
theorem j5c {ds:List Nd} {k:Nat} (h:k<ds.length) (ha:∀ x∈ds.take k,q0r x=0) (h0:q0r ds[k]=0):∀ x∈ds.take (k+1),q0r x=0:=by
 intro x hx
 rw [List.take_succ_eq_append_getElem h] at hx
 rcases List.mem_append.1 hx with hx | hx
 ·exact ha x hx
 ·simp at hx;subst hx;exact h0
def Tr.laid:Tr→List UInt8
 | .leaf x=>if x.op=1 then x.tx.data.toList else if x.op=2 then [32] else []
 | .one _ a=>a.laid
 | .two x a b=>if x.op=6 then a.laid++b.laid else a.laid
def Tr.brk:Tr→Bool
 | .leaf x=>decide (x.op=4)
 | .one _ a=>a.brk
 | .two x a b=>if x.op=6 then a.brk || b.brk else a.brk
theorem q6l:∀ t:Tr,t.flat=(if t.brk=true then none else some t.laid)
 | .leaf x=>by
  simp only [Tr.flat,Tr.brk,Tr.laid]
  by_cases h1:x.op=1
  ·simp [h1]
  ·by_cases h2:x.op=2
   ·simp [h2]
   ·by_cases h4:x.op=4
    ·simp [h4]
    ·simp [h1,h2,h4]
 | .one _ a=>q6l a
 | .two x a b=>by
  have h1:=q6l a
  have h2:=q6l b
  simp only [Tr.flat,Tr.brk,Tr.laid]
  split
  ·rw [h1,h2]
   cases a.brk<;>cases b.brk<;>simp
  ·exact h1
theorem z6m:∀ t:Tr,t.Wf→t.laid.length≤20*t.nodes.length
 | .leaf x,h=>by
  obtain ⟨_,_,_,_,h5,_⟩:=q1r h.1
  simp only [Tr.laid,Tr.nodes]
  split
  ·rename_i h1
   have:=q3x (h5 h1)
   have e:=q0y x.tx
   simp only [List.length_cons,List.length_nil]
   omega
  ·split<;>simp
 | .one x a,h=>by
  have:=z6m a h.2.2
  simp only [Tr.laid,Tr.nodes,List.length_cons]
  omega
 | .two x a b,h=>by
  have h1:=z6m a h.2.2.1
  have h2:=z6m b h.2.2.2
  simp only [Tr.laid,Tr.nodes,List.length_cons,List.length_append]
  split
  ·rw [List.length_append];omega
  ·omega
theorem j1s {t:Tr} (h:t.brk=false):t.isFlat=true∧t.line=⟨t.laid.toArray⟩:=by
 have:=q6l t
 rw [h] at this
 constructor
 ·rw [Tr.isFlat,this];rfl
 ·rw [Tr.line,this];rfl
theorem j1t {t:Tr} (h:t.brk=true):t.isFlat=false∧t.line=⟨#[]⟩:=by
 have:=q6l t
 rw [h] at this
 constructor
 ·rw [Tr.isFlat,this];rfl
 ·rw [Tr.line,this];rfl
theorem q4d:∀ t:Tr,t.Wf→z7t t.nodes t.laid t.brk
 | .leaf ⟨op,tx,n⟩,h=>by
  obtain ⟨_,_,_,_,h5,_⟩:=q1r h.1
  rcases q4r h.1 h.2 with e | e | e | e | e
  all_goals (simp only at e;subst e)
  ·exact v6w tx n (q3x (h5 rfl)).2
  ·exact v6x tx n
  ·exact k4f 0 (.inl ⟨rfl,rfl⟩) tx n
  ·exact v6y tx n
  ·exact k4f 1 (.inr ⟨rfl,rfl⟩) tx n
 | .one ⟨op,tx,n⟩ a,h=>by
  rcases z1n h.2.1 with e | e
  all_goals (simp only at e;subst e)
  ·exact k4g 0 (.inl ⟨rfl,rfl⟩) tx n _ _ _ (q4d a h.2.2)
  ·exact k4g 1 (.inr ⟨rfl,rfl⟩) tx n _ _ _ (q4d a h.2.2)
 | .two ⟨op,tx,n⟩ a c,h=>by
  rcases z0b h.2.1 with e | e
  all_goals (simp only at e;subst e)
  ·exact v6z tx n _ _ _ _ _ _ (q4d a h.2.2.1) (q4d c h.2.2.2) (z6m a h.2.2.1)
  ·exact v7a tx n _ _ _ _ _ _ (q4d a h.2.2.1) (q4d c h.2.2.2)
theorem k6b (op:Int) (w:World):Calls Tryz.prog 191 #[.int .i64 op] w fun e w'=>e = .returned (.int .i64 (pts op))∧w=w':=by
 by_cases h6:op=6
 ·subst h6
  go_enter Tryz.func191,Tryz.ntmps191
  go_wp2
  go_ret
  exact ⟨rfl,rfl⟩
 by_cases h9:op=9
 ·subst h9
  go_enter Tryz.func191,Tryz.ntmps191
  go_wp2
  go_ret
  exact ⟨rfl,rfl⟩
 by_cases h7:op=7
 ·subst h7
  go_enter Tryz.func191,Tryz.ntmps191
  go_wp2
  go_ret
  exact ⟨rfl,rfl⟩
 by_cases h8:op=8
 ·subst h8
  go_enter Tryz.func191,Tryz.ntmps191
  go_wp2
  go_ret
  exact ⟨rfl,rfl⟩
 have e:pts op=0:=by simp [pts,h6,h7,h8,h9]
 rw [e]
 have g6:(op == 6)=false:=by simp [h6]
 have g7:(op == 7)=false:=by simp [h7]
 have g8:(op == 8)=false:=by simp [h8]
 have g9:(op == 9)=false:=by simp [h9]
 clear e h6 h7 h8 h9
 go_enter Tryz.func191,Tryz.ntmps191
 go_wp2
 go_ret
 exact ⟨rfl,rfl⟩
theorem z4u (s:ByteArray) (w:World):Calls Tryz.prog 190 #[.string s] w fun e w'=>e = .returned (.bool (isW s))∧w=w':=by
 by_cases h1:(s.size:Int)<1
 ·have e:isW s=false:=by simp [isW];omega
  rw [e]
  clear e
  go_enter Tryz.func190,Tryz.ntmps190
  go_wp2
  go_ret
  exact ⟨rfl,rfl⟩
 by_cases h2:20<(s.size:Int)
 ·have e:isW s=false:=by simp [isW];omega
  rw [e]
  clear e
  go_enter Tryz.func190,Tryz.ntmps190
  go_wp2
  go_ret
  exact ⟨rfl,rfl⟩
 go_enter Tryz.func190,Tryz.ntmps190
 go_wp2
 go_loopw [14] (fun i wr=>wr=w∧∃ k:Nat,k≤s.size∧i = .int .i64 k∧∀ j (h:j<s.size),j<k→q4u s[j]=true) (fun i _=>s.size - (intOf i).toNat)
 case atStart=>exact ⟨rfl,0,Nat.zero_le _,rfl,fun j _ hj=>by omega⟩
 case round=>
  obtain ⟨rfl,k,hk,rfl,hall⟩:=hrel
  have HA:Hid (∀ j (h:j<s.size),j<k→q4u s[j]=true):=hall
  clear hall
  by_cases hlt:k<s.size
  ·cases hb:q4u s[k] with
   | false=>
    have HE:Hid (isW s=false):=v6h hlt hb
    have hc:=k2v hb
    clear hb
    rcases hc with hc | ⟨hc,hd⟩
    ·go_wp2
     go_ret
     exact ⟨by rw [HE.out];rfl,rfl⟩
    ·go_wp2
     go_ret
     exact ⟨by rw [HE.out];rfl,rfl⟩
   | true=>
    have HB:Hid (q4u s[k]=true):=hb
    obtain ⟨hc,hd⟩:=k7t hb
    clear hb
    go_wp2
    go_roundw
    case rel=>
     refine ⟨by trivial,k+1,by omega,by go_num,?_⟩
     intro j h hj
     by_cases hjk:j=k
     ·subst hjk;exact HB.out
     ·exact HA.out j h (by omega)
    case measure=>simp [intOf];omega
  ·have HE:Hid (isW s=true):=j8w (by omega) (by omega) fun j h=>HA.out j h (by omega)
   go_wp2
   go_ret
   exact ⟨by rw [HE.out];rfl,rfl⟩
theorem q8y (x:Nd) (w:World):Calls Tryz.prog 159 #[y6m x] w fun e w'=>e = .returned (q1f (q0r x))∧Below w.heap.size w w':=by
 obtain ⟨op,tx,n⟩:=x
 by_cases h1:op<1
 ·have e:q0r ⟨op,tx,n⟩=1:=by simp [q0r,h1]
  rw [e,z4o]
  clear e
  go_enter Tryz.func159,Tryz.ntmps159
  go_wp2
  go_ret
  exact ⟨rfl,(Below.refl _ _).alloc (Nat.le_refl _) _⟩
 by_cases h2:9<op
 ·have e:q0r ⟨op,tx,n⟩=1:=by simp [q0r,h2]
  rw [e,z4o]
  clear e
  go_enter Tryz.func159,Tryz.ntmps159
  go_wp2
  go_ret
  exact ⟨rfl,(Below.refl _ _).alloc (Nat.le_refl _) _⟩
 rcases y6o h1 h2 with rfl | rfl | rfl | rfl | rfl | rfl | rfl | rfl | rfl
 case inl=>
  clear h1 h2
  by_cases hn:n=0
  ·subst hn
   cases hw:isW tx with
   | false=>
    have e:q0r ⟨1,tx,0⟩=5:=by simp [q0r,hw]
    rw [e,v2s]
    clear e
    go_enter Tryz.func159,Tryz.ntmps159
    go_wp2_with (go_at_call 190;refine (z4u _ _).mono ?_;rintro e w' ⟨rfl,rfl⟩)
    go_ret
    exact ⟨rfl,(Below.refl _ _).alloc (Nat.le_refl _) _⟩
   | true=>
    have e:q0r ⟨1,tx,0⟩=0:=by simp [q0r,hw]
    rw [e,q0q]
    clear e
    go_enter Tryz.func159,Tryz.ntmps159
    go_wp2_with (go_at_call 190;refine (z4u _ _).mono ?_;rintro e w' ⟨rfl,rfl⟩)
    go_ret
    exact ⟨rfl,(Below.refl _ _).alloc (Nat.le_refl _) _⟩
  ·have e:q0r ⟨1,tx,n⟩=2:=by simp [q0r,hn]
   rw [e,z8n]
   have hn':(n != 0)=true:=by simp [hn]
   clear e hn
   go_enter Tryz.func159,Tryz.ntmps159
   go_wp2
   go_ret
   exact ⟨rfl,(Below.refl _ _).alloc (Nat.le_refl _) _⟩
 case inr.inr.inr.inr.inr.inr.inl=>
  clear h1 h2
  by_cases hs:tx.size=0
  ·obtain rfl:=z9y hs
   by_cases hn:n<0
   ·have e:q0r ⟨7,⟨#[]⟩,n⟩=1:=by simp [q0r,hn,hs]
    rw [e,z4o]
    clear e hs
    go_enter Tryz.func159,Tryz.ntmps159
    go_wp2
    go_ret
    exact ⟨rfl,(Below.refl _ _).alloc (Nat.le_refl _) _⟩
   by_cases hm:8<n
   ·have e:q0r ⟨7,⟨#[]⟩,n⟩=1:=by simp [q0r,hm,hs]
    rw [e,z4o]
    clear e hs
    go_enter Tryz.func159,Tryz.ntmps159
    go_wp2
    go_ret
    exact ⟨rfl,(Below.refl _ _).alloc (Nat.le_refl _) _⟩
   have e:q0r ⟨7,⟨#[]⟩,n⟩=0:=by simp [q0r,hn,hm,hs]
   rw [e,q0q]
   clear e hs
   go_enter Tryz.func159,Tryz.ntmps159
   go_wp2
   go_ret
   exact ⟨rfl,(Below.refl _ _).alloc (Nat.le_refl _) _⟩
  ·have e:q0r ⟨7,tx,n⟩=2:=by simp [q0r,hs]
   rw [e,z8n]
   have hs':=j4n hs
   clear e hs
   go_enter Tryz.func159,Tryz.ntmps159
   go_wp2
   go_ret
   exact ⟨rfl,(Below.refl _ _).alloc (Nat.le_refl _) _⟩
 all_goals
  clear h1 h2
  by_cases hs:tx.size=0
  ·obtain rfl:=z9y hs
   by_cases hn:n=0
   ·subst hn
    rw [show ∀ k:Int,k=0→q1f k = .nilIface from fun k hk=>by rw [hk];rfl]
    ·clear hs
     go_enter Tryz.func159,Tryz.ntmps159
     go_wp2
     go_ret
     exact ⟨rfl,(Below.refl _ _).alloc (Nat.le_refl _) _⟩
    ·simp [q0r,hs]
   ·have hn':(n != 0)=true:=by simp [hn]
    rw [show ∀ k:Int,k=2→q1f k = .iface 24 (.int .i64 2) from fun k hk=>by rw [hk];rfl]
    ·clear hs hn
     go_enter Tryz.func159,Tryz.ntmps159
     go_wp2
     go_ret
     exact ⟨rfl,(Below.refl _ _).alloc (Nat.le_refl _) _⟩
    ·simp [q0r,hn]
  ·have hs':=j4n hs
   rw [show ∀ k:Int,k=2→q1f k = .iface 24 (.int .i64 2) from fun k hk=>by rw [hk];rfl]
   ·clear hs
    go_enter Tryz.func159,Tryz.ntmps159
    go_wp2
    go_ret
    exact ⟨rfl,(Below.refl _ _).alloc (Nat.le_refl _) _⟩
   ·simp [q0r,hs]
theorem z4n (ds:List Nd) (a:Option Addr) (cap i0:Nat) (w:World) (hN:q2y w a ds) (hl:ds.length≤400) (hi:i0≤ds.length) :
  Calls Tryz.prog 160 #[.slice a ds.length cap,.int .i64 i0] w fun e w'=>((∃ j:Nat,q1k ds i0 1=some j∧e = .returned (.tuple #[.int .i64 j,.bool true]))∨(q1k ds i0 1=none∧e = .returned (.tuple #[.int .i64 ds.length,.bool false])))∧w=w':=by
 have HN:Hid (q2y w a ds):=hN
 clear hN
 go_enter Tryz.func160,Tryz.ntmps160
 go_wp2
 go_loopw [1,6] (fun i m wr=>wr=w∧∃ k q:Nat,k≤ds.length∧q≤k+1∧i = .int .i64 k∧m = .int .i64 q∧q1k ds i0 1=q1k ds k q) (fun i _ _=>ds.length - (intOf i).toNat)
 case atStart=>exact ⟨rfl,i0,1,hi,by omega,rfl,rfl,rfl⟩
 case round=>
  obtain ⟨rfl,k,q,hk,hq,rfl,rfl,he⟩:=hrel
  have HE:Hid (q1k ds i0 1=q1k ds k q):=he
  clear he
  by_cases h0:q=0
  ·subst h0
   have HE':Hid (q1k ds i0 1=some k):=HE.out.trans (k6f _ _)
   go_wp2
   go_ret2
   exact ⟨.inl ⟨k,HE'.out,rfl⟩,rfl⟩
  ·obtain ⟨q',rfl⟩:∃ q',q=q'+1:=⟨q - 1,by omega⟩
   by_cases hlt:k<ds.length
   ·obtain ⟨b,o,ea,hb,c1,c2,c3⟩:=HN.out k hlt
    have HS:Hid (q1k ds i0 1=q1k ds (k+1) (pts ds[k].op+q')):=HE.out.trans (k6d _ _ _ hlt)
    have hp:=v3s ds[k].op
    subst ea
    clear c2 c3 h0
    go_wp2_with (go_at_call 191;refine (k6b _ _).mono ?_;rintro e w' ⟨rfl,rfl⟩)
    go_roundw
    case rel=>
     exact ⟨by trivial,k+1,pts ds[k].op+q',by omega,by omega,by go_num,by go_num,HS.out⟩
    case measure=>simp [intOf];omega
   ·have hkk:k=ds.length:=by omega
    subst hkk
    have HE':Hid (q1k ds i0 1=none):=HE.out.trans (j0l _ _ _ (by omega))
    go_wp2
    go_ret2
    exact ⟨.inr ⟨HE'.out,rfl⟩,rfl⟩
theorem z2x {ds:List Nd} {i0 j:Nat} (a:Option Addr) (cap:Nat) (w:World) (hN:q2y w a ds) (hl:ds.length≤400) (hi:i0≤ds.length) (h:q1k ds i0 1=some j) :
  Calls Tryz.prog 160 #[.slice a ds.length cap,.int .i64 i0] w fun e w'=>e = .returned (.tuple #[.int .i64 j,.bool true])∧w=w':=
 (z4n ds a cap i0 w hN hl hi).mono fun e w' ⟨h1,h2⟩=>⟨by
  rcases h1 with ⟨j',e1,e2⟩ | ⟨e1,_⟩
  ·rw [h] at e1;cases e1;exact e2
  ·rw [h] at e1;(cases e1),h2⟩
theorem k1g {ds:List Nd} {i0:Nat} (a:Option Addr) (cap:Nat) (w:World) (hN:q2y w a ds) (hl:ds.length≤400) (hi:i0≤ds.length) (h:q1k ds i0 1=none) :
  Calls Tryz.prog 160 #[.slice a ds.length cap,.int .i64 i0] w fun e w'=>e = .returned (.tuple #[.int .i64 ds.length,.bool false])∧w=w':=
 (z4n ds a cap i0 w hN hl hi).mono fun e w' ⟨h1,h2⟩=>⟨by
  rcases h1 with ⟨j',e1,e2⟩ | ⟨_,e2⟩
  ·rw [h] at e1;cases e1
  ·exact e2,h2⟩
end Go.Proofs.YtchdplceopegoaaGreatDoor
