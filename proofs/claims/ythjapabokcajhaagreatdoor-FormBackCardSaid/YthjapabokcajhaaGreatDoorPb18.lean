/- Texts as one: LayF3, LayF6, LayF7, LayF9, DocL, LayFZ, DocA, DocB. -/
import Derived.Test.YthjapabokcajhaaGreatDoorPb17
import Derived.Test.YthjapabokcajhaaGreatDoorPb06
namespace Go.Proofs.YthjapabokcajhaaGreatDoor
open Go Go.RowKit
set_option maxRecDepth 100000
set_option maxHeartbeats 4000000
theorem v5z (tx:ByteArray) (n:Int):z3y (⟨3,tx,n⟩::[]) ([]) (false):=by
 intro B b s ds r0 a cap l k w hd hN hsB hsb hc hW hBw hl
 generalize hr:[]++r0=r
 have HR:Hid ([]++r0=r):=hr
 have HRL:Hid (r.length=([]:List Nd).length+r0.length):=(show _=_ by rw [←hr,List.length_append])
 obtain rfl:ds=⟨3,tx,n⟩::r:=by rw [hd,←hr];rfl
 clear hd hr
 obtain ⟨o0,ea,c1,c2,c3⟩:=hN 0 (by simp)
 subst ea
 simp only [List.length_cons] at hc hl ⊢
 have HN1:Hid (q0s s w (some ⟨s,o0+3,none⟩) r):=hN.rest
 have HN2:Hid (cap=1→q0s s w (some ⟨s,o0,none⟩) r):=fun h=>by
  have h1:=hN.slid hc
  rw [if_pos h] at h1
  exact h1
 have HW:Hid (Ln B b l k w):=hW
 simp only [Nat.zero_mul,Nat.add_zero,List.getElem_cons_zero] at c1 c2 c3
 have hb0:s<w.heap.size:=by omega
 have hr1:(1:Int)≤(r.length:Int)+1:=by omega
 have HB:Hid (∀ O:Obj,q0j B b w (w.alloc O).drew):=fun O=>q0j.drew ((q0j.refl B b w).alloc hBw O)
 have HK:Hid (∀ O:Obj,Lib.OthersKept 5 (some b) w (w.alloc O).drew):=fun O=>((Lib.OthersKept.refl _ _ w).alloc O).drew
 have HS:Hid (s<B∧s≠b):=⟨hsB,hsb⟩
 clear hN hW hsB hsb
 go_enter Tryz.func211,Tryz.ntmps211
 go_upto_region 1 with fail
 go_cut [0,1,5,6] (fun t _ p q wx=>z5m B b s w.heap.size ⟨3,tx,n⟩ r l k w t p q wx)
 case first=>
  go_region
  all_goals (go_wp2_with fail)
  all_goals
   go_meet
   refine ⟨rfl,rfl,⟨_,_,rfl,?_,by omega⟩,by simp [go_sem],by simp [go_sem],by simp [go_sem],IsX.drew (IsX.alloc HW.out _),HB.out _,HK.out _⟩
   first
    | exact HN1.out.kept ((HB.out _).block s HS.out.1 HS.out.2)
    | exact (HN2.out (by assumption)).kept ((HB.out _).block s HS.out.1 HS.out.2)
    | exact (HN2.out rfl).kept ((HB.out _).block s HS.out.1 HS.out.2)
 case rest=>
  obtain ⟨rfl,rfl,⟨a',cap',rfl,hn,hc'⟩,e1,e2,e3,hw,hbw,hkw⟩:=hcut
  dsimp only at e1 e2 e3
  have HN':Hid (q0s s wc a' r):=hn
  have HW':Hid (Ln B b l k wc):=hw
  have HB':Hid (q0j B b w wc):=hbw
  have HK':Hid (Lib.OthersKept 5 (some b) w wc):=hkw
  have hBc:B≤wc.heap.size:=Nat.le_trans hBw hbw.size
  clear hn hw hbw hkw
  go_wp2
  go_ret
  obtain rfl:r0=r:=HR.out
  rw [Bool.or_false,List.append_nil]
  exact ⟨⟨_,_,rfl,HN'.out,hc'⟩,HW'.out,HB'.out,HK'.out⟩
theorem v6b (tx:ByteArray) (n:Int):z3y (⟨5,tx,n⟩::[]) ([]) (false):=by
 intro B b s ds r0 a cap l k w hd hN hsB hsb hc hW hBw hl
 generalize hr:[]++r0=r
 have HR:Hid ([]++r0=r):=hr
 have HRL:Hid (r.length=([]:List Nd).length+r0.length):=(show _=_ by rw [←hr,List.length_append])
 obtain rfl:ds=⟨5,tx,n⟩::r:=by rw [hd,←hr];rfl
 clear hd hr
 obtain ⟨o0,ea,c1,c2,c3⟩:=hN 0 (by simp)
 subst ea
 simp only [List.length_cons] at hc hl ⊢
 have HN1:Hid (q0s s w (some ⟨s,o0+3,none⟩) r):=hN.rest
 have HN2:Hid (cap=1→q0s s w (some ⟨s,o0,none⟩) r):=fun h=>by
  have h1:=hN.slid hc
  rw [if_pos h] at h1
  exact h1
 have HW:Hid (Ln B b l k w):=hW
 simp only [Nat.zero_mul,Nat.add_zero,List.getElem_cons_zero] at c1 c2 c3
 have hb0:s<w.heap.size:=by omega
 have hr1:(1:Int)≤(r.length:Int)+1:=by omega
 have HB:Hid (∀ O:Obj,q0j B b w (w.alloc O).drew):=fun O=>q0j.drew ((q0j.refl B b w).alloc hBw O)
 have HK:Hid (∀ O:Obj,Lib.OthersKept 5 (some b) w (w.alloc O).drew):=fun O=>((Lib.OthersKept.refl _ _ w).alloc O).drew
 have HS:Hid (s<B∧s≠b):=⟨hsB,hsb⟩
 clear hN hW hsB hsb
 go_enter Tryz.func211,Tryz.ntmps211
 go_upto_region 1 with fail
 go_cut [0,1,5,6] (fun t _ p q wx=>z5m B b s w.heap.size ⟨5,tx,n⟩ r l k w t p q wx)
 case first=>
  go_region
  all_goals (go_wp2_with fail)
  all_goals
   go_meet
   refine ⟨rfl,rfl,⟨_,_,rfl,?_,by omega⟩,by simp [go_sem],by simp [go_sem],by simp [go_sem],IsX.drew (IsX.alloc HW.out _),HB.out _,HK.out _⟩
   first
    | exact HN1.out.kept ((HB.out _).block s HS.out.1 HS.out.2)
    | exact (HN2.out (by assumption)).kept ((HB.out _).block s HS.out.1 HS.out.2)
    | exact (HN2.out rfl).kept ((HB.out _).block s HS.out.1 HS.out.2)
 case rest=>
  obtain ⟨rfl,rfl,⟨a',cap',rfl,hn,hc'⟩,e1,e2,e3,hw,hbw,hkw⟩:=hcut
  dsimp only at e1 e2 e3
  have HN':Hid (q0s s wc a' r):=hn
  have HW':Hid (Ln B b l k wc):=hw
  have HB':Hid (q0j B b w wc):=hbw
  have HK':Hid (Lib.OthersKept 5 (some b) w wc):=hkw
  have hBc:B≤wc.heap.size:=Nat.le_trans hBw hbw.size
  clear hn hw hbw hkw
  go_wp2
  go_ret
  obtain rfl:r0=r:=HR.out
  rw [Bool.or_false,List.append_nil]
  exact ⟨⟨_,_,rfl,HN'.out,hc'⟩,HW'.out,HB'.out,HK'.out⟩
theorem v6a (tx:ByteArray) (n:Int):z3y (⟨4,tx,n⟩::[]) ([]) (true):=by
 intro B b s ds r0 a cap l k w hd hN hsB hsb hc hW hBw hl
 generalize hr:[]++r0=r
 have HR:Hid ([]++r0=r):=hr
 have HRL:Hid (r.length=([]:List Nd).length+r0.length):=(show _=_ by rw [←hr,List.length_append])
 obtain rfl:ds=⟨4,tx,n⟩::r:=by rw [hd,←hr];rfl
 clear hd hr
 obtain ⟨o0,ea,c1,c2,c3⟩:=hN 0 (by simp)
 subst ea
 simp only [List.length_cons] at hc hl ⊢
 have HN1:Hid (q0s s w (some ⟨s,o0+3,none⟩) r):=hN.rest
 have HN2:Hid (cap=1→q0s s w (some ⟨s,o0,none⟩) r):=fun h=>by
  have h1:=hN.slid hc
  rw [if_pos h] at h1
  exact h1
 have HW:Hid (Ln B b l k w):=hW
 simp only [Nat.zero_mul,Nat.add_zero,List.getElem_cons_zero] at c1 c2 c3
 have hb0:s<w.heap.size:=by omega
 have hr1:(1:Int)≤(r.length:Int)+1:=by omega
 have HB:Hid (∀ O:Obj,q0j B b w (w.alloc O).drew):=fun O=>q0j.drew ((q0j.refl B b w).alloc hBw O)
 have HK:Hid (∀ O:Obj,Lib.OthersKept 5 (some b) w (w.alloc O).drew):=fun O=>((Lib.OthersKept.refl _ _ w).alloc O).drew
 have HS:Hid (s<B∧s≠b):=⟨hsB,hsb⟩
 clear hN hW hsB hsb
 go_enter Tryz.func211,Tryz.ntmps211
 go_upto_region 1 with fail
 go_cut [0,1,5,6] (fun t _ p q wx=>z5m B b s w.heap.size ⟨4,tx,n⟩ r l k w t p q wx)
 case first=>
  go_region
  all_goals (go_wp2_with fail)
  all_goals
   go_meet
   refine ⟨rfl,rfl,⟨_,_,rfl,?_,by omega⟩,by simp [go_sem],by simp [go_sem],by simp [go_sem],IsX.drew (IsX.alloc HW.out _),HB.out _,HK.out _⟩
   first
    | exact HN1.out.kept ((HB.out _).block s HS.out.1 HS.out.2)
    | exact (HN2.out (by assumption)).kept ((HB.out _).block s HS.out.1 HS.out.2)
    | exact (HN2.out rfl).kept ((HB.out _).block s HS.out.1 HS.out.2)
 case rest=>
  obtain ⟨rfl,rfl,⟨a',cap',rfl,hn,hc'⟩,e1,e2,e3,hw,hbw,hkw⟩:=hcut
  dsimp only at e1 e2 e3
  have HN':Hid (q0s s wc a' r):=hn
  have HW':Hid (Ln B b l k wc):=hw
  have HB':Hid (q0j B b w wc):=hbw
  have HK':Hid (Lib.OthersKept 5 (some b) w wc):=hkw
  have hBc:B≤wc.heap.size:=Nat.le_trans hBw hbw.size
  clear hn hw hbw hkw
  have g1:=HW'.out.cell
  have g2:=HW'.out.frozen
  go_wp2
  go_ret
  obtain rfl:r0=r:=HR.out
  rw [Bool.or_true,List.append_nil]
  refine ⟨⟨_,_,rfl,HN'.out.kept (Below.heap_setCell _ _ _ _ HS.out.2),hc'⟩,HW'.out.stored true,HB'.out.setCell (.inl rfl) _,HK'.out.setCell _ rfl _⟩
end Go.Proofs.YthjapabokcajhaaGreatDoor
namespace Go.Proofs.YthjapabokcajhaaGreatDoor
open Go Go.RowKit
set_option maxRecDepth 100000
set_option maxHeartbeats 4000000
theorem v6c (tx:ByteArray) (n:Int) (A C:List Nd) (tA tC:List UInt8) (kA kC:Bool) (hA:z3y A tA kA) (hC:z3y C tC kC) (htA:tA.length≤20*A.length):z3y (⟨6,tx,n⟩::(A++C)) (tA++tC) (kA || kC):=by
 intro B b s ds r0 a cap l k w hd hN hsB hsb hc hW hBw hl
 generalize hr:(A++C)++r0=r
 have HR:Hid ((A++C)++r0=r):=hr
 have HRL:Hid (r.length=((A++C):List Nd).length+r0.length):=(show _=_ by rw [←hr,List.length_append])
 obtain rfl:ds=⟨6,tx,n⟩::r:=by rw [hd,←hr];rfl
 clear hd hr
 obtain ⟨o0,ea,c1,c2,c3⟩:=hN 0 (by simp)
 subst ea
 simp only [List.length_cons] at hc hl ⊢
 have HN1:Hid (q0s s w (some ⟨s,o0+3,none⟩) r):=hN.rest
 have HN2:Hid (cap=1→q0s s w (some ⟨s,o0,none⟩) r):=fun h=>by
  have h1:=hN.slid hc
  rw [if_pos h] at h1
  exact h1
 have HW:Hid (Ln B b l k w):=hW
 simp only [Nat.zero_mul,Nat.add_zero,List.getElem_cons_zero] at c1 c2 c3
 have hb0:s<w.heap.size:=by omega
 have hr1:(1:Int)≤(r.length:Int)+1:=by omega
 have HB:Hid (∀ O:Obj,q0j B b w (w.alloc O).drew):=fun O=>q0j.drew ((q0j.refl B b w).alloc hBw O)
 have HK:Hid (∀ O:Obj,Lib.OthersKept 5 (some b) w (w.alloc O).drew):=fun O=>((Lib.OthersKept.refl _ _ w).alloc O).drew
 have HS:Hid (s<B∧s≠b):=⟨hsB,hsb⟩
 clear hN hW hsB hsb
 go_enter Tryz.func211,Tryz.ntmps211
 go_upto_region 1 with fail
 go_cut [0,1,5,6] (fun t _ p q wx=>z5m B b s w.heap.size ⟨6,tx,n⟩ r l k w t p q wx)
 case first=>
  go_region
  all_goals (go_wp2_with fail)
  all_goals
   go_meet
   refine ⟨rfl,rfl,⟨_,_,rfl,?_,by omega⟩,by simp [go_sem],by simp [go_sem],by simp [go_sem],IsX.drew (IsX.alloc HW.out _),HB.out _,HK.out _⟩
   first
    | exact HN1.out.kept ((HB.out _).block s HS.out.1 HS.out.2)
    | exact (HN2.out (by assumption)).kept ((HB.out _).block s HS.out.1 HS.out.2)
    | exact (HN2.out rfl).kept ((HB.out _).block s HS.out.1 HS.out.2)
 case rest=>
  obtain ⟨rfl,rfl,⟨a',cap',rfl,hn,hc'⟩,e1,e2,e3,hw,hbw,hkw⟩:=hcut
  dsimp only at e1 e2 e3
  have HN':Hid (q0s s wc a' r):=hn
  have HW':Hid (Ln B b l k wc):=hw
  have HB':Hid (q0j B b w wc):=hbw
  have HK':Hid (Lib.OthersKept 5 (some b) w wc):=hkw
  have hBc:B≤wc.heap.size:=Nat.le_trans hBw hbw.size
  clear hn hw hbw hkw
  rw [List.append_assoc] at HR
  generalize hrc:C++r0=rc at HR
  have HRC:Hid (C++r0=rc):=hrc
  have HLC:Hid (rc.length=C.length+r0.length):=(show _=_ by rw [←hrc,List.length_append])
  have HAC:Hid ((A++C).length=A.length+C.length):=(show _=_ from List.length_append)
  clear hrc
  have HA:Hid (z3y A tA kA):=hA
  have HC:Hid (z3y C tC kC):=hC
  clear hA hC
  go_wp2_with fail
  refine (HA.out B b s r rc _ _ l k _ HR.out.symm HN'.out HS.out.1 HS.out.2 hc' HW'.out hBc (by omega)).mono ?_
  rintro e w3 ⟨⟨a3,cap3,rfl,n3,hc3⟩,h3,hb3,hk3⟩
  have hBw3:B≤w3.heap.size:=Nat.le_trans hBc hb3.size
  go_wp2_with fail
  refine (HC.out B b s rc r0 _ _ _ _ _ HRC.out.symm n3 HS.out.1 HS.out.2 hc3 h3 hBw3 (by have q1:=HRL.out;have q2:=HLC.out;have q3:=HAC.out;simp;omega)).mono ?_
  rintro e w4 ⟨⟨a4,cap4,rfl,n4,hc4⟩,h4,hb4,hk4⟩
  go_wp2
  go_ret
  rw [←Bool.or_assoc,←List.append_assoc]
  exact ⟨⟨_,_,rfl,n4,hc4⟩,h4,HB'.out.trans (hb3.trans hb4),HK'.out.trans (hk3.trans hk4)⟩
end Go.Proofs.YthjapabokcajhaaGreatDoor
namespace Go.Proofs.YthjapabokcajhaaGreatDoor
open Go Go.RowKit
set_option maxRecDepth 100000
set_option maxHeartbeats 4000000
theorem v6d (tx:ByteArray) (n:Int) (A:List Nd) (tA:List UInt8) (kA:Bool) (hA:z3y A tA kA):z3y (⟨7,tx,n⟩::A) (tA) (kA):=by
 intro B b s ds r0 a cap l k w hd hN hsB hsb hc hW hBw hl
 generalize hr:A++r0=r
 have HR:Hid (A++r0=r):=hr
 have HRL:Hid (r.length=(A:List Nd).length+r0.length):=(show _=_ by rw [←hr,List.length_append])
 obtain rfl:ds=⟨7,tx,n⟩::r:=by rw [hd,←hr];rfl
 clear hd hr
 obtain ⟨o0,ea,c1,c2,c3⟩:=hN 0 (by simp)
 subst ea
 simp only [List.length_cons] at hc hl ⊢
 have HN1:Hid (q0s s w (some ⟨s,o0+3,none⟩) r):=hN.rest
 have HN2:Hid (cap=1→q0s s w (some ⟨s,o0,none⟩) r):=fun h=>by
  have h1:=hN.slid hc
  rw [if_pos h] at h1
  exact h1
 have HW:Hid (Ln B b l k w):=hW
 simp only [Nat.zero_mul,Nat.add_zero,List.getElem_cons_zero] at c1 c2 c3
 have hb0:s<w.heap.size:=by omega
 have hr1:(1:Int)≤(r.length:Int)+1:=by omega
 have HB:Hid (∀ O:Obj,q0j B b w (w.alloc O).drew):=fun O=>q0j.drew ((q0j.refl B b w).alloc hBw O)
 have HK:Hid (∀ O:Obj,Lib.OthersKept 5 (some b) w (w.alloc O).drew):=fun O=>((Lib.OthersKept.refl _ _ w).alloc O).drew
 have HS:Hid (s<B∧s≠b):=⟨hsB,hsb⟩
 clear hN hW hsB hsb
 go_enter Tryz.func211,Tryz.ntmps211
 go_upto_region 1 with fail
 go_cut [0,1,5,6] (fun t _ p q wx=>z5m B b s w.heap.size ⟨7,tx,n⟩ r l k w t p q wx)
 case first=>
  go_region
  all_goals (go_wp2_with fail)
  all_goals
   go_meet
   refine ⟨rfl,rfl,⟨_,_,rfl,?_,by omega⟩,by simp [go_sem],by simp [go_sem],by simp [go_sem],IsX.drew (IsX.alloc HW.out _),HB.out _,HK.out _⟩
   first
    | exact HN1.out.kept ((HB.out _).block s HS.out.1 HS.out.2)
    | exact (HN2.out (by assumption)).kept ((HB.out _).block s HS.out.1 HS.out.2)
    | exact (HN2.out rfl).kept ((HB.out _).block s HS.out.1 HS.out.2)
 case rest=>
  obtain ⟨rfl,rfl,⟨a',cap',rfl,hn,hc'⟩,e1,e2,e3,hw,hbw,hkw⟩:=hcut
  dsimp only at e1 e2 e3
  have HN':Hid (q0s s wc a' r):=hn
  have HW':Hid (Ln B b l k wc):=hw
  have HB':Hid (q0j B b w wc):=hbw
  have HK':Hid (Lib.OthersKept 5 (some b) w wc):=hkw
  have hBc:B≤wc.heap.size:=Nat.le_trans hBw hbw.size
  clear hn hw hbw hkw
  have HA:Hid (z3y A tA kA):=hA
  clear hA
  go_wp2_with fail
  refine (HA.out B b s r r0 _ _ l k _ HR.out.symm HN'.out HS.out.1 HS.out.2 hc' HW'.out hBc (by omega)).mono ?_
  rintro e w3 ⟨⟨a3,cap3,rfl,n3,hc3⟩,h3,hb3,hk3⟩
  go_wp2
  go_ret
  exact ⟨⟨_,_,rfl,n3,hc3⟩,h3,HB'.out.trans hb3,HK'.out.trans hk3⟩
theorem v6e (tx:ByteArray) (n:Int) (A:List Nd) (tA:List UInt8) (kA:Bool) (hA:z3y A tA kA):z3y (⟨8,tx,n⟩::A) (tA) (kA):=by
 intro B b s ds r0 a cap l k w hd hN hsB hsb hc hW hBw hl
 generalize hr:A++r0=r
 have HR:Hid (A++r0=r):=hr
 have HRL:Hid (r.length=(A:List Nd).length+r0.length):=(show _=_ by rw [←hr,List.length_append])
 obtain rfl:ds=⟨8,tx,n⟩::r:=by rw [hd,←hr];rfl
 clear hd hr
 obtain ⟨o0,ea,c1,c2,c3⟩:=hN 0 (by simp)
 subst ea
 simp only [List.length_cons] at hc hl ⊢
 have HN1:Hid (q0s s w (some ⟨s,o0+3,none⟩) r):=hN.rest
 have HN2:Hid (cap=1→q0s s w (some ⟨s,o0,none⟩) r):=fun h=>by
  have h1:=hN.slid hc
  rw [if_pos h] at h1
  exact h1
 have HW:Hid (Ln B b l k w):=hW
 simp only [Nat.zero_mul,Nat.add_zero,List.getElem_cons_zero] at c1 c2 c3
 have hb0:s<w.heap.size:=by omega
 have hr1:(1:Int)≤(r.length:Int)+1:=by omega
 have HB:Hid (∀ O:Obj,q0j B b w (w.alloc O).drew):=fun O=>q0j.drew ((q0j.refl B b w).alloc hBw O)
 have HK:Hid (∀ O:Obj,Lib.OthersKept 5 (some b) w (w.alloc O).drew):=fun O=>((Lib.OthersKept.refl _ _ w).alloc O).drew
 have HS:Hid (s<B∧s≠b):=⟨hsB,hsb⟩
 clear hN hW hsB hsb
 go_enter Tryz.func211,Tryz.ntmps211
 go_upto_region 1 with fail
 go_cut [0,1,5,6] (fun t _ p q wx=>z5m B b s w.heap.size ⟨8,tx,n⟩ r l k w t p q wx)
 case first=>
  go_region
  all_goals (go_wp2_with fail)
  all_goals
   go_meet
   refine ⟨rfl,rfl,⟨_,_,rfl,?_,by omega⟩,by simp [go_sem],by simp [go_sem],by simp [go_sem],IsX.drew (IsX.alloc HW.out _),HB.out _,HK.out _⟩
   first
    | exact HN1.out.kept ((HB.out _).block s HS.out.1 HS.out.2)
    | exact (HN2.out (by assumption)).kept ((HB.out _).block s HS.out.1 HS.out.2)
    | exact (HN2.out rfl).kept ((HB.out _).block s HS.out.1 HS.out.2)
 case rest=>
  obtain ⟨rfl,rfl,⟨a',cap',rfl,hn,hc'⟩,e1,e2,e3,hw,hbw,hkw⟩:=hcut
  dsimp only at e1 e2 e3
  have HN':Hid (q0s s wc a' r):=hn
  have HW':Hid (Ln B b l k wc):=hw
  have HB':Hid (q0j B b w wc):=hbw
  have HK':Hid (Lib.OthersKept 5 (some b) w wc):=hkw
  have hBc:B≤wc.heap.size:=Nat.le_trans hBw hbw.size
  clear hn hw hbw hkw
  have HA:Hid (z3y A tA kA):=hA
  clear hA
  go_wp2_with fail
  refine (HA.out B b s r r0 _ _ l k _ HR.out.symm HN'.out HS.out.1 HS.out.2 hc' HW'.out hBc (by omega)).mono ?_
  rintro e w3 ⟨⟨a3,cap3,rfl,n3,hc3⟩,h3,hb3,hk3⟩
  go_wp2
  go_ret
  exact ⟨⟨_,_,rfl,n3,hc3⟩,h3,HB'.out.trans hb3,HK'.out.trans hk3⟩
end Go.Proofs.YthjapabokcajhaaGreatDoor
namespace Go.Proofs.YthjapabokcajhaaGreatDoor
open Go Go.RowKit
set_option maxRecDepth 100000
set_option maxHeartbeats 4000000
theorem v6f (tx:ByteArray) (n:Int) (A C:List Nd) (tA tC:List UInt8) (kA kC:Bool) (hA:z3y A tA kA) (hC:z3y C tC kC):z3y (⟨9,tx,n⟩::(A++C)) (tA) (kA):=by
 intro B b s ds r0 a cap l k w hd hN hsB hsb hc hW hBw hl
 generalize hr:(A++C)++r0=r
 have HR:Hid ((A++C)++r0=r):=hr
 have HRL:Hid (r.length=((A++C):List Nd).length+r0.length):=(show _=_ by rw [←hr,List.length_append])
 obtain rfl:ds=⟨9,tx,n⟩::r:=by rw [hd,←hr];rfl
 clear hd hr
 obtain ⟨o0,ea,c1,c2,c3⟩:=hN 0 (by simp)
 subst ea
 simp only [List.length_cons] at hc hl ⊢
 have HN1:Hid (q0s s w (some ⟨s,o0+3,none⟩) r):=hN.rest
 have HN2:Hid (cap=1→q0s s w (some ⟨s,o0,none⟩) r):=fun h=>by
  have h1:=hN.slid hc
  rw [if_pos h] at h1
  exact h1
 have HW:Hid (Ln B b l k w):=hW
 simp only [Nat.zero_mul,Nat.add_zero,List.getElem_cons_zero] at c1 c2 c3
 have hb0:s<w.heap.size:=by omega
 have hr1:(1:Int)≤(r.length:Int)+1:=by omega
 have HB:Hid (∀ O:Obj,q0j B b w (w.alloc O).drew):=fun O=>q0j.drew ((q0j.refl B b w).alloc hBw O)
 have HK:Hid (∀ O:Obj,Lib.OthersKept 5 (some b) w (w.alloc O).drew):=fun O=>((Lib.OthersKept.refl _ _ w).alloc O).drew
 have HS:Hid (s<B∧s≠b):=⟨hsB,hsb⟩
 clear hN hW hsB hsb
 go_enter Tryz.func211,Tryz.ntmps211
 go_upto_region 1 with fail
 go_cut [0,1,5,6] (fun t _ p q wx=>z5m B b s w.heap.size ⟨9,tx,n⟩ r l k w t p q wx)
 case first=>
  go_region
  all_goals (go_wp2_with fail)
  all_goals
   go_meet
   refine ⟨rfl,rfl,⟨_,_,rfl,?_,by omega⟩,by simp [go_sem],by simp [go_sem],by simp [go_sem],IsX.drew (IsX.alloc HW.out _),HB.out _,HK.out _⟩
   first
    | exact HN1.out.kept ((HB.out _).block s HS.out.1 HS.out.2)
    | exact (HN2.out (by assumption)).kept ((HB.out _).block s HS.out.1 HS.out.2)
    | exact (HN2.out rfl).kept ((HB.out _).block s HS.out.1 HS.out.2)
 case rest=>
  obtain ⟨rfl,rfl,⟨a',cap',rfl,hn,hc'⟩,e1,e2,e3,hw,hbw,hkw⟩:=hcut
  dsimp only at e1 e2 e3
  have HN':Hid (q0s s wc a' r):=hn
  have HW':Hid (Ln B b l k wc):=hw
  have HB':Hid (q0j B b w wc):=hbw
  have HK':Hid (Lib.OthersKept 5 (some b) w wc):=hkw
  have hBc:B≤wc.heap.size:=Nat.le_trans hBw hbw.size
  clear hn hw hbw hkw
  rw [List.append_assoc] at HR
  generalize hrc:C++r0=rc at HR
  have HRC:Hid (C++r0=rc):=hrc
  have HLC:Hid (rc.length=C.length+r0.length):=(show _=_ by rw [←hrc,List.length_append])
  have HAC:Hid ((A++C).length=A.length+C.length):=(show _=_ from List.length_append)
  clear hrc
  have HA:Hid (z3y A tA kA):=hA
  have HC:Hid (z3y C tC kC):=hC
  clear hA hC
  go_wp2_with fail
  refine (HA.out B b s r rc _ _ l k _ HR.out.symm (HN'.out.kept (Below.heap_alloc _ _ _ (by have:=HS.out;omega))) HS.out.1 HS.out.2 hc' (IsX.alloc HW'.out _) (by simp;omega) (by omega)).mono ?_
  rintro e w3 ⟨⟨a3,cap3,rfl,n3,hc3⟩,h3,hb3,hk3⟩
  have hbc:b<wc.heap.size:=IsX.lt HW'.out
  have hx:=hk3 wc.heap.size _ (heap_alloc_new wc _) (by simp;omega) (by intro c fz h;cases h)
  have hsz:=hb3.size
  have hsz2:wc.heap.size+1≤w3.heap.size:=by simpa using hsz
  have HX:Hid (w3.heap[wc.heap.size]? = _):=hx
  clear hsz hx
  go_wp2_with fail
  refine (HC.out w3.heap.size wc.heap.size s rc r0 _ _ [] false _ HRC.out.symm n3 (by have:=HS.out;omega) (by have:=HS.out;omega) hc3 (IsX.unused _ _ _ _ _ HX.out) (Nat.le_refl _) (by have q1:=HRL.out;have q2:=HLC.out;have q3:=HAC.out;simp;omega)).mono ?_
  rintro e w4 ⟨⟨a4,cap4,rfl,n4,hc4⟩,h4,hb4,hk4⟩
  go_wp2
  go_ret
  refine ⟨⟨_,_,rfl,n4,hc4⟩,IsX.far h3 hb4 (by omega) HX.out (by decide),(HB'.out.trans (((q0j.refl _ _ _).alloc hBc _).trans hb3)).trans (hb4.weak (by omega) hBc),?_⟩
  exact j8c (HK'.out.trans (((Lib.OthersKept.refl _ _ _).alloc _).trans hk3)) hk4 HB'.out.size
end Go.Proofs.YthjapabokcajhaaGreatDoor
namespace Go.Proofs.YthjapabokcajhaaGreatDoor
open Go Go.RowKit
theorem j7z {s:ByteArray} (h1:1≤s.size) (h2:s.size≤20) (h:∀ k (h:k<s.size),q4y s[k]=true):isW s=true:=by
 simp only [isW,h1,h2,decide_true,Bool.true_and,List.all_eq_true]
 intro b hb
 obtain ⟨i,hi,rfl⟩:=List.getElem_of_mem hb
 exact h i (by rw [←q0x];exact hi)
theorem v5d {s:ByteArray} {k:Nat} (h:k<s.size) (hb:q4y s[k]=false):isW s=false:=by
 cases e:isW s with
 | false=>rfl
 | true=>
  simp only [isW,Bool.and_eq_true,List.all_eq_true] at e
  have:=e.2 s[k] (by
   have:k<s.data.toList.length:=by rw [q0x];exact h
   exact List.getElem_mem this)
  rw [hb] at this
  cases this
theorem k2m {b:UInt8} (h:q4y b=false):(b.toNat:Int)<32∨(¬ (b.toNat:Int)<32∧126<(b.toNat:Int)):=by
 simp [q4y] at h
 omega
theorem k7i {b:UInt8} (h:q4y b=true):¬ (b.toNat:Int)<32∧¬ 126<(b.toNat:Int):=by
 simp [q4y] at h
 omega
theorem j3v {s:ByteArray} (h:s.size≠0):¬ s.toList=[]:=by
 rw [ByteArray.toList_eq]
 intro e
 have:=q0x s
 rw [e] at this
 exact h this.symm
theorem y5i {op:Int} (h1:¬ op<1) (h2:¬ 9<op):op=1∨op=2∨op=3∨op=4∨op=5∨op=6∨op=7∨op=8∨op=9:=by omega
theorem k9p {ds:List Nd} (h:400<ds.length):q2n ds=3:=by rw [q2n,if_pos h]
theorem k9q {ds:List Nd} {k:Nat} (hl:ds.length≤400) (hk:k<ds.length) (ha:∀ x∈ds.take k,q0u x=0) (h:q0u ds[k]≠0):q2n ds=q0u ds[k]:=by
 have e:=z8m ds k hk ha h
 rw [q2n,if_neg (by omega),if_neg (by rw [e];exact h),e]
theorem j7f {ds:List Nd} (hl:ds.length≤400) (ha:∀ x∈ds,q0u x=0):q2n ds=if q1n ds 0 1=some ds.length then 0 else 2:=by
 rw [q2n,if_neg (by omega),if_pos (z0h ds ha)]
theorem v0i {ds:List Nd} {k:Nat} (h:¬ k<ds.length) (ha:∀ x∈ds.take k,q0u x=0):∀ x∈ds,q0u x=0:=by
 rw [List.take_of_length_le (by omega)] at ha;exact ha
theorem j4l {ds:List Nd} {k:Nat} (h:k<ds.length) (ha:∀ x∈ds.take k,q0u x=0) (h0:q0u ds[k]=0):∀ x∈ds.take (k+1),q0u x=0:=by
 intro x hx
 rw [List.take_succ_eq_append_getElem h] at hx
 rcases List.mem_append.1 hx with hx | hx
 ·exact ha x hx
 ·simp at hx;subst hx;exact h0
end Go.Proofs.YthjapabokcajhaaGreatDoor
namespace Go.Proofs.YthjapabokcajhaaGreatDoor
open Go Go.RowKit
def Tr.laid:Tr→List UInt8
 | .leaf x=>if x.op=1 then x.tx.data.toList else if x.op=2 then [32] else []
 | .one _ a=>a.laid
 | .two x a b=>if x.op=6 then a.laid++b.laid else a.laid
def Tr.brk:Tr→Bool
 | .leaf x=>decide (x.op=4)
 | .one _ a=>a.brk
 | .two x a b=>if x.op=6 then a.brk || b.brk else a.brk
theorem q6n:∀ t:Tr,t.flat=(if t.brk=true then none else some t.laid)
 | .leaf x=>by
  simp only [Tr.flat,Tr.brk,Tr.laid]
  by_cases h1:x.op=1
  ·simp [h1]
  ·by_cases h2:x.op=2
   ·simp [h2]
   ·by_cases h4:x.op=4
    ·simp [h4]
    ·simp [h1,h2,h4]
 | .one _ a=>q6n a
 | .two x a b=>by
  have h1:=q6n a
  have h2:=q6n b
  simp only [Tr.flat,Tr.brk,Tr.laid]
  split
  ·rw [h1,h2]
   cases a.brk<;>cases b.brk<;>simp
  ·exact h1
theorem z6n:∀ t:Tr,t.Wf→t.laid.length≤20*t.nodes.length
 | .leaf x,h=>by
  obtain ⟨_,_,_,_,h5,_⟩:=q1w h.1
  simp only [Tr.laid,Tr.nodes]
  split
  ·rename_i h1
   have:=q3y (h5 h1)
   have e:=q0x x.tx
   simp only [List.length_cons,List.length_nil]
   omega
  ·split<;>simp
 | .one x a,h=>by
  have:=z6n a h.2.2
  simp only [Tr.laid,Tr.nodes,List.length_cons]
  omega
 | .two x a b,h=>by
  have h1:=z6n a h.2.2.1
  have h2:=z6n b h.2.2.2
  simp only [Tr.laid,Tr.nodes,List.length_cons,List.length_append]
  split
  ·rw [List.length_append];omega
  ·omega
theorem j1e {t:Tr} (h:t.brk=false):t.isFlat=true∧t.line=⟨t.laid.toArray⟩:=by
 have:=q6n t
 rw [h] at this
 constructor
 ·rw [Tr.isFlat,this];rfl
 ·rw [Tr.line,this];rfl
theorem j1f {t:Tr} (h:t.brk=true):t.isFlat=false∧t.line=⟨#[]⟩:=by
 have:=q6n t
 rw [h] at this
 constructor
 ·rw [Tr.isFlat,this];rfl
 ·rw [Tr.line,this];rfl
theorem q4f:∀ t:Tr,t.Wf→z3y t.nodes t.laid t.brk
 | .leaf ⟨op,tx,n⟩,h=>by
  obtain ⟨_,_,_,_,h5,_⟩:=q1w h.1
  rcases q4u h.1 h.2 with e | e | e | e | e
  all_goals (simp only at e;subst e)
  ·exact v5x tx n (q3y (h5 rfl)).2
  ·exact v5y tx n
  ·exact v5z tx n
  ·exact v6a tx n
  ·exact v6b tx n
 | .one ⟨op,tx,n⟩ a,h=>by
  rcases z1b h.2.1 with e | e
  all_goals (simp only at e;subst e)
  ·exact v6d tx n _ _ _ (q4f a h.2.2)
  ·exact v6e tx n _ _ _ (q4f a h.2.2)
 | .two ⟨op,tx,n⟩ a c,h=>by
  rcases q9u h.2.1 with e | e
  all_goals (simp only at e;subst e)
  ·exact v6c tx n _ _ _ _ _ _ (q4f a h.2.2.1) (q4f c h.2.2.2) (z6n a h.2.2.1)
  ·exact v6f tx n _ _ _ _ _ _ (q4f a h.2.2.1) (q4f c h.2.2.2)
end Go.Proofs.YthjapabokcajhaaGreatDoor
namespace Go.Proofs.YthjapabokcajhaaGreatDoor
open Go Go.RowKit
set_option maxRecDepth 100000
set_option maxHeartbeats 4000000
theorem k5o (op:Int) (w:World):Calls Tryz.prog 142 #[.int .i64 op] w fun e w'=>e = .returned (.int .i64 (pts op))∧w=w':=by
 by_cases h6:op=6
 ·subst h6
  go_enter Tryz.func142,Tryz.ntmps142
  go_wp2
  go_ret
  exact ⟨rfl,rfl⟩
 by_cases h9:op=9
 ·subst h9
  go_enter Tryz.func142,Tryz.ntmps142
  go_wp2
  go_ret
  exact ⟨rfl,rfl⟩
 by_cases h7:op=7
 ·subst h7
  go_enter Tryz.func142,Tryz.ntmps142
  go_wp2
  go_ret
  exact ⟨rfl,rfl⟩
 by_cases h8:op=8
 ·subst h8
  go_enter Tryz.func142,Tryz.ntmps142
  go_wp2
  go_ret
  exact ⟨rfl,rfl⟩
 have e:pts op=0:=by simp [pts,h6,h7,h8,h9]
 rw [e]
 have g6:(op == 6)=false:=by simp [h6]
 have g7:(op == 7)=false:=by simp [h7]
 have g8:(op == 8)=false:=by simp [h8]
 have g9:(op == 9)=false:=by simp [h9]
 clear e h6 h7 h8 h9
 go_enter Tryz.func142,Tryz.ntmps142
 go_wp2
 go_ret
 exact ⟨rfl,rfl⟩
theorem z4r (s:ByteArray) (w:World):Calls Tryz.prog 141 #[.string s] w fun e w'=>e = .returned (.bool (isW s))∧w=w':=by
 by_cases h1:(s.size:Int)<1
 ·have e:isW s=false:=by simp [isW];omega
  rw [e]
  clear e
  go_enter Tryz.func141,Tryz.ntmps141
  go_wp2
  go_ret
  exact ⟨rfl,rfl⟩
 by_cases h2:20<(s.size:Int)
 ·have e:isW s=false:=by simp [isW];omega
  rw [e]
  clear e
  go_enter Tryz.func141,Tryz.ntmps141
  go_wp2
  go_ret
  exact ⟨rfl,rfl⟩
 go_enter Tryz.func141,Tryz.ntmps141
 go_wp2
 go_loopw [14] (fun i wr=>wr=w∧∃ k:Nat,k≤s.size∧i = .int .i64 k∧∀ j (h:j<s.size),j<k→q4y s[j]=true) (fun i _=>s.size - (intOf i).toNat)
 case atStart=>exact ⟨rfl,0,Nat.zero_le _,rfl,fun j _ hj=>by omega⟩
 case round=>
  obtain ⟨rfl,k,hk,rfl,hall⟩:=hrel
  have HA:Hid (∀ j (h:j<s.size),j<k→q4y s[j]=true):=hall
  clear hall
  by_cases hlt:k<s.size
  ·cases hb:q4y s[k] with
   | false=>
    have HE:Hid (isW s=false):=v5d hlt hb
    have hc:=k2m hb
    clear hb
    rcases hc with hc | ⟨hc,hd⟩
    ·go_wp2
     go_ret
     exact ⟨by rw [HE.out];rfl,rfl⟩
    ·go_wp2
     go_ret
     exact ⟨by rw [HE.out];rfl,rfl⟩
   | true=>
    have HB:Hid (q4y s[k]=true):=hb
    obtain ⟨hc,hd⟩:=k7i hb
    clear hb
    go_wp2
    go_roundw
    case rel=>
     refine ⟨by trivial,k+1,by omega,by go_num,?_⟩
     intro j h hj
     by_cases hjk:j=k
     ·subst hjk;exact HB.out
     ·exact HA.out j h (by omega)
    case measure=>simp [intOf];omega
  ·have HE:Hid (isW s=true):=j7z (by omega) (by omega) fun j h=>HA.out j h (by omega)
   go_wp2
   go_ret
   exact ⟨by rw [HE.out];rfl,rfl⟩
theorem q8r (x:Nd) (w:World):Calls Tryz.prog 87 #[y5g x] w fun e w'=>e = .returned (q1o (q0u x))∧Below w.heap.size w w':=by
 obtain ⟨op,tx,n⟩:=x
 by_cases h1:op<1
 ·have e:q0u ⟨op,tx,n⟩=1:=by simp [q0u,h1]
  rw [e,z4m]
  clear e
  go_enter Tryz.func87,Tryz.ntmps87
  go_wp2
  go_ret
  exact ⟨rfl,(Below.refl _ _).alloc (Nat.le_refl _) _⟩
 by_cases h2:9<op
 ·have e:q0u ⟨op,tx,n⟩=1:=by simp [q0u,h2]
  rw [e,z4m]
  clear e
  go_enter Tryz.func87,Tryz.ntmps87
  go_wp2
  go_ret
  exact ⟨rfl,(Below.refl _ _).alloc (Nat.le_refl _) _⟩
 rcases y5i h1 h2 with rfl | rfl | rfl | rfl | rfl | rfl | rfl | rfl | rfl
 case inl=>
  clear h1 h2
  by_cases hn:n=0
  ·subst hn
   cases hw:isW tx with
   | false=>
    have e:q0u ⟨1,tx,0⟩=5:=by simp [q0u,hw]
    rw [e,v1t]
    clear e
    go_enter Tryz.func87,Tryz.ntmps87
    go_wp2_with (go_at_call 141;refine (z4r _ _).mono ?_;rintro e w' ⟨rfl,rfl⟩)
    go_ret
    exact ⟨rfl,(Below.refl _ _).alloc (Nat.le_refl _) _⟩
   | true=>
    have e:q0u ⟨1,tx,0⟩=0:=by simp [q0u,hw]
    rw [e,q0r]
    clear e
    go_enter Tryz.func87,Tryz.ntmps87
    go_wp2_with (go_at_call 141;refine (z4r _ _).mono ?_;rintro e w' ⟨rfl,rfl⟩)
    go_ret
    exact ⟨rfl,(Below.refl _ _).alloc (Nat.le_refl _) _⟩
  ·have e:q0u ⟨1,tx,n⟩=2:=by simp [q0u,hn]
   rw [e,z8j]
   have hn':(n != 0)=true:=by simp [hn]
   clear e hn
   go_enter Tryz.func87,Tryz.ntmps87
   go_wp2
   go_ret
   exact ⟨rfl,(Below.refl _ _).alloc (Nat.le_refl _) _⟩
 case inr.inr.inr.inr.inr.inr.inl=>
  clear h1 h2
  by_cases hs:tx.size=0
  ·obtain rfl:=z9x hs
   by_cases hn:n<0
   ·have e:q0u ⟨7,⟨#[]⟩,n⟩=1:=by simp [q0u,hn,hs]
    rw [e,z4m]
    clear e hs
    go_enter Tryz.func87,Tryz.ntmps87
    go_wp2
    go_ret
    exact ⟨rfl,(Below.refl _ _).alloc (Nat.le_refl _) _⟩
   by_cases hm:8<n
   ·have e:q0u ⟨7,⟨#[]⟩,n⟩=1:=by simp [q0u,hm,hs]
    rw [e,z4m]
    clear e hs
    go_enter Tryz.func87,Tryz.ntmps87
    go_wp2
    go_ret
    exact ⟨rfl,(Below.refl _ _).alloc (Nat.le_refl _) _⟩
   have e:q0u ⟨7,⟨#[]⟩,n⟩=0:=by simp [q0u,hn,hm,hs]
   rw [e,q0r]
   clear e hs
   go_enter Tryz.func87,Tryz.ntmps87
   go_wp2
   go_ret
   exact ⟨rfl,(Below.refl _ _).alloc (Nat.le_refl _) _⟩
  ·have e:q0u ⟨7,tx,n⟩=2:=by simp [q0u,hs]
   rw [e,z8j]
   have hs':=j3v hs
   clear e hs
   go_enter Tryz.func87,Tryz.ntmps87
   go_wp2
   go_ret
   exact ⟨rfl,(Below.refl _ _).alloc (Nat.le_refl _) _⟩
 all_goals
  clear h1 h2
  by_cases hs:tx.size=0
  ·obtain rfl:=z9x hs
   by_cases hn:n=0
   ·subst hn
    rw [show ∀ k:Int,k=0→q1o k = .nilIface from fun k hk=>by rw [hk];rfl]
    ·clear hs
     go_enter Tryz.func87,Tryz.ntmps87
     go_wp2
     go_ret
     exact ⟨rfl,(Below.refl _ _).alloc (Nat.le_refl _) _⟩
    ·simp [q0u,hs]
   ·have hn':(n != 0)=true:=by simp [hn]
    rw [show ∀ k:Int,k=2→q1o k = .iface 23 (.int .i64 2) from fun k hk=>by rw [hk];rfl]
    ·clear hs hn
     go_enter Tryz.func87,Tryz.ntmps87
     go_wp2
     go_ret
     exact ⟨rfl,(Below.refl _ _).alloc (Nat.le_refl _) _⟩
    ·simp [q0u,hn]
  ·have hs':=j3v hs
   rw [show ∀ k:Int,k=2→q1o k = .iface 23 (.int .i64 2) from fun k hk=>by rw [hk];rfl]
   ·clear hs
    go_enter Tryz.func87,Tryz.ntmps87
    go_wp2
    go_ret
    exact ⟨rfl,(Below.refl _ _).alloc (Nat.le_refl _) _⟩
   ·simp [q0u,hs]
end Go.Proofs.YthjapabokcajhaaGreatDoor
namespace Go.Proofs.YthjapabokcajhaaGreatDoor
open Go Go.RowKit
set_option maxRecDepth 100000
set_option maxHeartbeats 1000000
theorem z4k (ds:List Nd) (a:Option Addr) (cap i0:Nat) (w:World) (hN:q2i w a ds) (hl:ds.length≤400) (hi:i0≤ds.length) :
  Calls Tryz.prog 88 #[.slice a ds.length cap,.int .i64 i0] w fun e w'=>((∃ j:Nat,q1n ds i0 1=some j∧e = .returned (.tuple #[.int .i64 j,.bool true]))∨(q1n ds i0 1=none∧e = .returned (.tuple #[.int .i64 ds.length,.bool false])))∧w=w':=by
 have HN:Hid (q2i w a ds):=hN
 clear hN
 go_enter Tryz.func88,Tryz.ntmps88
 go_wp2
 go_loopw [1,6] (fun i m wr=>wr=w∧∃ k q:Nat,k≤ds.length∧q≤k+1∧i = .int .i64 k∧m = .int .i64 q∧q1n ds i0 1=q1n ds k q) (fun i _ _=>ds.length - (intOf i).toNat)
 case atStart=>exact ⟨rfl,i0,1,hi,by omega,rfl,rfl,rfl⟩
 case round=>
  obtain ⟨rfl,k,q,hk,hq,rfl,rfl,he⟩:=hrel
  have HE:Hid (q1n ds i0 1=q1n ds k q):=he
  clear he
  by_cases h0:q=0
  ·subst h0
   have HE':Hid (q1n ds i0 1=some k):=HE.out.trans (k5s _ _)
   go_wp2
   go_ret2
   exact ⟨.inl ⟨k,HE'.out,rfl⟩,rfl⟩
  ·obtain ⟨q',rfl⟩:∃ q',q=q'+1:=⟨q - 1,by omega⟩
   by_cases hlt:k<ds.length
   ·obtain ⟨b,o,ea,hb,c1,c2,c3⟩:=HN.out k hlt
    have HS:Hid (q1n ds i0 1=q1n ds (k+1) (pts ds[k].op+q')):=HE.out.trans (k5q _ _ _ hlt)
    have hp:=v2s ds[k].op
    subst ea
    clear c2 c3 h0
    go_wp2_with (go_at_call 142;refine (k5o _ _).mono ?_;rintro e w' ⟨rfl,rfl⟩)
    go_roundw
    case rel=>
     exact ⟨by trivial,k+1,pts ds[k].op+q',by omega,by omega,by go_num,by go_num,HS.out⟩
    case measure=>simp [intOf];omega
   ·have hkk:k=ds.length:=by omega
    subst hkk
    have HE':Hid (q1n ds i0 1=none):=HE.out.trans (k9w _ _ _ (by omega))
    go_wp2
    go_ret2
    exact ⟨.inr ⟨HE'.out,rfl⟩,rfl⟩
theorem z2i {ds:List Nd} {i0 j:Nat} (a:Option Addr) (cap:Nat) (w:World) (hN:q2i w a ds) (hl:ds.length≤400) (hi:i0≤ds.length) (h:q1n ds i0 1=some j) :
  Calls Tryz.prog 88 #[.slice a ds.length cap,.int .i64 i0] w fun e w'=>e = .returned (.tuple #[.int .i64 j,.bool true])∧w=w':=
 (z4k ds a cap i0 w hN hl hi).mono fun e w' ⟨h1,h2⟩=>⟨by
  rcases h1 with ⟨j',e1,e2⟩ | ⟨e1,_⟩
  ·rw [h] at e1;cases e1;exact e2
  ·rw [h] at e1;(cases e1),h2⟩
theorem k1b {ds:List Nd} {i0:Nat} (a:Option Addr) (cap:Nat) (w:World) (hN:q2i w a ds) (hl:ds.length≤400) (hi:i0≤ds.length) (h:q1n ds i0 1=none) :
  Calls Tryz.prog 88 #[.slice a ds.length cap,.int .i64 i0] w fun e w'=>e = .returned (.tuple #[.int .i64 ds.length,.bool false])∧w=w':=
 (z4k ds a cap i0 w hN hl hi).mono fun e w' ⟨h1,h2⟩=>⟨by
  rcases h1 with ⟨j',e1,e2⟩ | ⟨_,e2⟩
  ·rw [h] at e1;cases e1
  ·exact e2,h2⟩
end Go.Proofs.YthjapabokcajhaaGreatDoor
