/- Texts as one: LayF1, LayF3, LayF6, LayF7, LayF9, DocL. -/
import Derived.Test.YthjapabokcajhaaGreatDoorPf18
import Derived.Test.YthjapabokcajhaaGreatDoorPf05
namespace Go.Proofs.YthjapabokcajhaaGreatDoor
open Go Go.RowKit
set_option maxRecDepth 100000
set_option maxHeartbeats 4000000
theorem j6t(tx:ByteArray)(n:Int)(ht:tx.size<=20):z0g (⟨1,tx,n⟩::[]) (tx.data.toList) (false):=by
 intro B b s ds r0 a cap l k w hd hN hsB hsb hc hW hBw hl;generalize hr:[]++r0=r;have HR:Hid ([]++r0=r):=hr;have HRL:Hid (r.length=([]:List Nd).length+r0.length):=(show _=_ by rw[<-hr,List.length_append]);obtain rfl:ds=⟨1,tx,n⟩::r:=by rw[hd,<-hr];rfl
 clear hd hr;obtain⟨o0,ea,c1,c2,c3⟩:=hN 0 (by simp);subst ea;simp only[List.length_cons]at hc hl⊢;have HN1:Hid (q0p s w (some ⟨s,o0+3,none⟩) r):=hN.rest
 have HN2:Hid (cap=1->q0p s w (some ⟨s,o0,none⟩) r):=fun h=>by
  have h1:=hN.slid hc;rw[if_pos h]at h1;exact h1
 have HW:Hid (Ln B b l k w):=hW;simp only[Nat.zero_mul,Nat.add_zero,List.getElem_cons_zero]at c1 c2 c3;have hb0:s<w.heap.size:=by omega
 have hr1:(1:Int)<=(r.length:Int)+1:=by omega
 have HB:Hid (∀O:Obj,q0j B b w (w.alloc O).drew):=fun O=>q0j.drew ((q0j.refl B b w).alloc hBw O)
 have HK:Hid (∀O:Obj,Lib.OthersKept 5 (some b) w (w.alloc O).drew):=fun O=>((Lib.OthersKept.refl _ _ w).alloc O).drew
 have HS:Hid (s<B/\s≠b):=⟨hsB,hsb⟩;clear hN hW hsB hsb;go_in
 go_upto_region 1 with fail
 go_cut [0,1,5,6] (fun t _ p q wx=>z1s B b s w.heap.size ⟨1,tx,n⟩ r l k w t p q wx)
 case first=>
  go_region
  all_goals (go_wp2_with fail)
  all_goals
   go_meet
   refine⟨rfl,rfl,⟨_,_,rfl,?_,by omega⟩,by simp[go_sem],by simp[go_sem],by simp[go_sem],IsX.drew (IsX.alloc HW.out _),HB.out _,HK.out _⟩
   first
    | exact HN1.out.kept ((HB.out _).block s HS.out.1 HS.out.2)
    | exact(HN2.out (by assumption)).kept ((HB.out _).block s HS.out.1 HS.out.2)
    | exact(HN2.out rfl).kept ((HB.out _).block s HS.out.1 HS.out.2)
 case rest=>
  obtain⟨rfl,rfl,⟨a',cap',rfl,hn,hc'⟩,e1,e2,e3,hw,hbw,hkw⟩:=hcut;dsimp only at e1 e2 e3;have HN':Hid (q0p s wc a' r):=hn;have HW':Hid (Ln B b l k wc):=hw;have HB':Hid (q0j B b w wc):=hbw;have HK':Hid (Lib.OthersKept 5 (some b) w wc):=hkw;have hBc:B<=wc.heap.size:=Nat.le_trans hBw hbw.size;clear hn hw hbw hkw;go_wp2_with fail
  go_region_with (go_at_call 38;refine(v3b (w:=wc.drew) HW'.out hBc tx (by omega)).mono ?_;rintro e w2⟨⟨z,rfl⟩,h2,hb2,hk2⟩)
  all_goals
   go_wp2;go_ret;obtain rfl:r0=r:=HR.out;rw[Bool.or_false];exact⟨⟨_,_,rfl,q0p.kept (w:=wc.drew) HN'.out (hb2.block s HS.out.1 HS.out.2),hc'⟩,h2,HB'.out.drew.trans hb2,HK'.out.drew.trans hk2⟩
theorem j6u(tx:ByteArray)(n:Int):z0g (⟨2,tx,n⟩::[]) ([32]) (false):=by
 intro B b s ds r0 a cap l k w hd hN hsB hsb hc hW hBw hl;generalize hr:[]++r0=r;have HR:Hid ([]++r0=r):=hr;have HRL:Hid (r.length=([]:List Nd).length+r0.length):=(show _=_ by rw[<-hr,List.length_append]);obtain rfl:ds=⟨2,tx,n⟩::r:=by rw[hd,<-hr];rfl
 clear hd hr;obtain⟨o0,ea,c1,c2,c3⟩:=hN 0 (by simp);subst ea;simp only[List.length_cons]at hc hl⊢;have HN1:Hid (q0p s w (some ⟨s,o0+3,none⟩) r):=hN.rest
 have HN2:Hid (cap=1->q0p s w (some ⟨s,o0,none⟩) r):=fun h=>by
  have h1:=hN.slid hc;rw[if_pos h]at h1;exact h1
 have HW:Hid (Ln B b l k w):=hW;simp only[Nat.zero_mul,Nat.add_zero,List.getElem_cons_zero]at c1 c2 c3;have hb0:s<w.heap.size:=by omega
 have hr1:(1:Int)<=(r.length:Int)+1:=by omega
 have HB:Hid (∀O:Obj,q0j B b w (w.alloc O).drew):=fun O=>q0j.drew ((q0j.refl B b w).alloc hBw O)
 have HK:Hid (∀O:Obj,Lib.OthersKept 5 (some b) w (w.alloc O).drew):=fun O=>((Lib.OthersKept.refl _ _ w).alloc O).drew
 have HS:Hid (s<B/\s≠b):=⟨hsB,hsb⟩;clear hN hW hsB hsb;go_in
 go_upto_region 1 with fail
 go_cut [0,1,5,6] (fun t _ p q wx=>z1s B b s w.heap.size ⟨2,tx,n⟩ r l k w t p q wx)
 case first=>
  go_region
  all_goals (go_wp2_with fail)
  all_goals
   go_meet
   refine⟨rfl,rfl,⟨_,_,rfl,?_,by omega⟩,by simp[go_sem],by simp[go_sem],by simp[go_sem],IsX.drew (IsX.alloc HW.out _),HB.out _,HK.out _⟩
   first
    | exact HN1.out.kept ((HB.out _).block s HS.out.1 HS.out.2)
    | exact(HN2.out (by assumption)).kept ((HB.out _).block s HS.out.1 HS.out.2)
    | exact(HN2.out rfl).kept ((HB.out _).block s HS.out.1 HS.out.2)
 case rest=>
  obtain⟨rfl,rfl,⟨a',cap',rfl,hn,hc'⟩,e1,e2,e3,hw,hbw,hkw⟩:=hcut;dsimp only at e1 e2 e3;have HN':Hid (q0p s wc a' r):=hn;have HW':Hid (Ln B b l k wc):=hw;have HB':Hid (q0j B b w wc):=hbw;have HK':Hid (Lib.OthersKept 5 (some b) w wc):=hkw;have hBc:B<=wc.heap.size:=Nat.le_trans hBw hbw.size;clear hn hw hbw hkw;go_wp2_with fail;refine(v2c HW'.out hBc 32 32 rfl (by omega)).mono ?_;rintro e w2⟨rfl,h2,hb2,hk2⟩;go_wp2;go_ret;obtain rfl:r0=r:=HR.out;rw[Bool.or_false];exact⟨⟨_,_,rfl,HN'.out.kept (hb2.block s HS.out.1 HS.out.2),hc'⟩,h2,HB'.out.trans hb2,HK'.out.trans hk2⟩
end Go.Proofs.YthjapabokcajhaaGreatDoor
namespace Go.Proofs.YthjapabokcajhaaGreatDoor
open Go Go.RowKit
set_option maxRecDepth 100000
set_option maxHeartbeats 4000000
theorem j6v(tx:ByteArray)(n:Int):z0g (⟨3,tx,n⟩::[]) ([]) (false):=by
 intro B b s ds r0 a cap l k w hd hN hsB hsb hc hW hBw hl;generalize hr:[]++r0=r;have HR:Hid ([]++r0=r):=hr;have HRL:Hid (r.length=([]:List Nd).length+r0.length):=(show _=_ by rw[<-hr,List.length_append]);obtain rfl:ds=⟨3,tx,n⟩::r:=by rw[hd,<-hr];rfl
 clear hd hr;obtain⟨o0,ea,c1,c2,c3⟩:=hN 0 (by simp);subst ea;simp only[List.length_cons]at hc hl⊢;have HN1:Hid (q0p s w (some ⟨s,o0+3,none⟩) r):=hN.rest
 have HN2:Hid (cap=1->q0p s w (some ⟨s,o0,none⟩) r):=fun h=>by
  have h1:=hN.slid hc;rw[if_pos h]at h1;exact h1
 have HW:Hid (Ln B b l k w):=hW;simp only[Nat.zero_mul,Nat.add_zero,List.getElem_cons_zero]at c1 c2 c3;have hb0:s<w.heap.size:=by omega
 have hr1:(1:Int)<=(r.length:Int)+1:=by omega
 have HB:Hid (∀O:Obj,q0j B b w (w.alloc O).drew):=fun O=>q0j.drew ((q0j.refl B b w).alloc hBw O)
 have HK:Hid (∀O:Obj,Lib.OthersKept 5 (some b) w (w.alloc O).drew):=fun O=>((Lib.OthersKept.refl _ _ w).alloc O).drew
 have HS:Hid (s<B/\s≠b):=⟨hsB,hsb⟩;clear hN hW hsB hsb;go_in
 go_upto_region 1 with fail
 go_cut [0,1,5,6] (fun t _ p q wx=>z1s B b s w.heap.size ⟨3,tx,n⟩ r l k w t p q wx)
 case first=>
  go_region
  all_goals (go_wp2_with fail)
  all_goals
   go_meet
   refine⟨rfl,rfl,⟨_,_,rfl,?_,by omega⟩,by simp[go_sem],by simp[go_sem],by simp[go_sem],IsX.drew (IsX.alloc HW.out _),HB.out _,HK.out _⟩
   first
    | exact HN1.out.kept ((HB.out _).block s HS.out.1 HS.out.2)
    | exact(HN2.out (by assumption)).kept ((HB.out _).block s HS.out.1 HS.out.2)
    | exact(HN2.out rfl).kept ((HB.out _).block s HS.out.1 HS.out.2)
 case rest=>
  obtain⟨rfl,rfl,⟨a',cap',rfl,hn,hc'⟩,e1,e2,e3,hw,hbw,hkw⟩:=hcut;dsimp only at e1 e2 e3;have HN':Hid (q0p s wc a' r):=hn;have HW':Hid (Ln B b l k wc):=hw;have HB':Hid (q0j B b w wc):=hbw;have HK':Hid (Lib.OthersKept 5 (some b) w wc):=hkw;have hBc:B<=wc.heap.size:=Nat.le_trans hBw hbw.size;clear hn hw hbw hkw;go_wp2;go_ret;obtain rfl:r0=r:=HR.out;rw[Bool.or_false,List.append_nil];exact⟨⟨_,_,rfl,HN'.out,hc'⟩,HW'.out,HB'.out,HK'.out⟩
theorem j6x(tx:ByteArray)(n:Int):z0g (⟨5,tx,n⟩::[]) ([]) (false):=by
 intro B b s ds r0 a cap l k w hd hN hsB hsb hc hW hBw hl;generalize hr:[]++r0=r;have HR:Hid ([]++r0=r):=hr;have HRL:Hid (r.length=([]:List Nd).length+r0.length):=(show _=_ by rw[<-hr,List.length_append]);obtain rfl:ds=⟨5,tx,n⟩::r:=by rw[hd,<-hr];rfl
 clear hd hr;obtain⟨o0,ea,c1,c2,c3⟩:=hN 0 (by simp);subst ea;simp only[List.length_cons]at hc hl⊢;have HN1:Hid (q0p s w (some ⟨s,o0+3,none⟩) r):=hN.rest
 have HN2:Hid (cap=1->q0p s w (some ⟨s,o0,none⟩) r):=fun h=>by
  have h1:=hN.slid hc;rw[if_pos h]at h1;exact h1
 have HW:Hid (Ln B b l k w):=hW;simp only[Nat.zero_mul,Nat.add_zero,List.getElem_cons_zero]at c1 c2 c3;have hb0:s<w.heap.size:=by omega
 have hr1:(1:Int)<=(r.length:Int)+1:=by omega
 have HB:Hid (∀O:Obj,q0j B b w (w.alloc O).drew):=fun O=>q0j.drew ((q0j.refl B b w).alloc hBw O)
 have HK:Hid (∀O:Obj,Lib.OthersKept 5 (some b) w (w.alloc O).drew):=fun O=>((Lib.OthersKept.refl _ _ w).alloc O).drew
 have HS:Hid (s<B/\s≠b):=⟨hsB,hsb⟩;clear hN hW hsB hsb;go_in
 go_upto_region 1 with fail
 go_cut [0,1,5,6] (fun t _ p q wx=>z1s B b s w.heap.size ⟨5,tx,n⟩ r l k w t p q wx)
 case first=>
  go_region
  all_goals (go_wp2_with fail)
  all_goals
   go_meet
   refine⟨rfl,rfl,⟨_,_,rfl,?_,by omega⟩,by simp[go_sem],by simp[go_sem],by simp[go_sem],IsX.drew (IsX.alloc HW.out _),HB.out _,HK.out _⟩
   first
    | exact HN1.out.kept ((HB.out _).block s HS.out.1 HS.out.2)
    | exact(HN2.out (by assumption)).kept ((HB.out _).block s HS.out.1 HS.out.2)
    | exact(HN2.out rfl).kept ((HB.out _).block s HS.out.1 HS.out.2)
 case rest=>
  obtain⟨rfl,rfl,⟨a',cap',rfl,hn,hc'⟩,e1,e2,e3,hw,hbw,hkw⟩:=hcut;dsimp only at e1 e2 e3;have HN':Hid (q0p s wc a' r):=hn;have HW':Hid (Ln B b l k wc):=hw;have HB':Hid (q0j B b w wc):=hbw;have HK':Hid (Lib.OthersKept 5 (some b) w wc):=hkw;have hBc:B<=wc.heap.size:=Nat.le_trans hBw hbw.size;clear hn hw hbw hkw;go_wp2;go_ret;obtain rfl:r0=r:=HR.out;rw[Bool.or_false,List.append_nil];exact⟨⟨_,_,rfl,HN'.out,hc'⟩,HW'.out,HB'.out,HK'.out⟩
theorem j6w(tx:ByteArray)(n:Int):z0g (⟨4,tx,n⟩::[]) ([]) (true):=by
 intro B b s ds r0 a cap l k w hd hN hsB hsb hc hW hBw hl;generalize hr:[]++r0=r;have HR:Hid ([]++r0=r):=hr;have HRL:Hid (r.length=([]:List Nd).length+r0.length):=(show _=_ by rw[<-hr,List.length_append]);obtain rfl:ds=⟨4,tx,n⟩::r:=by rw[hd,<-hr];rfl
 clear hd hr;obtain⟨o0,ea,c1,c2,c3⟩:=hN 0 (by simp);subst ea;simp only[List.length_cons]at hc hl⊢;have HN1:Hid (q0p s w (some ⟨s,o0+3,none⟩) r):=hN.rest
 have HN2:Hid (cap=1->q0p s w (some ⟨s,o0,none⟩) r):=fun h=>by
  have h1:=hN.slid hc;rw[if_pos h]at h1;exact h1
 have HW:Hid (Ln B b l k w):=hW;simp only[Nat.zero_mul,Nat.add_zero,List.getElem_cons_zero]at c1 c2 c3;have hb0:s<w.heap.size:=by omega
 have hr1:(1:Int)<=(r.length:Int)+1:=by omega
 have HB:Hid (∀O:Obj,q0j B b w (w.alloc O).drew):=fun O=>q0j.drew ((q0j.refl B b w).alloc hBw O)
 have HK:Hid (∀O:Obj,Lib.OthersKept 5 (some b) w (w.alloc O).drew):=fun O=>((Lib.OthersKept.refl _ _ w).alloc O).drew
 have HS:Hid (s<B/\s≠b):=⟨hsB,hsb⟩;clear hN hW hsB hsb;go_in
 go_upto_region 1 with fail
 go_cut [0,1,5,6] (fun t _ p q wx=>z1s B b s w.heap.size ⟨4,tx,n⟩ r l k w t p q wx)
 case first=>
  go_region
  all_goals (go_wp2_with fail)
  all_goals
   go_meet
   refine⟨rfl,rfl,⟨_,_,rfl,?_,by omega⟩,by simp[go_sem],by simp[go_sem],by simp[go_sem],IsX.drew (IsX.alloc HW.out _),HB.out _,HK.out _⟩
   first
    | exact HN1.out.kept ((HB.out _).block s HS.out.1 HS.out.2)
    | exact(HN2.out (by assumption)).kept ((HB.out _).block s HS.out.1 HS.out.2)
    | exact(HN2.out rfl).kept ((HB.out _).block s HS.out.1 HS.out.2)
 case rest=>
  obtain⟨rfl,rfl,⟨a',cap',rfl,hn,hc'⟩,e1,e2,e3,hw,hbw,hkw⟩:=hcut;dsimp only at e1 e2 e3;have HN':Hid (q0p s wc a' r):=hn;have HW':Hid (Ln B b l k wc):=hw;have HB':Hid (q0j B b w wc):=hbw;have HK':Hid (Lib.OthersKept 5 (some b) w wc):=hkw;have hBc:B<=wc.heap.size:=Nat.le_trans hBw hbw.size;clear hn hw hbw hkw;have g1:=HW'.out.cell;have g2:=HW'.out.frozen;go_wp2;go_ret;obtain rfl:r0=r:=HR.out;rw[Bool.or_true,List.append_nil];refine⟨⟨_,_,rfl,HN'.out.kept (Below.heap_setCell _ _ _ _ HS.out.2),hc'⟩,HW'.out.stored true,HB'.out.setCell (.inl rfl) _,HK'.out.setCell _ rfl _⟩
end Go.Proofs.YthjapabokcajhaaGreatDoor
namespace Go.Proofs.YthjapabokcajhaaGreatDoor
open Go Go.RowKit
set_option maxRecDepth 100000
set_option maxHeartbeats 4000000
theorem j6y(tx:ByteArray)(n:Int)(A C:List Nd)(tA tC:List UInt8)(kA kC:Bool)(hA:z0g A tA kA)(hC:z0g C tC kC)(htA:tA.length<=20*A.length):z0g (⟨6,tx,n⟩::(A++C)) (tA++tC) (kA||kC):=by
 intro B b s ds r0 a cap l k w hd hN hsB hsb hc hW hBw hl;generalize hr:(A++C)++r0=r;have HR:Hid ((A++C)++r0=r):=hr;have HRL:Hid (r.length=((A++C):List Nd).length+r0.length):=(show _=_ by rw[<-hr,List.length_append]);obtain rfl:ds=⟨6,tx,n⟩::r:=by rw[hd,<-hr];rfl
 clear hd hr;obtain⟨o0,ea,c1,c2,c3⟩:=hN 0 (by simp);subst ea;simp only[List.length_cons]at hc hl⊢;have HN1:Hid (q0p s w (some ⟨s,o0+3,none⟩) r):=hN.rest
 have HN2:Hid (cap=1->q0p s w (some ⟨s,o0,none⟩) r):=fun h=>by
  have h1:=hN.slid hc;rw[if_pos h]at h1;exact h1
 have HW:Hid (Ln B b l k w):=hW;simp only[Nat.zero_mul,Nat.add_zero,List.getElem_cons_zero]at c1 c2 c3;have hb0:s<w.heap.size:=by omega
 have hr1:(1:Int)<=(r.length:Int)+1:=by omega
 have HB:Hid (∀O:Obj,q0j B b w (w.alloc O).drew):=fun O=>q0j.drew ((q0j.refl B b w).alloc hBw O)
 have HK:Hid (∀O:Obj,Lib.OthersKept 5 (some b) w (w.alloc O).drew):=fun O=>((Lib.OthersKept.refl _ _ w).alloc O).drew
 have HS:Hid (s<B/\s≠b):=⟨hsB,hsb⟩;clear hN hW hsB hsb;go_in
 go_upto_region 1 with fail
 go_cut [0,1,5,6] (fun t _ p q wx=>z1s B b s w.heap.size ⟨6,tx,n⟩ r l k w t p q wx)
 case first=>
  go_region
  all_goals (go_wp2_with fail)
  all_goals
   go_meet
   refine⟨rfl,rfl,⟨_,_,rfl,?_,by omega⟩,by simp[go_sem],by simp[go_sem],by simp[go_sem],IsX.drew (IsX.alloc HW.out _),HB.out _,HK.out _⟩
   first
    | exact HN1.out.kept ((HB.out _).block s HS.out.1 HS.out.2)
    | exact(HN2.out (by assumption)).kept ((HB.out _).block s HS.out.1 HS.out.2)
    | exact(HN2.out rfl).kept ((HB.out _).block s HS.out.1 HS.out.2)
 case rest=>
  obtain⟨rfl,rfl,⟨a',cap',rfl,hn,hc'⟩,e1,e2,e3,hw,hbw,hkw⟩:=hcut;dsimp only at e1 e2 e3;have HN':Hid (q0p s wc a' r):=hn;have HW':Hid (Ln B b l k wc):=hw;have HB':Hid (q0j B b w wc):=hbw;have HK':Hid (Lib.OthersKept 5 (some b) w wc):=hkw;have hBc:B<=wc.heap.size:=Nat.le_trans hBw hbw.size;clear hn hw hbw hkw;rw[List.append_assoc]at HR;generalize hrc:C++r0=rc at HR;have HRC:Hid (C++r0=rc):=hrc;have HLC:Hid (rc.length=C.length+r0.length):=(show _=_ by rw[<-hrc,List.length_append]);have HAC:Hid ((A++C).length=A.length+C.length):=(show _=_ from List.length_append);clear hrc;have HA:Hid (z0g A tA kA):=hA;have HC:Hid (z0g C tC kC):=hC;clear hA hC;go_wp2_with fail;refine(HA.out B b s r rc _ _ l k _ HR.out.symm HN'.out HS.out.1 HS.out.2 hc' HW'.out hBc (by omega)).mono ?_;rintro e w3⟨⟨a3,cap3,rfl,n3,hc3⟩,h3,hb3,hk3⟩;have hBw3:B<=w3.heap.size:=Nat.le_trans hBc hb3.size;go_wp2_with fail;refine(HC.out B b s rc r0 _ _ _ _ _ HRC.out.symm n3 HS.out.1 HS.out.2 hc3 h3 hBw3 (by have q1:=HRL.out;have q2:=HLC.out;have q3:=HAC.out;simp;omega)).mono ?_;rintro e w4⟨⟨a4,cap4,rfl,n4,hc4⟩,h4,hb4,hk4⟩;go_wp2;go_ret;rw[<-Bool.or_assoc,<-List.append_assoc];exact⟨⟨_,_,rfl,n4,hc4⟩,h4,HB'.out.trans (hb3.trans hb4),HK'.out.trans (hk3.trans hk4)⟩
end Go.Proofs.YthjapabokcajhaaGreatDoor
namespace Go.Proofs.YthjapabokcajhaaGreatDoor
open Go Go.RowKit
set_option maxRecDepth 100000
set_option maxHeartbeats 4000000
theorem j6z(tx:ByteArray)(n:Int)(A:List Nd)(tA:List UInt8)(kA:Bool)(hA:z0g A tA kA):z0g (⟨7,tx,n⟩::A) (tA) (kA):=by
 intro B b s ds r0 a cap l k w hd hN hsB hsb hc hW hBw hl;generalize hr:A++r0=r;have HR:Hid (A++r0=r):=hr;have HRL:Hid (r.length=(A:List Nd).length+r0.length):=(show _=_ by rw[<-hr,List.length_append]);obtain rfl:ds=⟨7,tx,n⟩::r:=by rw[hd,<-hr];rfl
 clear hd hr;obtain⟨o0,ea,c1,c2,c3⟩:=hN 0 (by simp);subst ea;simp only[List.length_cons]at hc hl⊢;have HN1:Hid (q0p s w (some ⟨s,o0+3,none⟩) r):=hN.rest
 have HN2:Hid (cap=1->q0p s w (some ⟨s,o0,none⟩) r):=fun h=>by
  have h1:=hN.slid hc;rw[if_pos h]at h1;exact h1
 have HW:Hid (Ln B b l k w):=hW;simp only[Nat.zero_mul,Nat.add_zero,List.getElem_cons_zero]at c1 c2 c3;have hb0:s<w.heap.size:=by omega
 have hr1:(1:Int)<=(r.length:Int)+1:=by omega
 have HB:Hid (∀O:Obj,q0j B b w (w.alloc O).drew):=fun O=>q0j.drew ((q0j.refl B b w).alloc hBw O)
 have HK:Hid (∀O:Obj,Lib.OthersKept 5 (some b) w (w.alloc O).drew):=fun O=>((Lib.OthersKept.refl _ _ w).alloc O).drew
 have HS:Hid (s<B/\s≠b):=⟨hsB,hsb⟩;clear hN hW hsB hsb;go_in
 go_upto_region 1 with fail
 go_cut [0,1,5,6] (fun t _ p q wx=>z1s B b s w.heap.size ⟨7,tx,n⟩ r l k w t p q wx)
 case first=>
  go_region
  all_goals (go_wp2_with fail)
  all_goals
   go_meet
   refine⟨rfl,rfl,⟨_,_,rfl,?_,by omega⟩,by simp[go_sem],by simp[go_sem],by simp[go_sem],IsX.drew (IsX.alloc HW.out _),HB.out _,HK.out _⟩
   first
    | exact HN1.out.kept ((HB.out _).block s HS.out.1 HS.out.2)
    | exact(HN2.out (by assumption)).kept ((HB.out _).block s HS.out.1 HS.out.2)
    | exact(HN2.out rfl).kept ((HB.out _).block s HS.out.1 HS.out.2)
 case rest=>
  obtain⟨rfl,rfl,⟨a',cap',rfl,hn,hc'⟩,e1,e2,e3,hw,hbw,hkw⟩:=hcut;dsimp only at e1 e2 e3;have HN':Hid (q0p s wc a' r):=hn;have HW':Hid (Ln B b l k wc):=hw;have HB':Hid (q0j B b w wc):=hbw;have HK':Hid (Lib.OthersKept 5 (some b) w wc):=hkw;have hBc:B<=wc.heap.size:=Nat.le_trans hBw hbw.size;clear hn hw hbw hkw;have HA:Hid (z0g A tA kA):=hA;clear hA;go_wp2_with fail;refine(HA.out B b s r r0 _ _ l k _ HR.out.symm HN'.out HS.out.1 HS.out.2 hc' HW'.out hBc (by omega)).mono ?_;rintro e w3⟨⟨a3,cap3,rfl,n3,hc3⟩,h3,hb3,hk3⟩;go_wp2;go_ret;exact⟨⟨_,_,rfl,n3,hc3⟩,h3,HB'.out.trans hb3,HK'.out.trans hk3⟩
theorem j7a(tx:ByteArray)(n:Int)(A:List Nd)(tA:List UInt8)(kA:Bool)(hA:z0g A tA kA):z0g (⟨8,tx,n⟩::A) (tA) (kA):=by
 intro B b s ds r0 a cap l k w hd hN hsB hsb hc hW hBw hl;generalize hr:A++r0=r;have HR:Hid (A++r0=r):=hr;have HRL:Hid (r.length=(A:List Nd).length+r0.length):=(show _=_ by rw[<-hr,List.length_append]);obtain rfl:ds=⟨8,tx,n⟩::r:=by rw[hd,<-hr];rfl
 clear hd hr;obtain⟨o0,ea,c1,c2,c3⟩:=hN 0 (by simp);subst ea;simp only[List.length_cons]at hc hl⊢;have HN1:Hid (q0p s w (some ⟨s,o0+3,none⟩) r):=hN.rest
 have HN2:Hid (cap=1->q0p s w (some ⟨s,o0,none⟩) r):=fun h=>by
  have h1:=hN.slid hc;rw[if_pos h]at h1;exact h1
 have HW:Hid (Ln B b l k w):=hW;simp only[Nat.zero_mul,Nat.add_zero,List.getElem_cons_zero]at c1 c2 c3;have hb0:s<w.heap.size:=by omega
 have hr1:(1:Int)<=(r.length:Int)+1:=by omega
 have HB:Hid (∀O:Obj,q0j B b w (w.alloc O).drew):=fun O=>q0j.drew ((q0j.refl B b w).alloc hBw O)
 have HK:Hid (∀O:Obj,Lib.OthersKept 5 (some b) w (w.alloc O).drew):=fun O=>((Lib.OthersKept.refl _ _ w).alloc O).drew
 have HS:Hid (s<B/\s≠b):=⟨hsB,hsb⟩;clear hN hW hsB hsb;go_in
 go_upto_region 1 with fail
 go_cut [0,1,5,6] (fun t _ p q wx=>z1s B b s w.heap.size ⟨8,tx,n⟩ r l k w t p q wx)
 case first=>
  go_region
  all_goals (go_wp2_with fail)
  all_goals
   go_meet
   refine⟨rfl,rfl,⟨_,_,rfl,?_,by omega⟩,by simp[go_sem],by simp[go_sem],by simp[go_sem],IsX.drew (IsX.alloc HW.out _),HB.out _,HK.out _⟩
   first
    | exact HN1.out.kept ((HB.out _).block s HS.out.1 HS.out.2)
    | exact(HN2.out (by assumption)).kept ((HB.out _).block s HS.out.1 HS.out.2)
    | exact(HN2.out rfl).kept ((HB.out _).block s HS.out.1 HS.out.2)
 case rest=>
  obtain⟨rfl,rfl,⟨a',cap',rfl,hn,hc'⟩,e1,e2,e3,hw,hbw,hkw⟩:=hcut;dsimp only at e1 e2 e3;have HN':Hid (q0p s wc a' r):=hn;have HW':Hid (Ln B b l k wc):=hw;have HB':Hid (q0j B b w wc):=hbw;have HK':Hid (Lib.OthersKept 5 (some b) w wc):=hkw;have hBc:B<=wc.heap.size:=Nat.le_trans hBw hbw.size;clear hn hw hbw hkw;have HA:Hid (z0g A tA kA):=hA;clear hA;go_wp2_with fail;refine(HA.out B b s r r0 _ _ l k _ HR.out.symm HN'.out HS.out.1 HS.out.2 hc' HW'.out hBc (by omega)).mono ?_;rintro e w3⟨⟨a3,cap3,rfl,n3,hc3⟩,h3,hb3,hk3⟩;go_wp2;go_ret;exact⟨⟨_,_,rfl,n3,hc3⟩,h3,HB'.out.trans hb3,HK'.out.trans hk3⟩
end Go.Proofs.YthjapabokcajhaaGreatDoor
namespace Go.Proofs.YthjapabokcajhaaGreatDoor
open Go Go.RowKit
set_option maxRecDepth 100000
set_option maxHeartbeats 4000000
theorem j7b(tx:ByteArray)(n:Int)(A C:List Nd)(tA tC:List UInt8)(kA kC:Bool)(hA:z0g A tA kA)(hC:z0g C tC kC):z0g (⟨9,tx,n⟩::(A++C)) (tA) (kA):=by
 intro B b s ds r0 a cap l k w hd hN hsB hsb hc hW hBw hl;generalize hr:(A++C)++r0=r;have HR:Hid ((A++C)++r0=r):=hr;have HRL:Hid (r.length=((A++C):List Nd).length+r0.length):=(show _=_ by rw[<-hr,List.length_append]);obtain rfl:ds=⟨9,tx,n⟩::r:=by rw[hd,<-hr];rfl
 clear hd hr;obtain⟨o0,ea,c1,c2,c3⟩:=hN 0 (by simp);subst ea;simp only[List.length_cons]at hc hl⊢;have HN1:Hid (q0p s w (some ⟨s,o0+3,none⟩) r):=hN.rest
 have HN2:Hid (cap=1->q0p s w (some ⟨s,o0,none⟩) r):=fun h=>by
  have h1:=hN.slid hc;rw[if_pos h]at h1;exact h1
 have HW:Hid (Ln B b l k w):=hW;simp only[Nat.zero_mul,Nat.add_zero,List.getElem_cons_zero]at c1 c2 c3;have hb0:s<w.heap.size:=by omega
 have hr1:(1:Int)<=(r.length:Int)+1:=by omega
 have HB:Hid (∀O:Obj,q0j B b w (w.alloc O).drew):=fun O=>q0j.drew ((q0j.refl B b w).alloc hBw O)
 have HK:Hid (∀O:Obj,Lib.OthersKept 5 (some b) w (w.alloc O).drew):=fun O=>((Lib.OthersKept.refl _ _ w).alloc O).drew
 have HS:Hid (s<B/\s≠b):=⟨hsB,hsb⟩;clear hN hW hsB hsb;go_in
 go_upto_region 1 with fail
 go_cut [0,1,5,6] (fun t _ p q wx=>z1s B b s w.heap.size ⟨9,tx,n⟩ r l k w t p q wx)
 case first=>
  go_region
  all_goals (go_wp2_with fail)
  all_goals
   go_meet
   refine⟨rfl,rfl,⟨_,_,rfl,?_,by omega⟩,by simp[go_sem],by simp[go_sem],by simp[go_sem],IsX.drew (IsX.alloc HW.out _),HB.out _,HK.out _⟩
   first
    | exact HN1.out.kept ((HB.out _).block s HS.out.1 HS.out.2)
    | exact(HN2.out (by assumption)).kept ((HB.out _).block s HS.out.1 HS.out.2)
    | exact(HN2.out rfl).kept ((HB.out _).block s HS.out.1 HS.out.2)
 case rest=>
  obtain⟨rfl,rfl,⟨a',cap',rfl,hn,hc'⟩,e1,e2,e3,hw,hbw,hkw⟩:=hcut;dsimp only at e1 e2 e3;have HN':Hid (q0p s wc a' r):=hn;have HW':Hid (Ln B b l k wc):=hw;have HB':Hid (q0j B b w wc):=hbw;have HK':Hid (Lib.OthersKept 5 (some b) w wc):=hkw;have hBc:B<=wc.heap.size:=Nat.le_trans hBw hbw.size;clear hn hw hbw hkw;rw[List.append_assoc]at HR;generalize hrc:C++r0=rc at HR;have HRC:Hid (C++r0=rc):=hrc;have HLC:Hid (rc.length=C.length+r0.length):=(show _=_ by rw[<-hrc,List.length_append]);have HAC:Hid ((A++C).length=A.length+C.length):=(show _=_ from List.length_append);clear hrc;have HA:Hid (z0g A tA kA):=hA;have HC:Hid (z0g C tC kC):=hC;clear hA hC;go_wp2_with fail;refine(HA.out B b s r rc _ _ l k _ HR.out.symm (HN'.out.kept (Below.heap_alloc _ _ _ (by have:=HS.out;omega))) HS.out.1 HS.out.2 hc' (IsX.alloc HW'.out _) (by simp;omega) (by omega)).mono ?_;rintro e w3⟨⟨a3,cap3,rfl,n3,hc3⟩,h3,hb3,hk3⟩;have hbc:b<wc.heap.size:=IsX.lt HW'.out;have hx:=hk3 wc.heap.size _ (heap_alloc_new wc _) (by simp;omega) (by intro c fz h;cases h);have hsz:=hb3.size;have hsz2:wc.heap.size+1<=w3.heap.size:=by simpa using hsz
  have HX:Hid (w3.heap[wc.heap.size]?=_):=hx;clear hsz hx;go_wp2_with fail;refine(HC.out w3.heap.size wc.heap.size s rc r0 _ _ [] false _ HRC.out.symm n3 (by have:=HS.out;omega) (by have:=HS.out;omega) hc3 (IsX.unused _ _ _ _ _ HX.out) (Nat.le_refl _) (by have q1:=HRL.out;have q2:=HLC.out;have q3:=HAC.out;simp;omega)).mono ?_;rintro e w4⟨⟨a4,cap4,rfl,n4,hc4⟩,h4,hb4,hk4⟩;go_wp2;go_ret;refine⟨⟨_,_,rfl,n4,hc4⟩,IsX.far h3 hb4 (by omega) HX.out (by decide),(HB'.out.trans (((q0j.refl _ _ _).alloc hBc _).trans hb3)).trans (hb4.weak (by omega) hBc),?_⟩;exact j0h (HK'.out.trans (((Lib.OthersKept.refl _ _ _).alloc _).trans hk3)) hk4 HB'.out.size
end Go.Proofs.YthjapabokcajhaaGreatDoor
namespace Go.Proofs.YthjapabokcajhaaGreatDoor
open Go Go.RowKit
theorem j0f{s:ByteArray}(h1:1<=s.size)(h2:s.size<=20)(h:∀k(h:k<s.size),q3l s[k]=true):isW s=true:=by
 simp only[isW,h1,h2,decide_true,Bool.true_and,List.all_eq_true];intro b hb;obtain⟨i,hi,rfl⟩:=List.getElem_of_mem hb;exact h i (by rw[<-q0w];exact hi)
theorem j6c{s:ByteArray}{k:Nat}(h:k<s.size)(hb:q3l s[k]=false):isW s=false:=by
 cases e:isW s with
 | false=>rfl
 | true=>
  simp only[isW,Bool.and_eq_true,List.all_eq_true]at e
  have:=e.2 s[k] (by
   have:k<s.data.toList.length:=by rw[q0w];exact h
   exact List.getElem_mem this)
  rw[hb]at this;cases this
theorem z7l{b:UInt8}(h:q3l b=false):(b.toNat:Int)<32\/(¬(b.toNat:Int)<32/\126<(b.toNat:Int)):=by
 simp[q3l]at h;omega
theorem k1k{b:UInt8}(h:q3l b=true):¬(b.toNat:Int)<32/\¬126<(b.toNat:Int):=by
 simp[q3l]at h;omega
theorem k7a{s:ByteArray}(h:s.size≠0):¬s.toList=[]:=by
 rw[ByteArray.toList_eq];intro e
 have:=q0w s
 rw[e]at this;exact h this.symm
theorem v3e{op:Int}(h1:¬op<1)(h2:¬9<op):op=1\/op=2\/op=3\/op=4\/op=5\/op=6\/op=7\/op=8\/op=9:=by omega
theorem k3e{ds:List Nd}(h:400<ds.length):q2a ds=3:=by rw[q2a,if_pos h]
theorem k3f{ds:List Nd}{k:Nat}(hl:ds.length<=400)(hk:k<ds.length)(ha:∀x∈ds.take k,q0s x=0)(h:q0s ds[k]≠0):q2a ds=q0s ds[k]:=by
 have e:=z3z ds k hk ha h;rw[q2a,if_neg (by omega),if_neg (by rw[e];exact h),e]
theorem k9p{ds:List Nd}(hl:ds.length<=400)(ha:∀x∈ds,q0s x=0):q2a ds=if q1f ds 0 1=some ds.length then 0 else 2:=by
 rw[q2a,if_neg (by omega),if_pos (q7u ds ha)]
theorem j1s{ds:List Nd}{k:Nat}(h:¬k<ds.length)(ha:∀x∈ds.take k,q0s x=0):∀x∈ds,q0s x=0:=by
 rw[List.take_of_length_le (by omega)]at ha;exact ha
theorem k7n{ds:List Nd}{k:Nat}(h:k<ds.length)(ha:∀x∈ds.take k,q0s x=0)(h0:q0s ds[k]=0):∀x∈ds.take (k+1),q0s x=0:=by
 intro x hx;rw[List.take_succ_eq_append_getElem h]at hx;rcases List.mem_append.1 hx with hx|hx
 ·exact ha x hx
 ·simp at hx;subst hx;exact h0
end Go.Proofs.YthjapabokcajhaaGreatDoor
