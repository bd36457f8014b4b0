/- Texts as one: LayF, LayF1, LayF3, LayF6, LayF7, LayF9, DocL, LayFZ. -/
import Derived.Test.YthjapabokcajhaaGreatDoorPi10
open Go.Proofs.Tryz
namespace Go.Proofs.YthjapabokcajhaaGreatDoor
open Go Go.RowKit
def Ln(B b:Nat)(l:List UInt8)(k:Bool)(w:World):Prop:=IsX 285 B b (Lib.byteCells l) [.bool k] w
theorem v6y:z7r 285 3:=by unfold z7r;kernel_rfl
theorem Ln.cell{B b:Nat}{l:List UInt8}{k:Bool}{w:World}(h:Ln B b l k w):w.cell? ⟨b,2,none⟩=some (.bool k):=IsX.cellR h 0
theorem Ln.frozen{B b:Nat}{l:List UInt8}{k:Bool}{w:World}(h:Ln B b l k w):w.frozen? ⟨b,2,none⟩=false:=IsX.frozen h 2
theorem Ln.stored{B b:Nat}{l:List UInt8}{k:Bool}{w:World}(h:Ln B b l k w)(k':Bool):Ln B b l k' (w.setCell ⟨b,2,none⟩ (.bool k')):=IsX.stored h 0 (.bool k')
theorem y8b{B b:Nat}{l:List UInt8}{k:Bool}{w:World}(h:Ln B b l k w)(hB:B<=w.heap.size)(c:UInt8)(z:Int)(hz:z=(c.toNat:Int))(hl:l.length<=1000000):
  Calls prog 45 #[.pointer (some ⟨b,0,none⟩),.int .u8 z] w fun e w'=>e=.returned .nilIface/\Ln B b (l++[c]) k w'/\q0u B b w w'/\Lib.OthersKept 5 (some b) w w':=by
 subst hz;refine(v0g 285 B b _ [.bool k] _ w v6y (by decide) h (by rw[Lib.byteCells_length];omega) hB).mono ?_;rintro e w'⟨rfl,h1,h2,h3⟩;refine⟨rfl,?_,h2,h3⟩;rw[Ln,Lib.byteCells_append];exact h1
theorem y9e{B b:Nat}{l:List UInt8}{k:Bool}{w:World}(h:Ln B b l k w)(hB:B<=w.heap.size)(s:ByteArray)(hl:l.length+s.size<=2000000):
  Calls prog 38 #[.pointer (some ⟨b,0,none⟩),.string s] w fun e w'=>(∃z,e=.returned (.tuple #[.int .i64 z,.nilIface]))/\Ln B b (l++s.data.toList) k w'/\q0u B b w w'/\Lib.OthersKept 5 (some b) w w':=by
 refine(z5m 285 B b _ [.bool k] s w v6y (by decide) h (by rw[Lib.byteCells_length];omega) hB).mono ?_;rintro e w'⟨rfl,h1,h2,h3⟩;refine⟨⟨_,rfl⟩,?_,h2,h3⟩;rw[Ln,Lib.byteCells_append];exact h1
def y3c(B b s:Nat)(r:List Nd)(l:List UInt8)(k:Bool)(w:World)(e:Ending)(w':World):Prop:=
 (∃a' cap',e=.returned (.slice a' r.length cap')/\q1a s w' a' r/\r.length<=cap')/\Ln B b l k w'/\q0u B b w w'/\Lib.OthersKept 5 (some b) w w'
def z5r(A:List Nd)(tA:List UInt8)(kA:Bool):Prop:=∀(B b s:Nat)(ds r:List Nd)(a:Option Addr)(cap:Nat)(l:List UInt8)(k:Bool)(w:World),ds=A++r->q1a s w a ds->s<B->s≠b->ds.length<=cap->Ln B b l k w->B<=w.heap.size->l.length+20*ds.length<=1000000->
  Calls prog 211 #[.pointer (some ⟨b,0,none⟩),.slice a ds.length cap] w (y3c B b s r (l++tA) (k||kA) w)
def z7q(B b s:Nat)(n0:Nat)(x:Nd)(r:List Nd)(l:List UInt8)(k:Bool)(w:World)(t p q:Value)(wx:World):Prop:=
 t=.pointer (some ⟨b,0,none⟩)/\p=.pointer (some ⟨n0,0,none⟩)/\(∃a' cap',q=.slice a' r.length cap'/\q1a s wx a' r/\r.length<=cap')/\wx.cell? ⟨n0,0,none⟩=some (.int .i64 x.op)/\wx.cell? ⟨n0,1,none⟩=some (.string x.tx)/\wx.cell? ⟨n0,2,none⟩=some (.int .i64 x.n)/\Ln B b l k wx/\q0u B b w wx/\Lib.OthersKept 5 (some b) w wx
theorem q0u.weak{B B' b x:Nat}{w w':World}(h:q0u B' x w w')(hB:B<=B')(hx:B<=x):q0u B b w w':=⟨h.os,h.tape,h.output,h.size,fun k hk _=>h.block k (by omega) (by omega)⟩
theorem v2v{e:TypeId}{b x:Nat}{w w3 w4:World}(h:Lib.OthersKept e (some b) w w3)(h':Lib.OthersKept e (some x) w3 w4)(hx:w.heap.size<=x):Lib.OthersKept e (some b) w w4:=by
 intro k o hk hb ho;have hlt:k<w.heap.size:=(Array.getElem?_eq_some_iff.1 hk).1;exact h' k o (h k o hk hb ho) (fun e=>by cases e;omega) ho
set_option maxRecDepth 100000
set_option maxHeartbeats 4000000
theorem y0q(tx:ByteArray)(n:Int)(ht:tx.size<=20):z5r (⟨1,tx,n⟩::[]) (tx.data.toList) (false):=by
 intro B b s ds r0 a cap l k w hd hN hsB hsb hc hW hBw hl;generalize hr:[]++r0=r;have HR:Hid ([]++r0=r):=hr;have HRL:Hid (r.length=([]:List Nd).length+r0.length):=(show _=_ by rw[<-hr,List.length_append]);obtain rfl:ds=⟨1,tx,n⟩::r:=by rw[hd,<-hr];rfl
 clear hd hr;obtain⟨o0,ea,c1,c2,c3⟩:=hN 0 (by simp);subst ea;simp only[List.length_cons]at hc hl⊢;have HN1:Hid (q1a s w (some ⟨s,o0+3,none⟩) r):=hN.rest
 have HN2:Hid (cap=1->q1a s w (some ⟨s,o0,none⟩) r):=fun h=>by
  have h1:=hN.slid hc;rw[if_pos h]at h1;exact h1
 have HW:Hid (Ln B b l k w):=hW;simp only[Nat.zero_mul,Nat.add_zero,List.getElem_cons_zero]at c1 c2 c3;have hb0:s<w.heap.size:=by omega
 have hr1:(1:Int)<=(r.length:Int)+1:=by omega
 have HB:Hid (∀O:Obj,q0u B b w (w.alloc O).drew):=fun O=>q0u.drew ((q0u.refl B b w).alloc hBw O)
 have HK:Hid (∀O:Obj,Lib.OthersKept 5 (some b) w (w.alloc O).drew):=fun O=>((Lib.OthersKept.refl _ _ w).alloc O).drew
 have HS:Hid (s<B/\s≠b):=⟨hsB,hsb⟩;clear hN hW hsB hsb;go_in
 go_upto_region 1 with fail
 go_cut [0,1,5,6] (fun t _ p q wx=>z7q B b s w.heap.size ⟨1,tx,n⟩ r l k w t p q wx)
 case first=>
  go_region
  all_goals (go_wp2_with fail)
  all_goals
   go_meet
   refine⟨rfl,rfl,⟨_,_,rfl,?_,by omega⟩,by simp[go_sem],by simp[go_sem],by simp[go_sem],IsX.drew (IsX.alloc HW.o _),HB.o _,HK.o _⟩
   first
    | exact HN1.o.kept ((HB.o _).block s HS.o.1 HS.o.2)
    | exact(HN2.o (by assumption)).kept ((HB.o _).block s HS.o.1 HS.o.2)
    | exact(HN2.o rfl).kept ((HB.o _).block s HS.o.1 HS.o.2)
 case rest=>
  obtain⟨rfl,rfl,⟨a',cap',rfl,hn,hc'⟩,e1,e2,e3,hw,hbw,hkw⟩:=hcut;dsimp only at e1 e2 e3;have HN':Hid (q1a s wc a' r):=hn;have HW':Hid (Ln B b l k wc):=hw;have HB':Hid (q0u B b w wc):=hbw;have HK':Hid (Lib.OthersKept 5 (some b) w wc):=hkw;have hBc:B<=wc.heap.size:=Nat.le_trans hBw hbw.size;clear hn hw hbw hkw;go_wp2_with fail
  go_region_with (go_at_call 38;refine(y9e (w:=wc.drew) HW'.o hBc tx (by omega)).mono ?_;rintro e w2⟨⟨z,rfl⟩,h2,hb2,hk2⟩)
  all_goals
   go_wp2;go_ret;obtain rfl:r0=r:=HR.o;rw[Bool.or_false];exact⟨⟨_,_,rfl,q1a.kept (w:=wc.drew) HN'.o (hb2.block s HS.o.1 HS.o.2),hc'⟩,h2,HB'.o.drew.trans hb2,HK'.o.drew.trans hk2⟩
theorem y0r(tx:ByteArray)(n:Int):z5r (⟨2,tx,n⟩::[]) ([32]) (false):=by
 intro B b s ds r0 a cap l k w hd hN hsB hsb hc hW hBw hl;generalize hr:[]++r0=r;have HR:Hid ([]++r0=r):=hr;have HRL:Hid (r.length=([]:List Nd).length+r0.length):=(show _=_ by rw[<-hr,List.length_append]);obtain rfl:ds=⟨2,tx,n⟩::r:=by rw[hd,<-hr];rfl
 clear hd hr;obtain⟨o0,ea,c1,c2,c3⟩:=hN 0 (by simp);subst ea;simp only[List.length_cons]at hc hl⊢;have HN1:Hid (q1a s w (some ⟨s,o0+3,none⟩) r):=hN.rest
 have HN2:Hid (cap=1->q1a s w (some ⟨s,o0,none⟩) r):=fun h=>by
  have h1:=hN.slid hc;rw[if_pos h]at h1;exact h1
 have HW:Hid (Ln B b l k w):=hW;simp only[Nat.zero_mul,Nat.add_zero,List.getElem_cons_zero]at c1 c2 c3;have hb0:s<w.heap.size:=by omega
 have hr1:(1:Int)<=(r.length:Int)+1:=by omega
 have HB:Hid (∀O:Obj,q0u B b w (w.alloc O).drew):=fun O=>q0u.drew ((q0u.refl B b w).alloc hBw O)
 have HK:Hid (∀O:Obj,Lib.OthersKept 5 (some b) w (w.alloc O).drew):=fun O=>((Lib.OthersKept.refl _ _ w).alloc O).drew
 have HS:Hid (s<B/\s≠b):=⟨hsB,hsb⟩;clear hN hW hsB hsb;go_in
 go_upto_region 1 with fail
 go_cut [0,1,5,6] (fun t _ p q wx=>z7q B b s w.heap.size ⟨2,tx,n⟩ r l k w t p q wx)
 case first=>
  go_region
  all_goals (go_wp2_with fail)
  all_goals
   go_meet
   refine⟨rfl,rfl,⟨_,_,rfl,?_,by omega⟩,by simp[go_sem],by simp[go_sem],by simp[go_sem],IsX.drew (IsX.alloc HW.o _),HB.o _,HK.o _⟩
   first
    | exact HN1.o.kept ((HB.o _).block s HS.o.1 HS.o.2)
    | exact(HN2.o (by assumption)).kept ((HB.o _).block s HS.o.1 HS.o.2)
    | exact(HN2.o rfl).kept ((HB.o _).block s HS.o.1 HS.o.2)
 case rest=>
  obtain⟨rfl,rfl,⟨a',cap',rfl,hn,hc'⟩,e1,e2,e3,hw,hbw,hkw⟩:=hcut;dsimp only at e1 e2 e3;have HN':Hid (q1a s wc a' r):=hn;have HW':Hid (Ln B b l k wc):=hw;have HB':Hid (q0u B b w wc):=hbw;have HK':Hid (Lib.OthersKept 5 (some b) w wc):=hkw;have hBc:B<=wc.heap.size:=Nat.le_trans hBw hbw.size;clear hn hw hbw hkw;go_wp2_with fail;refine(y8b HW'.o hBc 32 32 rfl (by omega)).mono ?_;rintro e w2⟨rfl,h2,hb2,hk2⟩;go_wp2;go_ret;obtain rfl:r0=r:=HR.o;rw[Bool.or_false];exact⟨⟨_,_,rfl,HN'.o.kept (hb2.block s HS.o.1 HS.o.2),hc'⟩,h2,HB'.o.trans hb2,HK'.o.trans hk2⟩
theorem y0s(tx:ByteArray)(n:Int):z5r (⟨3,tx,n⟩::[]) ([]) (false):=by
 intro B b s ds r0 a cap l k w hd hN hsB hsb hc hW hBw hl;generalize hr:[]++r0=r;have HR:Hid ([]++r0=r):=hr;have HRL:Hid (r.length=([]:List Nd).length+r0.length):=(show _=_ by rw[<-hr,List.length_append]);obtain rfl:ds=⟨3,tx,n⟩::r:=by rw[hd,<-hr];rfl
 clear hd hr;obtain⟨o0,ea,c1,c2,c3⟩:=hN 0 (by simp);subst ea;simp only[List.length_cons]at hc hl⊢;have HN1:Hid (q1a s w (some ⟨s,o0+3,none⟩) r):=hN.rest
 have HN2:Hid (cap=1->q1a s w (some ⟨s,o0,none⟩) r):=fun h=>by
  have h1:=hN.slid hc;rw[if_pos h]at h1;exact h1
 have HW:Hid (Ln B b l k w):=hW;simp only[Nat.zero_mul,Nat.add_zero,List.getElem_cons_zero]at c1 c2 c3;have hb0:s<w.heap.size:=by omega
 have hr1:(1:Int)<=(r.length:Int)+1:=by omega
 have HB:Hid (∀O:Obj,q0u B b w (w.alloc O).drew):=fun O=>q0u.drew ((q0u.refl B b w).alloc hBw O)
 have HK:Hid (∀O:Obj,Lib.OthersKept 5 (some b) w (w.alloc O).drew):=fun O=>((Lib.OthersKept.refl _ _ w).alloc O).drew
 have HS:Hid (s<B/\s≠b):=⟨hsB,hsb⟩;clear hN hW hsB hsb;go_in
 go_upto_region 1 with fail
 go_cut [0,1,5,6] (fun t _ p q wx=>z7q B b s w.heap.size ⟨3,tx,n⟩ r l k w t p q wx)
 case first=>
  go_region
  all_goals (go_wp2_with fail)
  all_goals
   go_meet
   refine⟨rfl,rfl,⟨_,_,rfl,?_,by omega⟩,by simp[go_sem],by simp[go_sem],by simp[go_sem],IsX.drew (IsX.alloc HW.o _),HB.o _,HK.o _⟩
   first
    | exact HN1.o.kept ((HB.o _).block s HS.o.1 HS.o.2)
    | exact(HN2.o (by assumption)).kept ((HB.o _).block s HS.o.1 HS.o.2)
    | exact(HN2.o rfl).kept ((HB.o _).block s HS.o.1 HS.o.2)
 case rest=>
  obtain⟨rfl,rfl,⟨a',cap',rfl,hn,hc'⟩,e1,e2,e3,hw,hbw,hkw⟩:=hcut;dsimp only at e1 e2 e3;have HN':Hid (q1a s wc a' r):=hn;have HW':Hid (Ln B b l k wc):=hw;have HB':Hid (q0u B b w wc):=hbw;have HK':Hid (Lib.OthersKept 5 (some b) w wc):=hkw;have hBc:B<=wc.heap.size:=Nat.le_trans hBw hbw.size;clear hn hw hbw hkw;go_wp2;go_ret;obtain rfl:r0=r:=HR.o;rw[Bool.or_false,List.append_nil];exact⟨⟨_,_,rfl,HN'.o,hc'⟩,HW'.o,HB'.o,HK'.o⟩
theorem y0u(tx:ByteArray)(n:Int):z5r (⟨5,tx,n⟩::[]) ([]) (false):=by
 intro B b s ds r0 a cap l k w hd hN hsB hsb hc hW hBw hl;generalize hr:[]++r0=r;have HR:Hid ([]++r0=r):=hr;have HRL:Hid (r.length=([]:List Nd).length+r0.length):=(show _=_ by rw[<-hr,List.length_append]);obtain rfl:ds=⟨5,tx,n⟩::r:=by rw[hd,<-hr];rfl
 clear hd hr;obtain⟨o0,ea,c1,c2,c3⟩:=hN 0 (by simp);subst ea;simp only[List.length_cons]at hc hl⊢;have HN1:Hid (q1a s w (some ⟨s,o0+3,none⟩) r):=hN.rest
 have HN2:Hid (cap=1->q1a s w (some ⟨s,o0,none⟩) r):=fun h=>by
  have h1:=hN.slid hc;rw[if_pos h]at h1;exact h1
 have HW:Hid (Ln B b l k w):=hW;simp only[Nat.zero_mul,Nat.add_zero,List.getElem_cons_zero]at c1 c2 c3;have hb0:s<w.heap.size:=by omega
 have hr1:(1:Int)<=(r.length:Int)+1:=by omega
 have HB:Hid (∀O:Obj,q0u B b w (w.alloc O).drew):=fun O=>q0u.drew ((q0u.refl B b w).alloc hBw O)
 have HK:Hid (∀O:Obj,Lib.OthersKept 5 (some b) w (w.alloc O).drew):=fun O=>((Lib.OthersKept.refl _ _ w).alloc O).drew
 have HS:Hid (s<B/\s≠b):=⟨hsB,hsb⟩;clear hN hW hsB hsb;go_in
 go_upto_region 1 with fail
 go_cut [0,1,5,6] (fun t _ p q wx=>z7q B b s w.heap.size ⟨5,tx,n⟩ r l k w t p q wx)
 case first=>
  go_region
  all_goals (go_wp2_with fail)
  all_goals
   go_meet
   refine⟨rfl,rfl,⟨_,_,rfl,?_,by omega⟩,by simp[go_sem],by simp[go_sem],by simp[go_sem],IsX.drew (IsX.alloc HW.o _),HB.o _,HK.o _⟩
   first
    | exact HN1.o.kept ((HB.o _).block s HS.o.1 HS.o.2)
    | exact(HN2.o (by assumption)).kept ((HB.o _).block s HS.o.1 HS.o.2)
    | exact(HN2.o rfl).kept ((HB.o _).block s HS.o.1 HS.o.2)
 case rest=>
  obtain⟨rfl,rfl,⟨a',cap',rfl,hn,hc'⟩,e1,e2,e3,hw,hbw,hkw⟩:=hcut;dsimp only at e1 e2 e3;have HN':Hid (q1a s wc a' r):=hn;have HW':Hid (Ln B b l k wc):=hw;have HB':Hid (q0u B b w wc):=hbw;have HK':Hid (Lib.OthersKept 5 (some b) w wc):=hkw;have hBc:B<=wc.heap.size:=Nat.le_trans hBw hbw.size;clear hn hw hbw hkw;go_wp2;go_ret;obtain rfl:r0=r:=HR.o;rw[Bool.or_false,List.append_nil];exact⟨⟨_,_,rfl,HN'.o,hc'⟩,HW'.o,HB'.o,HK'.o⟩
theorem y0t(tx:ByteArray)(n:Int):z5r (⟨4,tx,n⟩::[]) ([]) (true):=by
 intro B b s ds r0 a cap l k w hd hN hsB hsb hc hW hBw hl;generalize hr:[]++r0=r;have HR:Hid ([]++r0=r):=hr;have HRL:Hid (r.length=([]:List Nd).length+r0.length):=(show _=_ by rw[<-hr,List.length_append]);obtain rfl:ds=⟨4,tx,n⟩::r:=by rw[hd,<-hr];rfl
 clear hd hr;obtain⟨o0,ea,c1,c2,c3⟩:=hN 0 (by simp);subst ea;simp only[List.length_cons]at hc hl⊢;have HN1:Hid (q1a s w (some ⟨s,o0+3,none⟩) r):=hN.rest
 have HN2:Hid (cap=1->q1a s w (some ⟨s,o0,none⟩) r):=fun h=>by
  have h1:=hN.slid hc;rw[if_pos h]at h1;exact h1
 have HW:Hid (Ln B b l k w):=hW;simp only[Nat.zero_mul,Nat.add_zero,List.getElem_cons_zero]at c1 c2 c3;have hb0:s<w.heap.size:=by omega
 have hr1:(1:Int)<=(r.length:Int)+1:=by omega
 have HB:Hid (∀O:Obj,q0u B b w (w.alloc O).drew):=fun O=>q0u.drew ((q0u.refl B b w).alloc hBw O)
 have HK:Hid (∀O:Obj,Lib.OthersKept 5 (some b) w (w.alloc O).drew):=fun O=>((Lib.OthersKept.refl _ _ w).alloc O).drew
 have HS:Hid (s<B/\s≠b):=⟨hsB,hsb⟩;clear hN hW hsB hsb;go_in
 go_upto_region 1 with fail
 go_cut [0,1,5,6] (fun t _ p q wx=>z7q B b s w.heap.size ⟨4,tx,n⟩ r l k w t p q wx)
 case first=>
  go_region
  all_goals (go_wp2_with fail)
  all_goals
   go_meet
   refine⟨rfl,rfl,⟨_,_,rfl,?_,by omega⟩,by simp[go_sem],by simp[go_sem],by simp[go_sem],IsX.drew (IsX.alloc HW.o _),HB.o _,HK.o _⟩
   first
    | exact HN1.o.kept ((HB.o _).block s HS.o.1 HS.o.2)
    | exact(HN2.o (by assumption)).kept ((HB.o _).block s HS.o.1 HS.o.2)
    | exact(HN2.o rfl).kept ((HB.o _).block s HS.o.1 HS.o.2)
 case rest=>
  obtain⟨rfl,rfl,⟨a',cap',rfl,hn,hc'⟩,e1,e2,e3,hw,hbw,hkw⟩:=hcut;dsimp only at e1 e2 e3;have HN':Hid (q1a s wc a' r):=hn;have HW':Hid (Ln B b l k wc):=hw;have HB':Hid (q0u B b w wc):=hbw;have HK':Hid (Lib.OthersKept 5 (some b) w wc):=hkw;have hBc:B<=wc.heap.size:=Nat.le_trans hBw hbw.size;clear hn hw hbw hkw;have g1:=HW'.o.cell;have g2:=HW'.o.frozen;go_wp2;go_ret;obtain rfl:r0=r:=HR.o;rw[Bool.or_true,List.append_nil];refine⟨⟨_,_,rfl,HN'.o.kept (Below.heap_setCell _ _ _ _ HS.o.2),hc'⟩,HW'.o.stored true,HB'.o.setCell (.inl rfl) _,HK'.o.setCell _ rfl _⟩
theorem y0v(tx:ByteArray)(n:Int)(A C:List Nd)(tA tC:List UInt8)(kA kC:Bool)(hA:z5r A tA kA)(hC:z5r C tC kC)(htA:tA.length<=20*A.length):z5r (⟨6,tx,n⟩::(A++C)) (tA++tC) (kA||kC):=by
 intro B b s ds r0 a cap l k w hd hN hsB hsb hc hW hBw hl;generalize hr:(A++C)++r0=r;have HR:Hid ((A++C)++r0=r):=hr;have HRL:Hid (r.length=((A++C):List Nd).length+r0.length):=(show _=_ by rw[<-hr,List.length_append]);obtain rfl:ds=⟨6,tx,n⟩::r:=by rw[hd,<-hr];rfl
 clear hd hr;obtain⟨o0,ea,c1,c2,c3⟩:=hN 0 (by simp);subst ea;simp only[List.length_cons]at hc hl⊢;have HN1:Hid (q1a s w (some ⟨s,o0+3,none⟩) r):=hN.rest
 have HN2:Hid (cap=1->q1a s w (some ⟨s,o0,none⟩) r):=fun h=>by
  have h1:=hN.slid hc;rw[if_pos h]at h1;exact h1
 have HW:Hid (Ln B b l k w):=hW;simp only[Nat.zero_mul,Nat.add_zero,List.getElem_cons_zero]at c1 c2 c3;have hb0:s<w.heap.size:=by omega
 have hr1:(1:Int)<=(r.length:Int)+1:=by omega
 have HB:Hid (∀O:Obj,q0u B b w (w.alloc O).drew):=fun O=>q0u.drew ((q0u.refl B b w).alloc hBw O)
 have HK:Hid (∀O:Obj,Lib.OthersKept 5 (some b) w (w.alloc O).drew):=fun O=>((Lib.OthersKept.refl _ _ w).alloc O).drew
 have HS:Hid (s<B/\s≠b):=⟨hsB,hsb⟩;clear hN hW hsB hsb;go_in
 go_upto_region 1 with fail
 go_cut [0,1,5,6] (fun t _ p q wx=>z7q B b s w.heap.size ⟨6,tx,n⟩ r l k w t p q wx)
 case first=>
  go_region
  all_goals (go_wp2_with fail)
  all_goals
   go_meet
   refine⟨rfl,rfl,⟨_,_,rfl,?_,by omega⟩,by simp[go_sem],by simp[go_sem],by simp[go_sem],IsX.drew (IsX.alloc HW.o _),HB.o _,HK.o _⟩
   first
    | exact HN1.o.kept ((HB.o _).block s HS.o.1 HS.o.2)
    | exact(HN2.o (by assumption)).kept ((HB.o _).block s HS.o.1 HS.o.2)
    | exact(HN2.o rfl).kept ((HB.o _).block s HS.o.1 HS.o.2)
 case rest=>
  obtain⟨rfl,rfl,⟨a',cap',rfl,hn,hc'⟩,e1,e2,e3,hw,hbw,hkw⟩:=hcut;dsimp only at e1 e2 e3;have HN':Hid (q1a s wc a' r):=hn;have HW':Hid (Ln B b l k wc):=hw;have HB':Hid (q0u B b w wc):=hbw;have HK':Hid (Lib.OthersKept 5 (some b) w wc):=hkw;have hBc:B<=wc.heap.size:=Nat.le_trans hBw hbw.size;clear hn hw hbw hkw;rw[List.append_assoc]at HR;generalize hrc:C++r0=rc at HR;have HRC:Hid (C++r0=rc):=hrc;have HLC:Hid (rc.length=C.length+r0.length):=(show _=_ by rw[<-hrc,List.length_append]);have HAC:Hid ((A++C).length=A.length+C.length):=(show _=_ from List.length_append);clear hrc;have HA:Hid (z5r A tA kA):=hA;have HC:Hid (z5r C tC kC):=hC;clear hA hC;go_wp2_with fail;refine(HA.o B b s r rc _ _ l k _ HR.o.symm HN'.o HS.o.1 HS.o.2 hc' HW'.o hBc (by omega)).mono ?_;rintro e w3⟨⟨a3,cap3,rfl,n3,hc3⟩,h3,hb3,hk3⟩;have hBw3:B<=w3.heap.size:=Nat.le_trans hBc hb3.size;go_wp2_with fail;refine(HC.o B b s rc r0 _ _ _ _ _ HRC.o.symm n3 HS.o.1 HS.o.2 hc3 h3 hBw3 (by have q1:=HRL.o;have q2:=HLC.o;have q3:=HAC.o;simp;omega)).mono ?_;rintro e w4⟨⟨a4,cap4,rfl,n4,hc4⟩,h4,hb4,hk4⟩;go_wp2;go_ret;rw[<-Bool.or_assoc,<-List.append_assoc];exact⟨⟨_,_,rfl,n4,hc4⟩,h4,HB'.o.trans (hb3.trans hb4),HK'.o.trans (hk3.trans hk4)⟩
theorem y0w(tx:ByteArray)(n:Int)(A:List Nd)(tA:List UInt8)(kA:Bool)(hA:z5r A tA kA):z5r (⟨7,tx,n⟩::A) (tA) (kA):=by
 intro B b s ds r0 a cap l k w hd hN hsB hsb hc hW hBw hl;generalize hr:A++r0=r;have HR:Hid (A++r0=r):=hr;have HRL:Hid (r.length=(A:List Nd).length+r0.length):=(show _=_ by rw[<-hr,List.length_append]);obtain rfl:ds=⟨7,tx,n⟩::r:=by rw[hd,<-hr];rfl
 clear hd hr;obtain⟨o0,ea,c1,c2,c3⟩:=hN 0 (by simp);subst ea;simp only[List.length_cons]at hc hl⊢;have HN1:Hid (q1a s w (some ⟨s,o0+3,none⟩) r):=hN.rest
 have HN2:Hid (cap=1->q1a s w (some ⟨s,o0,none⟩) r):=fun h=>by
  have h1:=hN.slid hc;rw[if_pos h]at h1;exact h1
 have HW:Hid (Ln B b l k w):=hW;simp only[Nat.zero_mul,Nat.add_zero,List.getElem_cons_zero]at c1 c2 c3;have hb0:s<w.heap.size:=by omega
 have hr1:(1:Int)<=(r.length:Int)+1:=by omega
 have HB:Hid (∀O:Obj,q0u B b w (w.alloc O).drew):=fun O=>q0u.drew ((q0u.refl B b w).alloc hBw O)
 have HK:Hid (∀O:Obj,Lib.OthersKept 5 (some b) w (w.alloc O).drew):=fun O=>((Lib.OthersKept.refl _ _ w).alloc O).drew
 have HS:Hid (s<B/\s≠b):=⟨hsB,hsb⟩;clear hN hW hsB hsb;go_in
 go_upto_region 1 with fail
 go_cut [0,1,5,6] (fun t _ p q wx=>z7q B b s w.heap.size ⟨7,tx,n⟩ r l k w t p q wx)
 case first=>
  go_region
  all_goals (go_wp2_with fail)
  all_goals
   go_meet
   refine⟨rfl,rfl,⟨_,_,rfl,?_,by omega⟩,by simp[go_sem],by simp[go_sem],by simp[go_sem],IsX.drew (IsX.alloc HW.o _),HB.o _,HK.o _⟩
   first
    | exact HN1.o.kept ((HB.o _).block s HS.o.1 HS.o.2)
    | exact(HN2.o (by assumption)).kept ((HB.o _).block s HS.o.1 HS.o.2)
    | exact(HN2.o rfl).kept ((HB.o _).block s HS.o.1 HS.o.2)
 case rest=>
  obtain⟨rfl,rfl,⟨a',cap',rfl,hn,hc'⟩,e1,e2,e3,hw,hbw,hkw⟩:=hcut;dsimp only at e1 e2 e3;have HN':Hid (q1a s wc a' r):=hn;have HW':Hid (Ln B b l k wc):=hw;have HB':Hid (q0u B b w wc):=hbw;have HK':Hid (Lib.OthersKept 5 (some b) w wc):=hkw;have hBc:B<=wc.heap.size:=Nat.le_trans hBw hbw.size;clear hn hw hbw hkw;have HA:Hid (z5r A tA kA):=hA;clear hA;go_wp2_with fail;refine(HA.o B b s r r0 _ _ l k _ HR.o.symm HN'.o HS.o.1 HS.o.2 hc' HW'.o hBc (by omega)).mono ?_;rintro e w3⟨⟨a3,cap3,rfl,n3,hc3⟩,h3,hb3,hk3⟩;go_wp2;go_ret;exact⟨⟨_,_,rfl,n3,hc3⟩,h3,HB'.o.trans hb3,HK'.o.trans hk3⟩
theorem y0x(tx:ByteArray)(n:Int)(A:List Nd)(tA:List UInt8)(kA:Bool)(hA:z5r A tA kA):z5r (⟨8,tx,n⟩::A) (tA) (kA):=by
 intro B b s ds r0 a cap l k w hd hN hsB hsb hc hW hBw hl;generalize hr:A++r0=r;have HR:Hid (A++r0=r):=hr;have HRL:Hid (r.length=(A:List Nd).length+r0.length):=(show _=_ by rw[<-hr,List.length_append]);obtain rfl:ds=⟨8,tx,n⟩::r:=by rw[hd,<-hr];rfl
 clear hd hr;obtain⟨o0,ea,c1,c2,c3⟩:=hN 0 (by simp);subst ea;simp only[List.length_cons]at hc hl⊢;have HN1:Hid (q1a s w (some ⟨s,o0+3,none⟩) r):=hN.rest
 have HN2:Hid (cap=1->q1a s w (some ⟨s,o0,none⟩) r):=fun h=>by
  have h1:=hN.slid hc;rw[if_pos h]at h1;exact h1
 have HW:Hid (Ln B b l k w):=hW;simp only[Nat.zero_mul,Nat.add_zero,List.getElem_cons_zero]at c1 c2 c3;have hb0:s<w.heap.size:=by omega
 have hr1:(1:Int)<=(r.length:Int)+1:=by omega
 have HB:Hid (∀O:Obj,q0u B b w (w.alloc O).drew):=fun O=>q0u.drew ((q0u.refl B b w).alloc hBw O)
 have HK:Hid (∀O:Obj,Lib.OthersKept 5 (some b) w (w.alloc O).drew):=fun O=>((Lib.OthersKept.refl _ _ w).alloc O).drew
 have HS:Hid (s<B/\s≠b):=⟨hsB,hsb⟩;clear hN hW hsB hsb;go_in
 go_upto_region 1 with fail
 go_cut [0,1,5,6] (fun t _ p q wx=>z7q B b s w.heap.size ⟨8,tx,n⟩ r l k w t p q wx)
 case first=>
  go_region
  all_goals (go_wp2_with fail)
  all_goals
   go_meet
   refine⟨rfl,rfl,⟨_,_,rfl,?_,by omega⟩,by simp[go_sem],by simp[go_sem],by simp[go_sem],IsX.drew (IsX.alloc HW.o _),HB.o _,HK.o _⟩
   first
    | exact HN1.o.kept ((HB.o _).block s HS.o.1 HS.o.2)
    | exact(HN2.o (by assumption)).kept ((HB.o _).block s HS.o.1 HS.o.2)
    | exact(HN2.o rfl).kept ((HB.o _).block s HS.o.1 HS.o.2)
 case rest=>
  obtain⟨rfl,rfl,⟨a',cap',rfl,hn,hc'⟩,e1,e2,e3,hw,hbw,hkw⟩:=hcut;dsimp only at e1 e2 e3;have HN':Hid (q1a s wc a' r):=hn;have HW':Hid (Ln B b l k wc):=hw;have HB':Hid (q0u B b w wc):=hbw;have HK':Hid (Lib.OthersKept 5 (some b) w wc):=hkw;have hBc:B<=wc.heap.size:=Nat.le_trans hBw hbw.size;clear hn hw hbw hkw;have HA:Hid (z5r A tA kA):=hA;clear hA;go_wp2_with fail;refine(HA.o B b s r r0 _ _ l k _ HR.o.symm HN'.o HS.o.1 HS.o.2 hc' HW'.o hBc (by omega)).mono ?_;rintro e w3⟨⟨a3,cap3,rfl,n3,hc3⟩,h3,hb3,hk3⟩;go_wp2;go_ret;exact⟨⟨_,_,rfl,n3,hc3⟩,h3,HB'.o.trans hb3,HK'.o.trans hk3⟩
theorem y0y(tx:ByteArray)(n:Int)(A C:List Nd)(tA tC:List UInt8)(kA kC:Bool)(hA:z5r A tA kA)(hC:z5r C tC kC):z5r (⟨9,tx,n⟩::(A++C)) (tA) (kA):=by
 intro B b s ds r0 a cap l k w hd hN hsB hsb hc hW hBw hl;generalize hr:(A++C)++r0=r;have HR:Hid ((A++C)++r0=r):=hr;have HRL:Hid (r.length=((A++C):List Nd).length+r0.length):=(show _=_ by rw[<-hr,List.length_append]);obtain rfl:ds=⟨9,tx,n⟩::r:=by rw[hd,<-hr];rfl
 clear hd hr;obtain⟨o0,ea,c1,c2,c3⟩:=hN 0 (by simp);subst ea;simp only[List.length_cons]at hc hl⊢;have HN1:Hid (q1a s w (some ⟨s,o0+3,none⟩) r):=hN.rest
 have HN2:Hid (cap=1->q1a s w (some ⟨s,o0,none⟩) r):=fun h=>by
  have h1:=hN.slid hc;rw[if_pos h]at h1;exact h1
 have HW:Hid (Ln B b l k w):=hW;simp only[Nat.zero_mul,Nat.add_zero,List.getElem_cons_zero]at c1 c2 c3;have hb0:s<w.heap.size:=by omega
 have hr1:(1:Int)<=(r.length:Int)+1:=by omega
 have HB:Hid (∀O:Obj,q0u B b w (w.alloc O).drew):=fun O=>q0u.drew ((q0u.refl B b w).alloc hBw O)
 have HK:Hid (∀O:Obj,Lib.OthersKept 5 (some b) w (w.alloc O).drew):=fun O=>((Lib.OthersKept.refl _ _ w).alloc O).drew
 have HS:Hid (s<B/\s≠b):=⟨hsB,hsb⟩;clear hN hW hsB hsb;go_in
 go_upto_region 1 with fail
 go_cut [0,1,5,6] (fun t _ p q wx=>z7q B b s w.heap.size ⟨9,tx,n⟩ r l k w t p q wx)
 case first=>
  go_region
  all_goals (go_wp2_with fail)
  all_goals
   go_meet
   refine⟨rfl,rfl,⟨_,_,rfl,?_,by omega⟩,by simp[go_sem],by simp[go_sem],by simp[go_sem],IsX.drew (IsX.alloc HW.o _),HB.o _,HK.o _⟩
   first
    | exact HN1.o.kept ((HB.o _).block s HS.o.1 HS.o.2)
    | exact(HN2.o (by assumption)).kept ((HB.o _).block s HS.o.1 HS.o.2)
    | exact(HN2.o rfl).kept ((HB.o _).block s HS.o.1 HS.o.2)
 case rest=>
  obtain⟨rfl,rfl,⟨a',cap',rfl,hn,hc'⟩,e1,e2,e3,hw,hbw,hkw⟩:=hcut;dsimp only at e1 e2 e3;have HN':Hid (q1a s wc a' r):=hn;have HW':Hid (Ln B b l k wc):=hw;have HB':Hid (q0u B b w wc):=hbw;have HK':Hid (Lib.OthersKept 5 (some b) w wc):=hkw;have hBc:B<=wc.heap.size:=Nat.le_trans hBw hbw.size;clear hn hw hbw hkw;rw[List.append_assoc]at HR;generalize hrc:C++r0=rc at HR;have HRC:Hid (C++r0=rc):=hrc;have HLC:Hid (rc.length=C.length+r0.length):=(show _=_ by rw[<-hrc,List.length_append]);have HAC:Hid ((A++C).length=A.length+C.length):=(show _=_ from List.length_append);clear hrc;have HA:Hid (z5r A tA kA):=hA;have HC:Hid (z5r C tC kC):=hC;clear hA hC;go_wp2_with fail;refine(HA.o B b s r rc _ _ l k _ HR.o.symm (HN'.o.kept (Below.heap_alloc _ _ _ (by have:=HS.o;omega))) HS.o.1 HS.o.2 hc' (IsX.alloc HW'.o _) (by simp;omega) (by omega)).mono ?_;rintro e w3⟨⟨a3,cap3,rfl,n3,hc3⟩,h3,hb3,hk3⟩;have hbc:b<wc.heap.size:=IsX.lt HW'.o;have hx:=hk3 wc.heap.size _ (heap_alloc_new wc _) (by simp;omega) (by intro c fz h;cases h);have hsz:=hb3.size;have hsz2:wc.heap.size+1<=w3.heap.size:=by simpa using hsz
  have HX:Hid (w3.heap[wc.heap.size]?=_):=hx;clear hsz hx;go_wp2_with fail;refine(HC.o w3.heap.size wc.heap.size s rc r0 _ _ [] false _ HRC.o.symm n3 (by have:=HS.o;omega) (by have:=HS.o;omega) hc3 (IsX.unused _ _ _ _ _ HX.o) Zl (by have q1:=HRL.o;have q2:=HLC.o;have q3:=HAC.o;simp;omega)).mono ?_;rintro e w4⟨⟨a4,cap4,rfl,n4,hc4⟩,h4,hb4,hk4⟩;go_wp2;go_ret;refine⟨⟨_,_,rfl,n4,hc4⟩,IsX.far h3 hb4 (by omega) HX.o (by decide),(HB'.o.trans (((q0u.refl _ _ _).alloc hBc _).trans hb3)).trans (hb4.weak (by omega) hBc),?_⟩;exact v2v (HK'.o.trans (((Lib.OthersKept.refl _ _ _).alloc _).trans hk3)) hk4 HB'.o.size
theorem v2r{s:ByteArray}(h1:1<=s.size)(h2:s.size<=20)(h:∀k(h:k<s.size),q5x s[k]=true):isW s=true:=by
 simp only[isW,h1,h2,decide_true,Bool.true_and,List.all_eq_true];intro b hb;obtain⟨i,hi,rfl⟩:=List.getElem_of_mem hb;exact h i (by rw[<-q0q];exact hi)
theorem v9x{s:ByteArray}{k:Nat}(h:k<s.size)(hb:q5x s[k]=false):isW s=false:=by
 cases e:isW s with
 | false=>rfl
 | true=>
  simp only[isW,Bool.and_eq_true,List.all_eq_true]at e
  have:=e.2 s[k] (by
   have:k<s.data.toList.length:=by rw[q0q];exact h
   exact List.getElem_mem this)
  rw[hb]at this;cases this
theorem k5e{b:UInt8}(h:q5x b=false):(b.toNat:Int)<32\/(¬(b.toNat:Int)<32/\126<(b.toNat:Int)):=by
 simp[q5x]at h;omega
theorem j0s{b:UInt8}(h:q5x b=true):¬(b.toNat:Int)<32/\¬126<(b.toNat:Int):=by
 simp[q5x]at h;omega
theorem j8l{s:ByteArray}(h:s.size≠0):¬s.toList=[]:=by
 rw[ByteArray.toList_eq];intro e
 have:=q0q s
 rw[e]at this;exact h this.symm
theorem y9i{op:Int}(h1:¬op<1)(h2:¬9<op):op=1\/op=2\/op=3\/op=4\/op=5\/op=6\/op=7\/op=8\/op=9:=by omega
theorem j3d{ds:List Nd}(h:400<ds.length):q3c ds=3:=by rw[q3c,if_pos h]
theorem j3e{ds:List Nd}{k:Nat}(hl:ds.length<=400)(hk:k<ds.length)(ha:∀x∈ds.take k,q1c x=0)(h:q1c ds[k]≠0):q3c ds=q1c ds[k]:=by
 have e:=k0r ds k hk ha h;rw[q3c,if_neg (by omega),if_neg (by rw[e];exact h),e]
theorem v1u{ds:List Nd}(hl:ds.length<=400)(ha:∀x∈ds,q1c x=0):q3c ds=if q0v ds 0 1=some ds.length then 0 else 2:=by
 rw[q3c,if_neg (by omega),if_pos (z1q ds ha)]
theorem v5f{ds:List Nd}{k:Nat}(h:¬k<ds.length)(ha:∀x∈ds.take k,q1c x=0):∀x∈ds,q1c x=0:=by
 rw[List.take_of_length_le (by omega)]at ha;exact ha
theorem j9a{ds:List Nd}{k:Nat}(h:k<ds.length)(ha:∀x∈ds.take k,q1c x=0)(h0:q1c ds[k]=0):∀x∈ds.take (k+1),q1c x=0:=by
 intro x hx;rw[List.take_succ_eq_append_getElem h]at hx;rcases List.mem_append.1 hx with hx|hx
 ·exact ha x hx
 ·simp at hx;subst hx;exact h0
def v6p(o:Option Nat):Int:=match o with|some j=>j|none=>-1
theorem q0m{ds:List Nd}{i:Nat}{x:Nd}{r:List Nd}(h:ds.drop i=x::r):∃hi:i<ds.length,ds[i]=x/\ds.drop (i+1)=r:=by
 have hi:i<ds.length:=by
  rcases Nat.lt_or_ge i ds.length with h'|h'
  ·exact h'
  ·rw[List.drop_eq_nil_of_le h']at h;cases h
 rw[List.drop_eq_getElem_cons hi]at h;simp only[List.cons.injEq]at h;exact⟨hi,h.1,h.2⟩
theorem q7r{ds A r:List Nd}{i:Nat}(h:ds.drop i=A++r):ds.drop (i+A.length)=r:=by
 rw[<-List.drop_drop,h,List.drop_left]
def Tr.laid:Tr->List UInt8
 | .leaf x=>if x.op=1 then x.tx.data.toList else if x.op=2 then [32]else []
 | .one _ a=>a.laid
 | .two x a b=>if x.op=6 then a.laid++b.laid else a.laid
def Tr.brk:Tr->Bool
 | .leaf x=>decide (x.op=4)
 | .one _ a=>a.brk
 | .two x a b=>if x.op=6 then a.brk||b.brk else a.brk
theorem q7v:∀t:Tr,t.flat=(if t.brk=true then none else some t.laid)
 | .leaf x=>by
  simp only[Tr.flat,Tr.brk,Tr.laid];by_cases h1:x.op=1
  ·simp[h1]
  ·by_cases h2:x.op=2
   ·simp[h2]
   ·by_cases h4:x.op=4
    ·simp[h4]
    ·simp[h1,h2,h4]
 | .one _ a=>q7v a
 | .two x a b=>by
  have h1:=q7v a;have h2:=q7v b;simp only[Tr.flat,Tr.brk,Tr.laid]
  split
  ·rw[h1,h2];cases a.brk<;>cases b.brk<;>simp
  ·exact h1
theorem z8o:∀t:Tr,t.Wf->t.laid.length<=20*t.nodes.length
 | .leaf x,h=>by
  obtain⟨_,_,_,_,h5,_⟩:=q1x h.1;simp only[Tr.laid,Tr.nodes]
  split
  ·rename_i h1
   have:=q3y (h5 h1)
   have e:=q0q x.tx;simp only[List.length_cons,List.length_nil];omega
  ·split<;>simp
 | .one x a,h=>by
  have:=z8o a h.2.2
  simp only[Tr.laid,Tr.nodes,List.length_cons];omega
 | .two x a b,h=>by
  have h1:=z8o a h.2.2.1;have h2:=z8o b h.2.2.2;simp only[Tr.laid,Tr.nodes,List.length_cons,List.length_append]
  split
  ·rw[List.length_append];omega
  ·omega
theorem j4o{t:Tr}(h:t.brk=false):t.isFlat=true/\t.line=⟨t.laid.toArray⟩:=by
 have:=q7v t
 rw[h]at this;constructor
 ·rw[Tr.isFlat,this];rfl
 ·rw[Tr.line,this];rfl
theorem j4p{t:Tr}(h:t.brk=true):t.isFlat=false/\t.line=⟨#[]⟩:=by
 have:=q7v t
 rw[h]at this;constructor
 ·rw[Tr.isFlat,this];rfl
 ·rw[Tr.line,this];rfl
theorem q5c:∀t:Tr,t.Wf->z5r t.nodes t.laid t.brk
 | .leaf ⟨op,tx,n⟩,h=>by
  obtain⟨_,_,_,_,h5,_⟩:=q1x h.1;rcases q3w h.1 h.2 with e|e|e|e|e
  all_goals (simp only at e;subst e)
  ·exact y0q tx n (q3y (h5 rfl)).2
  ·exact y0r tx n
  ·exact y0s tx n
  ·exact y0t tx n
  ·exact y0u tx n
 | .one ⟨op,tx,n⟩ a,h=>by
  rcases q7z h.2.1 with e|e
  all_goals (simp only at e;subst e)
  ·exact y0w tx n _ _ _ (q5c a h.2.2)
  ·exact y0x tx n _ _ _ (q5c a h.2.2)
 | .two ⟨op,tx,n⟩ a c,h=>by
  rcases q7m h.2.1 with e|e
  all_goals (simp only at e;subst e)
  ·exact y0v tx n _ _ _ _ _ _ (q5c a h.2.2.1) (q5c c h.2.2.2) (z8o a h.2.2.1)
  ·exact y0y tx n _ _ _ _ _ _ (q5c a h.2.2.1) (q5c c h.2.2.2)
end Go.Proofs.YthjapabokcajhaaGreatDoor
