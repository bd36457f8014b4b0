import Derived.Test.YthcpdohdppkmkaaGreatDoorPu19
open Go.Proofs.Tryz
namespace Go.Proofs.YthcpdohdppkmkaaGreatDoor
open Go Go.RowKit
set_option maxRecDepth 100000
set_option maxHeartbeats 4000000
theorem y6d(tx:ByteArray)(n:Int)(A C:List Nd)(tA tC:List UInt8)(kA kC:Bool)(hA:k1j A tA kA)(hC:k1j C tC kC)(htA:tA.length<=20*A.length):k1j (⟨6,tx,n⟩::(A++C)) (tA++tC) (kA||kC):=by
 intro B b s ds r0 a cap l k w hd hN hsB hsb hc hW hBw hl;generalize hr:(A++C)++r0=r;have HR:Hid ((A++C)++r0=r):=hr;have HRL:Hid (r.length=((A++C):List Nd).length+r0.length):=(show _=_ by rw[<-hr,List.length_append]);obtain rfl:ds=⟨6,tx,n⟩::r:=by rw[hd,<-hr];rfl
 clear hd hr;obtain⟨o0,ea,c1,c2,c3⟩:=hN 0 (by simp);subst ea;simp only[List.length_cons]at hc hl⊢;have HN1:Hid (q0x s w (some ⟨s,o0+3,none⟩) r):=hN.rest
 have HN2:Hid (cap=1->q0x s w (some ⟨s,o0,none⟩) r):=fun h=>by
  have h1:=hN.slid hc;rw[if_pos h]at h1;exact h1
 have HW:Hid (Ln B b l k w):=hW;simp only[Nat.zero_mul,Nat.add_zero,List.getElem_cons_zero]at c1 c2 c3;have hb0:s<w.heap.size:=by omega
 have hr1:(1:Int)<=(r.length:Int)+1:=by omega
 have HB:Hid (∀O:Obj,q0p B b w (w.alloc O).drew):=fun O=>q0p.drew ((q0p.refl B b w).alloc hBw O)
 have HK:Hid (∀O:Obj,Lib.OthersKept 5 (some b) w (w.alloc O).drew):=fun O=>((Lib.OthersKept.refl _ _ w).alloc O).drew
 have HS:Hid (s<B/\s≠b):=⟨hsB,hsb⟩;clear hN hW hsB hsb;go_in
 go_upto_region 1 with fail
 go_cut [0,1,5,6] (fun t _ p q wx=>k5j B b s w.heap.size ⟨6,tx,n⟩ r l k w t p q wx)
 case first=>
  go_region
  all_goals (go_wp2_with fail)
  all_goals
   go_meet
   refine⟨rfl,rfl,⟨_,_,rfl,?_,by omega⟩,by simp[go_sem],by simp[go_sem],by simp[go_sem],IsX.drew (IsX.alloc HW.o _),HB.o _,HK.o _⟩
   first
    | exact HN1.o.kept ((HB.o _).block s HS.o.1 HS.o.2)
    | exact(HN2.o (by assumption)).kept ((HB.o _).block s HS.o.1 HS.o.2)
    | exact(HN2.o rfl).kept ((HB.o _).block s HS.o.1 HS.o.2)
 case rest=>
  obtain⟨rfl,rfl,⟨a',cap',rfl,hn,hc'⟩,e1,e2,e3,hw,hbw,hkw⟩:=hcut;dsimp only at e1 e2 e3;have HN':Hid (q0x s wc a' r):=hn;have HW':Hid (Ln B b l k wc):=hw;have HB':Hid (q0p B b w wc):=hbw;have HK':Hid (Lib.OthersKept 5 (some b) w wc):=hkw;have hBc:B<=wc.heap.size:=Nat.le_trans hBw hbw.size;clear hn hw hbw hkw;rw[List.append_assoc]at HR;generalize hrc:C++r0=rc at HR;have HRC:Hid (C++r0=rc):=hrc;have HLC:Hid (rc.length=C.length+r0.length):=(show _=_ by rw[<-hrc,List.length_append]);have HAC:Hid ((A++C).length=A.length+C.length):=(show _=_ from List.length_append);clear hrc;have HA:Hid (k1j A tA kA):=hA;have HC:Hid (k1j C tC kC):=hC;clear hA hC;go_wp2_with fail;refine(HA.o B b s r rc _ _ l k _ HR.o.symm HN'.o HS.o.1 HS.o.2 hc' HW'.o hBc (by omega)).mono ?_;rintro e w3⟨⟨a3,cap3,rfl,n3,hc3⟩,h3,hb3,hk3⟩;have hBw3:B<=w3.heap.size:=Nat.le_trans hBc hb3.size;go_wp2_with fail;refine(HC.o B b s rc r0 _ _ _ _ _ HRC.o.symm n3 HS.o.1 HS.o.2 hc3 h3 hBw3 (by have q1:=HRL.o;have q2:=HLC.o;have q3:=HAC.o;simp;omega)).mono ?_;rintro e w4⟨⟨a4,cap4,rfl,n4,hc4⟩,h4,hb4,hk4⟩;go_wp2;go_ret;rw[<-Bool.or_assoc,<-List.append_assoc];exact⟨⟨_,_,rfl,n4,hc4⟩,h4,HB'.o.trans (hb3.trans hb4),HK'.o.trans (hk3.trans hk4)⟩
set_option maxHeartbeats 8000000
theorem j0i(k:Nat){o:Int}(hk:k=0/\o=7\/k=1/\o=8)(tx:ByteArray)(n:Int)(A:List Nd)(tA:List UInt8)(kA:Bool)(hA:k1j A tA kA):k1j (⟨o,tx,n⟩::A) (tA) (kA):=by
 have tg:Tag k:=.mk;rcases hk with⟨rfl,rfl⟩|⟨rfl,rfl⟩
 all_goals
  intro B b s ds r0 a cap l k w hd hN hsB hsb hc hW hBw hl;generalize hr:A++r0=r;have HR:Hid (A++r0=r):=hr;have HRL:Hid (r.length=(A:List Nd).length+r0.length):=(show _=_ by rw[<-hr,List.length_append]);obtain rfl:ds=⟨↑(sel tg (7:Int) 8),tx,n⟩::r:=by rw[hd,<-hr];rfl
  clear hd hr;obtain⟨o0,ea,c1,c2,c3⟩:=hN 0 (by simp);subst ea;simp only[List.length_cons]at hc hl⊢;have HN1:Hid (q0x s w (some ⟨s,o0+3,none⟩) r):=hN.rest
  have HN2:Hid (cap=1->q0x s w (some ⟨s,o0,none⟩) r):=fun h=>by
   have h1:=hN.slid hc;rw[if_pos h]at h1;exact h1
  have HW:Hid (Ln B b l k w):=hW;simp only[Nat.zero_mul,Nat.add_zero,List.getElem_cons_zero]at c1 c2 c3;have hb0:s<w.heap.size:=by omega
  have hr1:(1:Int)<=(r.length:Int)+1:=by omega
  have HB:Hid (∀O:Obj,q0p B b w (w.alloc O).drew):=fun O=>q0p.drew ((q0p.refl B b w).alloc hBw O)
  have HK:Hid (∀O:Obj,Lib.OthersKept 5 (some b) w (w.alloc O).drew):=fun O=>((Lib.OthersKept.refl _ _ w).alloc O).drew
  have HS:Hid (s<B/\s≠b):=⟨hsB,hsb⟩;clear hN hW hsB hsb;go_in
  go_upto_region 1 with fail
  go_cut [0,1,5,6] (fun t _ p q wx=>k5j B b s w.heap.size ⟨↑(sel tg (7:Int) 8),tx,n⟩ r l k w t p q wx)
  case first=>
   go_region
   all_goals (go_wp2_with fail)
   all_goals
    go_meet
    refine⟨rfl,rfl,⟨_,_,rfl,?_,by omega⟩,by simp[go_sem],by simp[go_sem],by simp[go_sem],IsX.drew (IsX.alloc HW.o _),HB.o _,HK.o _⟩
    first
     | exact HN1.o.kept ((HB.o _).block s HS.o.1 HS.o.2)
     | exact(HN2.o (by assumption)).kept ((HB.o _).block s HS.o.1 HS.o.2)
     | exact(HN2.o rfl).kept ((HB.o _).block s HS.o.1 HS.o.2)
  case rest=>
   obtain⟨rfl,rfl,⟨a',cap',rfl,hn,hc'⟩,e1,e2,e3,hw,hbw,hkw⟩:=hcut;dsimp only at e1 e2 e3;have HN':Hid (q0x s wc a' r):=hn;have HW':Hid (Ln B b l k wc):=hw;have HB':Hid (q0p B b w wc):=hbw;have HK':Hid (Lib.OthersKept 5 (some b) w wc):=hkw;have hBc:B<=wc.heap.size:=Nat.le_trans hBw hbw.size;clear hn hw hbw hkw;have HA:Hid (k1j A tA kA):=hA;clear hA;go_wp2_with fail;refine(HA.o B b s r r0 _ _ l k _ HR.o.symm HN'.o HS.o.1 HS.o.2 hc' HW'.o hBc (by omega)).mono ?_;rintro e w3⟨⟨a3,cap3,rfl,n3,hc3⟩,h3,hb3,hk3⟩;go_wp2;go_ret;exact⟨⟨_,_,rfl,n3,hc3⟩,h3,HB'.o.trans hb3,HK'.o.trans hk3⟩
theorem y6e(tx:ByteArray)(n:Int)(A C:List Nd)(tA tC:List UInt8)(kA kC:Bool)(hA:k1j A tA kA)(hC:k1j C tC kC):k1j (⟨9,tx,n⟩::(A++C)) (tA) (kA):=by
 intro B b s ds r0 a cap l k w hd hN hsB hsb hc hW hBw hl;generalize hr:(A++C)++r0=r;have HR:Hid ((A++C)++r0=r):=hr;have HRL:Hid (r.length=((A++C):List Nd).length+r0.length):=(show _=_ by rw[<-hr,List.length_append]);obtain rfl:ds=⟨9,tx,n⟩::r:=by rw[hd,<-hr];rfl
 clear hd hr;obtain⟨o0,ea,c1,c2,c3⟩:=hN 0 (by simp);subst ea;simp only[List.length_cons]at hc hl⊢;have HN1:Hid (q0x s w (some ⟨s,o0+3,none⟩) r):=hN.rest
 have HN2:Hid (cap=1->q0x s w (some ⟨s,o0,none⟩) r):=fun h=>by
  have h1:=hN.slid hc;rw[if_pos h]at h1;exact h1
 have HW:Hid (Ln B b l k w):=hW;simp only[Nat.zero_mul,Nat.add_zero,List.getElem_cons_zero]at c1 c2 c3;have hb0:s<w.heap.size:=by omega
 have hr1:(1:Int)<=(r.length:Int)+1:=by omega
 have HB:Hid (∀O:Obj,q0p B b w (w.alloc O).drew):=fun O=>q0p.drew ((q0p.refl B b w).alloc hBw O)
 have HK:Hid (∀O:Obj,Lib.OthersKept 5 (some b) w (w.alloc O).drew):=fun O=>((Lib.OthersKept.refl _ _ w).alloc O).drew
 have HS:Hid (s<B/\s≠b):=⟨hsB,hsb⟩;clear hN hW hsB hsb;go_in
 go_upto_region 1 with fail
 go_cut [0,1,5,6] (fun t _ p q wx=>k5j B b s w.heap.size ⟨9,tx,n⟩ r l k w t p q wx)
 case first=>
  go_region
  all_goals (go_wp2_with fail)
  all_goals
   go_meet
   refine⟨rfl,rfl,⟨_,_,rfl,?_,by omega⟩,by simp[go_sem],by simp[go_sem],by simp[go_sem],IsX.drew (IsX.alloc HW.o _),HB.o _,HK.o _⟩
   first
    | exact HN1.o.kept ((HB.o _).block s HS.o.1 HS.o.2)
    | exact(HN2.o (by assumption)).kept ((HB.o _).block s HS.o.1 HS.o.2)
    | exact(HN2.o rfl).kept ((HB.o _).block s HS.o.1 HS.o.2)
 case rest=>
  obtain⟨rfl,rfl,⟨a',cap',rfl,hn,hc'⟩,e1,e2,e3,hw,hbw,hkw⟩:=hcut;dsimp only at e1 e2 e3;have HN':Hid (q0x s wc a' r):=hn;have HW':Hid (Ln B b l k wc):=hw;have HB':Hid (q0p B b w wc):=hbw;have HK':Hid (Lib.OthersKept 5 (some b) w wc):=hkw;have hBc:B<=wc.heap.size:=Nat.le_trans hBw hbw.size;clear hn hw hbw hkw;rw[List.append_assoc]at HR;generalize hrc:C++r0=rc at HR;have HRC:Hid (C++r0=rc):=hrc;have HLC:Hid (rc.length=C.length+r0.length):=(show _=_ by rw[<-hrc,List.length_append]);have HAC:Hid ((A++C).length=A.length+C.length):=(show _=_ from List.length_append);clear hrc;have HA:Hid (k1j A tA kA):=hA;have HC:Hid (k1j C tC kC):=hC;clear hA hC;go_wp2_with fail;refine(HA.o B b s r rc _ _ l k _ HR.o.symm (HN'.o.kept (Below.heap_alloc _ _ _ (by have:=HS.o;omega))) HS.o.1 HS.o.2 hc' (IsX.alloc HW'.o _) (by simp;omega) (by omega)).mono ?_;rintro e w3⟨⟨a3,cap3,rfl,n3,hc3⟩,h3,hb3,hk3⟩;have hbc:b<wc.heap.size:=IsX.lt HW'.o;have hx:=hk3 wc.heap.size _ (heap_alloc_new wc _) (by simp;omega) (by intro c fz h;cases h);have hsz:=hb3.size;have hsz2:wc.heap.size+1<=w3.heap.size:=by simpa using hsz
  have HX:Hid (w3.heap[wc.heap.size]?=_):=hx;clear hsz hx;go_wp2_with fail;refine(HC.o w3.heap.size wc.heap.size s rc r0 _ _ [] false _ HRC.o.symm n3 (by have:=HS.o;omega) (by have:=HS.o;omega) hc3 (IsX.unused _ _ _ _ _ HX.o) Zl (by have q1:=HRL.o;have q2:=HLC.o;have q3:=HAC.o;simp;omega)).mono ?_;rintro e w4⟨⟨a4,cap4,rfl,n4,hc4⟩,h4,hb4,hk4⟩;go_wp2;go_ret;refine⟨⟨_,_,rfl,n4,hc4⟩,IsX.far h3 hb4 (by omega) HX.o (by decide),(HB'.o.trans (((q0p.refl _ _ _).alloc hBc _).trans hb3)).trans (hb4.weak (by omega) hBc),?_⟩;exact v7a (HK'.o.trans (((Lib.OthersKept.refl _ _ _).alloc _).trans hk3)) hk4 HB'.o.size
theorem v6y{s:ByteArray}(h1:1<=s.size)(h2:s.size<=20)(h:∀k(h:k<s.size),q5s s[k]=true):isW s=true:=by
 simp only[isW,h1,h2,decide_true,Bool.true_and,List.all_eq_true];intro b hb;obtain⟨i,hi,rfl⟩:=List.getElem_of_mem hb;exact h i (by rw[<-q1a];exact hi)
theorem y5m{s:ByteArray}{k:Nat}(h:k<s.size)(hb:q5s s[k]=false):isW s=false:=by
 cases e:isW s with
 | false=>rfl
 | true=>
  simp only[isW,Bool.and_eq_true,List.all_eq_true]at e
  have:=e.2 s[k] (by
   have:k<s.data.toList.length:=by rw[q1a];exact h
   exact List.getElem_mem this)
  rw[hb]at this;cases this
theorem k8u{b:UInt8}(h:q5s b=false):(b.toNat:Int)<32\/(¬(b.toNat:Int)<32/\126<(b.toNat:Int)):=by
 simp[q5s]at h;omega
theorem j4r{b:UInt8}(h:q5s b=true):¬(b.toNat:Int)<32/\¬126<(b.toNat:Int):=by
 simp[q5s]at h;omega
theorem v2g{s:ByteArray}(h:s.size≠0):¬s.toList=[]:=by
 rw[ByteArray.toList_eq];intro e
 have:=q1a s
 rw[e]at this;exact h this.symm
theorem g6q{op:Int}(h1:¬op<1)(h2:¬9<op):op=1\/op=2\/op=3\/op=4\/op=5\/op=6\/op=7\/op=8\/op=9:=by omega
theorem j7m{ds:List Nd}(h:400<ds.length):q3a ds=3:=by rw[q3a,if_pos h]
theorem j7n{ds:List Nd}{k:Nat}(hl:ds.length<=400)(hk:k<ds.length)(ha:∀x∈ds.take k,q0u x=0)(h:q0u ds[k]≠0):q3a ds=q0u ds[k]:=by
 have e:=k2h ds k hk ha h;rw[q3a,if_neg (by omega),if_neg (by rw[e];exact h),e]
theorem v5z{ds:List Nd}(hl:ds.length<=400)(ha:∀x∈ds,q0u x=0):q3a ds=if q1r ds 0 1=some ds.length then 0 else 2:=by
 rw[q3a,if_neg (by omega),if_pos (z2f ds ha)]
theorem v9y{ds:List Nd}{k:Nat}(h:¬k<ds.length)(ha:∀x∈ds.take k,q0u x=0):∀x∈ds,q0u x=0:=by
 rw[List.take_of_length_le (by omega)]at ha;exact ha
theorem v2w{ds:List Nd}{k:Nat}(h:k<ds.length)(ha:∀x∈ds.take k,q0u x=0)(h0:q0u ds[k]=0):∀x∈ds.take (k+1),q0u x=0:=by
 intro x hx;rw[List.take_succ_eq_append_getElem h]at hx;rcases List.mem_append.1 hx with hx|hx
 ·exact ha x hx
 ·simp at hx;subst hx;exact h0
def Tr.laid:Tr->List UInt8
 | .leaf x=>if x.op=1 then x.tx.data.toList else if x.op=2 then [32]else []
 | .one _ a=>a.laid
 | .two x a b=>if x.op=6 then a.laid++b.laid else a.laid
def Tr.brk:Tr->Bool
 | .leaf x=>decide (x.op=4)
 | .one _ a=>a.brk
 | .two x a b=>if x.op=6 then a.brk||b.brk else a.brk
theorem q7r:∀t:Tr,t.flat=(if t.brk=true then none else some t.laid)
 | .leaf x=>by
  simp only[Tr.flat,Tr.brk,Tr.laid];by_cases h1:x.op=1
  ·simp[h1]
  ·by_cases h2:x.op=2
   ·simp[h2]
   ·by_cases h4:x.op=4
    ·simp[h4]
    ·simp[h1,h2,h4]
 | .one _ a=>q7r a
 | .two x a b=>by
  have h1:=q7r a;have h2:=q7r b;simp only[Tr.flat,Tr.brk,Tr.laid]
  split
  ·rw[h1,h2];cases a.brk<;>cases b.brk<;>simp
  ·exact h1
theorem z9k:∀t:Tr,t.Wf->t.laid.length<=20*t.N.length
 | .leaf x,h=>by
  obtain⟨_,_,_,_,h5,_⟩:=q2b h.1;simp only[Tr.laid,Tr.N]
  split
  ·rename_i h1
   have:=q4q (h5 h1)
   have e:=q1a x.tx;simp only[List.length_cons,List.length_nil];omega
  ·split<;>simp
 | .one x a,h=>by
  have:=z9k a h.2.2
  simp only[Tr.laid,Tr.N,List.length_cons];omega
 | .two x a b,h=>by
  have h1:=z9k a h.2.2.1;have h2:=z9k b h.2.2.2;simp only[Tr.laid,Tr.N,List.length_cons,List.length_append]
  split
  ·rw[List.length_append];omega
  ·omega
theorem j9c{t:Tr}(h:t.brk=false):t.isFlat=true/\t.line=⟨t.laid.toArray⟩:=by
 have:=q7r t
 rw[h]at this;constructor
 ·rw[Tr.isFlat,this];rfl
 ·rw[Tr.line,this];rfl
theorem j9d{t:Tr}(h:t.brk=true):t.isFlat=false/\t.line=⟨#[]⟩:=by
 have:=q7r t
 rw[h]at this;constructor
 ·rw[Tr.isFlat,this];rfl
 ·rw[Tr.line,this];rfl
theorem q4w:∀t:Tr,t.Wf->k1j t.N t.laid t.brk
 | .leaf ⟨op,tx,n⟩,h=>by
  obtain⟨_,_,_,_,h5,_⟩:=q2b h.1;rcases q5o h.1 h.2 with e|e|e|e|e
  all_goals (simp only at e;subst e)
  ·exact y6a tx n (q4q (h5 rfl)).2
  ·exact y6b tx n
  ·exact j0h 0 (.inl ⟨rfl,rfl⟩) tx n
  ·exact y6c tx n
  ·exact j0h 1 (.inr ⟨rfl,rfl⟩) tx n
 | .one ⟨op,tx,n⟩ a,h=>by
  rcases z3e h.2.1 with e|e
  all_goals (simp only at e;subst e)
  ·exact j0i 0 (.inl ⟨rfl,rfl⟩) tx n _ _ _ (q4w a h.2.2)
  ·exact j0i 1 (.inr ⟨rfl,rfl⟩) tx n _ _ _ (q4w a h.2.2)
 | .two ⟨op,tx,n⟩ a c,h=>by
  rcases z1m h.2.1 with e|e
  all_goals (simp only at e;subst e)
  ·exact y6d tx n _ _ _ _ _ _ (q4w a h.2.2.1) (q4w c h.2.2.2) (z9k a h.2.2.1)
  ·exact y6e tx n _ _ _ _ _ _ (q4w a h.2.2.1) (q4w c h.2.2.2)
theorem j2n(op:Int)(w:World):Calls prog 177 #[.int .i64 op] w fun e w'=>e=.returned (.int .i64 (pts op))/\w=w':=by
 by_cases h6:op=6
 ·subst h6;go_in;go_wp2;go_ret;exact⟨rfl,rfl⟩
 by_cases h9:op=9
 ·subst h9;go_in;go_wp2;go_ret;exact⟨rfl,rfl⟩
 by_cases h7:op=7
 ·subst h7;go_in;go_wp2;go_ret;exact⟨rfl,rfl⟩
 by_cases h8:op=8
 ·subst h8;go_in;go_wp2;go_ret;exact⟨rfl,rfl⟩
 have e:pts op=0:=by simp[pts,h6,h7,h8,h9]
 rw[e];have g6:(op==6)=false:=by simp[h6]
 have g7:(op==7)=false:=by simp[h7]
 have g8:(op==8)=false:=by simp[h8]
 have g9:(op==9)=false:=by simp[h9]
 clear e h6 h7 h8 h9;go_in;go_wp2;go_ret;exact⟨rfl,rfl⟩
theorem z7l(s:ByteArray)(w:World):Calls prog 176 #[.string s] w fun e w'=>e=.returned (.bool (isW s))/\w=w':=by
 by_cases h1:(s.size:Int)<1
 ·have e:isW s=false:=by simp[isW];omega
  rw[e];clear e;go_in;go_wp2;go_ret;exact⟨rfl,rfl⟩
 by_cases h2:20<(s.size:Int)
 ·have e:isW s=false:=by simp[isW];omega
  rw[e];clear e;go_in;go_wp2;go_ret;exact⟨rfl,rfl⟩
 go_in;go_wp2
 go_loopw [14] (fun i wr=>wr=w/\∃k:Nat,k<=s.size/\i=.int .i64 k/\∀j(h:j<s.size),j<k->q5s s[j]=true) (fun i _=>s.size-(intOf i).toNat)
 case atStart=>exact⟨rfl,0,Nat.zero_le _,rfl,fun j _ hj=>by omega⟩
 case round=>
  obtain⟨rfl,k,hk,rfl,hall⟩:=hrel;have HA:Hid (∀j(h:j<s.size),j<k->q5s s[j]=true):=hall;clear hall;by_cases hlt:k<s.size
  ·cases hb:q5s s[k]with
   | false=>
    have HE:Hid (isW s=false):=y5m hlt hb;have hc:=k8u hb;clear hb;rcases hc with hc|⟨hc,hd⟩
    ·go_wp2;go_ret;exact⟨by rw[HE.o];rfl,rfl⟩
    ·go_wp2;go_ret;exact⟨by rw[HE.o];rfl,rfl⟩
   | true=>
    have HB:Hid (q5s s[k]=true):=hb;obtain⟨hc,hd⟩:=j4r hb;clear hb;go_wp2
    go_roundw
    case rel=>
     refine⟨by trivial,k+1,by omega,by go_num,?_⟩;intro j h hj;by_cases hjk:j=k
     ·subst hjk;exact HB.o
     ·exact HA.o j h (by omega)
    case measure=>simp[intOf];omega
  ·have HE:Hid (isW s=true):=v6y (by omega) (by omega) fun j h=>HA.o j h (by omega)
   go_wp2;go_ret;exact⟨by rw[HE.o];rfl,rfl⟩
theorem z0c(x:Nd)(w:World):Calls prog 105 #[g6o x] w fun e w'=>e=.returned (q0s (q0u x))/\Below w w w':=by
 obtain⟨op,tx,n⟩:=x;by_cases h1:op<1
 ·have e:q0u ⟨op,tx,n⟩=1:=by simp[q0u,h1]
  rw[e,z7f];clear e;go_in;go_wp2;go_ret;exact⟨rfl,Zb.alloc Zl _⟩
 by_cases h2:9<op
 ·have e:q0u ⟨op,tx,n⟩=1:=by simp[q0u,h2]
  rw[e,z7f];clear e;go_in;go_wp2;go_ret;exact⟨rfl,Zb.alloc Zl _⟩
 rcases g6q h1 h2 with rfl|rfl|rfl|rfl|rfl|rfl|rfl|rfl|rfl
 case inl=>
  clear h1 h2;by_cases hn:n=0
  ·subst hn;cases hw:isW tx with
   | false=>
    have e:q0u ⟨1,tx,0⟩=5:=by simp[q0u,hw]
    rw[e,y1m];clear e;go_in;go_wp2_with(go_at_call 176;refine(z7l _ _).mono ?_;rintro e w'⟨rfl,rfl⟩);go_ret;exact⟨rfl,Zb.alloc Zl _⟩
   | true=>
    have e:q0u ⟨1,tx,0⟩=0:=by simp[q0u,hw]
    rw[e,q0e];clear e;go_in;go_wp2_with(go_at_call 176;refine(z7l _ _).mono ?_;rintro e w'⟨rfl,rfl⟩);go_ret;exact⟨rfl,Zb.alloc Zl _⟩
  ·have e:q0u ⟨1,tx,n⟩=2:=by simp[q0u,hn]
   rw[e,k2e];have hn':(n != 0)=true:=by simp[hn]
   clear e hn;go_in;go_wp2;go_ret;exact⟨rfl,Zb.alloc Zl _⟩
 case inr.inr.inr.inr.inr.inr.inl=>
  clear h1 h2;by_cases hs:tx.size=0
  ·obtain rfl:=k4e hs;by_cases hn:n<0
   ·have e:q0u ⟨7,⟨#[]⟩,n⟩=1:=by simp[q0u,hn,hs]
    rw[e,z7f];clear e hs;go_in;go_wp2;go_ret;exact⟨rfl,Zb.alloc Zl _⟩
   by_cases hm:8<n
   ·have e:q0u ⟨7,⟨#[]⟩,n⟩=1:=by simp[q0u,hm,hs]
    rw[e,z7f];clear e hs;go_in;go_wp2;go_ret;exact⟨rfl,Zb.alloc Zl _⟩
   have e:q0u ⟨7,⟨#[]⟩,n⟩=0:=by simp[q0u,hn,hm,hs]
   rw[e,q0e];clear e hs;go_in;go_wp2;go_ret;exact⟨rfl,Zb.alloc Zl _⟩
  ·have e:q0u ⟨7,tx,n⟩=2:=by simp[q0u,hs]
   rw[e,k2e];have hs':=v2g hs;clear e hs;go_in;go_wp2;go_ret;exact⟨rfl,Zb.alloc Zl _⟩
 all_goals
  clear h1 h2;by_cases hs:tx.size=0
  ·obtain rfl:=k4e hs;by_cases hn:n=0
   ·subst hn;rw[show ∀k:Int,k=0->q0s k=.nilIface from fun k hk=>by rw[hk];rfl]
    ·clear hs;go_in;go_wp2;go_ret;exact⟨rfl,Zb.alloc Zl _⟩
    ·simp[q0u,hs]
   ·have hn':(n != 0)=true:=by simp[hn]
    rw[show ∀k:Int,k=2->q0s k=.iface 22 (.int .i64 2)from fun k hk=>by rw[hk];rfl]
    ·clear hs hn;go_in;go_wp2;go_ret;exact⟨rfl,Zb.alloc Zl _⟩
    ·simp[q0u,hn]
  ·have hs':=v2g hs;rw[show ∀k:Int,k=2->q0s k=.iface 22 (.int .i64 2)from fun k hk=>by rw[hk];rfl]
   ·clear hs;go_in;go_wp2;go_ret;exact⟨rfl,Zb.alloc Zl _⟩
   ·simp[q0u,hs]
theorem z7e(ds:List Nd)(a:Option Addr)(cap i0:Nat)(w:World)(hN:q3p w a ds)(hl:ds.length<=400)(hi:i0<=ds.length):
  Calls prog 106 #[.slice a ds.length cap,.int .i64 i0] w fun e w'=>((∃j:Nat,q1r ds i0 1=some j/\e=.returned (.tuple #[.int .i64 j,.bool true]))\/(q1r ds i0 1=none/\e=.returned (.tuple #[.int .i64 ds.length,.bool false])))/\w=w':=by
 have HN:Hid (q3p w a ds):=hN;clear hN;go_in;go_wp2
 go_loopw [1,6] (fun i m wr=>wr=w/\∃k q:Nat,k<=ds.length/\q<=k+1/\i=.int .i64 k/\m=.int .i64 q/\q1r ds i0 1=q1r ds k q) (fun i _ _=>ds.length-(intOf i).toNat)
 case atStart=>exact⟨rfl,i0,1,hi,by omega,rfl,rfl,rfl⟩
 case round=>
  obtain⟨rfl,k,q,hk,hq,rfl,rfl,he⟩:=hrel;have HE:Hid (q1r ds i0 1=q1r ds k q):=he;clear he;by_cases h0:q=0
  ·subst h0;have HE':Hid (q1r ds i0 1=some k):=HE.o.trans (j2r _ _);go_wp2;go_ret2;exact⟨.inl ⟨k,HE'.o,rfl⟩,rfl⟩
  ·obtain⟨q',rfl⟩:∃q',q=q'+1:=⟨q-1,by omega⟩;by_cases hlt:k<ds.length
   ·obtain⟨b,o,ea,hb,c1,c2,c3⟩:=HN.o k hlt;have HS:Hid (q1r ds i0 1=q1r ds (k+1) (pts ds[k].op+q')):=HE.o.trans (j2p _ _ _ hlt);have hp:=y2q ds[k].op;subst ea;clear c2 c3 h0;go_wp2_with(go_at_call 177;refine(j2n _ _).mono ?_;rintro e w'⟨rfl,rfl⟩)
    go_roundw
    case rel=>
     exact⟨by trivial,k+1,pts ds[k].op+q',by omega,by omega,by go_num,by go_num,HS.o⟩
    case measure=>simp[intOf];omega
   ·have hkk:k=ds.length:=by omega
    subst hkk;have HE':Hid (q1r ds i0 1=none):=HE.o.trans (j7q _ _ _ (by omega));go_wp2;go_ret2;exact⟨.inr ⟨HE'.o,rfl⟩,rfl⟩
theorem z4s{ds:List Nd}{i0 j:Nat}(a:Option Addr)(cap:Nat)(w:World)(hN:q3p w a ds)(hl:ds.length<=400)(hi:i0<=ds.length)(h:q1r ds i0 1=some j):
  Calls prog 106 #[.slice a ds.length cap,.int .i64 i0] w fun e w'=>e=.returned (.tuple #[.int .i64 j,.bool true])/\w=w':=
 (z7e ds a cap i0 w hN hl hi).mono fun e w'⟨h1,h2⟩=>⟨by
  rcases h1 with⟨j',e1,e2⟩|⟨e1,_⟩
  ·rw[h]at e1;cases e1;exact e2
  ·rw[h]at e1;(cases e1),h2⟩
theorem k5w{ds:List Nd}{i0:Nat}(a:Option Addr)(cap:Nat)(w:World)(hN:q3p w a ds)(hl:ds.length<=400)(hi:i0<=ds.length)(h:q1r ds i0 1=none):
  Calls prog 106 #[.slice a ds.length cap,.int .i64 i0] w fun e w'=>e=.returned (.tuple #[.int .i64 ds.length,.bool false])/\w=w':=
 (z7e ds a cap i0 w hN hl hi).mono fun e w'⟨h1,h2⟩=>⟨by
  rcases h1 with⟨j',e1,e2⟩|⟨_,e2⟩
  ·rw[h]at e1;cases e1
  ·exact e2,h2⟩
theorem q2z(ds:List Nd)(a:Option Addr)(cap:Nat)(w:World)(hN:q3p w a ds):
  Calls prog 61 #[.slice a ds.length cap] w fun e w'=>e=.returned (q0s (q3a ds))/\Below w w w':=by
 have HN:Hid (q3p w a ds):=hN;clear hN;by_cases h4:400<(ds.length:Int)
 ·rw[j7m (by omega),k9u];go_in;go_wp2;go_ret;exact⟨rfl,Below.refl _ _⟩
 ·have hl:ds.length<=400:=by omega
  go_in;go_wp2
  go_loopw [14] (fun i wr=>Below w w wr/\∃k:Nat,k<=ds.length/\i=.int .i64 k/\∀x∈ds.take k,q0u x=0) (fun i _=>ds.length-(intOf i).toNat)
  case atStart=>exact⟨Below.refl _ _,0,Nat.zero_le _,rfl,by simp⟩
  case round=>
   obtain⟨hB,k,hk,rfl,hall⟩:=hrel;have HA:Hid (∀x∈ds.take k,q0u x=0):=hall;have HM:Hid (q3p wr a ds):=HN.o.W hB;clear hall;by_cases hlt:k<ds.length
   ·obtain⟨b,o,ea,hb,c1,c2,c3⟩:=HM.o k hlt;subst ea;by_cases h0:q0u ds[k]=0
    ·have H0:Hid (q0u ds[k]=0):=h0;clear h0;go_wp2_with fail;refine(z0c ds[k] _).mono ?_;rintro e w2⟨rfl,hb2⟩;rw[H0.o,q0e];have hB2:=q7o hB Zl hb2;clear hb2;go_wp2
     go_roundw
     case rel=>exact⟨hB2,k+1,by omega,by go_num,v2w hlt HA.o H0.o⟩
     case measure=>simp[intOf];omega
    ·have H0:Hid (q0u ds[k]≠0):=h0;clear h0;go_wp2_with fail;refine(z0c ds[k] _).mono ?_;rintro e w2⟨rfl,hb2⟩;rw[q0f H0.o];have hB2:=q7o hB Zl hb2;clear hb2;go_wp2;go_ret;refine⟨?_,hB2⟩;rw[j7n hl hlt HA.o H0.o,q0f H0.o];rfl
   ·have HF:Hid (q3a ds=if q1r ds 0 1=some ds.length then 0 else 2):=v5z hl (v9y hlt HA.o);cases he:q1r ds 0 1 with
    | none=>
     have HE:Hid (q1r ds 0 1=none):=he;clear he;go_wp2_with fail;refine(k5w a cap _ HM.o hl (Nat.zero_le _) HE.o).mono ?_;rintro e w2⟨rfl,rfl⟩;go_wp2;go_ret;refine⟨?_,hB⟩;rw[HF.o,HE.o,if_neg (by simp),k2e];rfl
    | some j=>
     have HE:Hid (q1r ds 0 1=some j):=he;clear he;by_cases hj:j=ds.length
     ·subst hj;go_wp2_with fail;refine(z4s a cap _ HM.o hl (Nat.zero_le _) HE.o).mono ?_;rintro e w2⟨rfl,rfl⟩;go_wp2;go_ret;refine⟨?_,hB⟩;rw[HF.o,HE.o,if_pos rfl,q0e];rfl
     ·have hj':((j:Int) != (ds.length:Int))=true:=by simp;omega
      go_wp2_with fail;refine(z4s a cap _ HM.o hl (Nat.zero_le _) HE.o).mono ?_;rintro e w2⟨rfl,rfl⟩;go_wp2;go_ret;refine⟨?_,hB⟩;rw[HF.o,HE.o,if_neg (by simp[hj]),k2e];rfl
theorem v6m(ds:List Nd)(a:Option Addr)(cap:Nat)(w:World)(hN:q3p w a ds)(h:q3a ds≠0):
  Calls prog 216 #[.slice a ds.length cap] w fun e w'=>e=.returned (.tuple #[.string ⟨#[]⟩,.bool false,q0s (q3a ds)])/\Below w w w':=by
 have HN:Hid (q3p w a ds):=hN;have H:Hid (q3a ds≠0):=h;rw[q0f h];clear hN h;go_in;go_wp2_with fail;refine(q2z ds a cap _ HN.o).mono ?_;rintro e w2⟨rfl,hB⟩;rw[q0f H.o];go_wp2;go_ret3;exact⟨rfl,hB⟩
theorem j8c(ds:List Nd)(t:Tr)(hd:ds=t.N)(ht:t.Wf)(hl:ds.length<=400)(a:Option Addr)(cap:Nat)(hc:ds.length<=cap)(w:World)(hN:q3p w a ds):
  Calls prog 216 #[.slice a ds.length cap] w fun e w'=>e=.returned (.tuple #[.string t.line,.bool t.isFlat,.nilIface])/\Below w w w':=by
 have HN:Hid (q3p w a ds):=hN;have H:Hid (q3a ds=0):=(show q3a ds=0 by rw[hd];exact z1k ht (by rw[<-hd];exact hl));have HD:Hid (ds=t.N):=hd;have H0:Hid (ds≠[]):=(show ds≠[] by have:=t.pos;rw[<-hd]at this;exact List.length_pos_iff.1 this);clear hN hd;cases hk:t.brk
 case' true=>obtain⟨q1,q2⟩:=j9d hk
 case' false=>obtain⟨q1,q2⟩:=j9c hk
 all_goals
  rw[q1,q2];have HK:=(show Hid (t.brk=_)from hk);clear hk q1 q2;go_in;go_wp2_with fail;refine(q2z ds a cap _ HN.o).mono ?_;rintro e w2⟨rfl,hB⟩;rw[H.o,q0e];have HB:Hid (Below w w w2):=hB;obtain⟨s,hs,hns⟩:=(HN.o.W hB).s H0.o;have HM:Hid (q0x s w2 a ds):=hns;clear hB hns;go_wp2_with fail;refine(q4w t ht w2.heap.size w2.heap.size s ds [] a cap [] false _ (by rw[HD.o];simp) (HM.o.kept (Below.heap_alloc _ _ _ hs)) hs (by omega) hc (IsX.fresh 326 w2 [.bool false]) (by simp) (by simp;omega)).mono ?_;rintro e w3⟨⟨a3,cap3,rfl,_,_⟩,hw3,hb3,_⟩;have hB3:Below w w w3:=HB.o.trans ((((Below.refl _ w2).alloc Zl _).trans (hb3.W Zl)).mono HB.o.size);rw[Bool.false_or,List.nil_append]at hw3;have HW3:Hid (Ln w2.heap.size w2.heap.size t.laid t.brk w3):=hw3;have g1:=hw3.cell;rw[HK.o]at g1;clear hw3
 ·go_wp2_with fail;refine(z4c 326 w2.heap.size w2.heap.size t.laid [.bool t.brk] w3 HW3.o).mono ?_;rintro e w4⟨rfl,hb4⟩;go_wp2;go_ret3;exact⟨rfl,hB3.trans (hb4.mono HB.o.size)⟩
 ·go_wp2;go_ret3;exact⟨rfl,hB3⟩
theorem v6l(ds:List Nd)(a:Option Addr)(cap:Nat)(hc:ds.length<=cap)(w:World)(hN:q3p w a ds):
  Calls prog 216 #[.slice a ds.length cap] w fun e w'=>e=.returned (.tuple #[.string (flS ds),.bool (flB ds),q0s (q3a ds)])/\Below w w w':=by
 by_cases h:q3a ds=0
 ·obtain⟨hl,_,_⟩:=q4c h;obtain⟨e0,e1,e2⟩:=j8b (q7q h) (q3b h) hl;rw[e1,e2,h,q0e];exact j8c ds _ (q3b h) (q7q h) hl a cap hc w hN
 ·obtain⟨e1,e2⟩:=g0o h;rw[e1,e2];exact v6m ds a cap w hN h
theorem j8f(ds:List Nd)(a:Option Addr)(cap:Nat)(hc:ds.length<=cap)(w:World)(hN:q3p w a ds):
  Calls prog 179 #[.slice a ds.length cap] w fun e w'=>e=.returned (.tuple #[.int .i64 (flS ds).size,.bool (flB ds),q0s (q3a ds)])/\Below w w w':=by
 have HN:Hid (q3p w a ds):=hN;clear hN;generalize hs:flS ds=s;generalize hb:flB ds=b;generalize he:q0s (q3a ds)=v;have H:Hid (flS ds=s/\flB ds=b/\q0s (q3a ds)=v):=⟨hs,hb,he⟩;clear hs hb he;go_in;go_wp2_with fail;refine(v6l ds a cap hc _ HN.o).mono ?_;rintro e w2⟨rfl,hB⟩;rw[H.o.1,H.o.2.1,H.o.2.2];go_wp2;go_ret3;exact⟨rfl,hB⟩
theorem j6a(ds:List Nd)(t:Tr)(hd:ds=t.N)(ht:t.Wf)(hl:ds.length<=400)(a:Option Addr)(cap:Nat)(hc:ds.length<=cap)(w:World)(hN:q3p w a ds):
  Calls prog 109 #[.slice a ds.length cap] w fun e w'=>e=.returned (.int .i64 (lgF t.flat))/\Below w w w':=by
 obtain⟨e0,e1,e2⟩:=j8b ht hd hl;have hcall:=j8f ds a cap hc w hN;rw[e0,e1,e2,q0e]at hcall;cases hf:t.flat with
 | none=>
  have e3:t.isFlat=false:=by simp[Tr.isFlat,hf]
  rw[e3]at hcall;have HC:Hid (Calls prog 179 #[.slice a ds.length cap] w fun e w'=>e=.returned (.tuple #[.int .i64 t.line.size,.bool false,.nilIface])/\Below w w w'):=hcall;clear hcall hN e0 e1 e2 e3 hd hf;rw[lgF];go_in;go_wp2_with fail;refine HC.o.mono ?_;rintro e w2⟨rfl,hb⟩;go_wp2;go_ret;exact⟨rfl,hb⟩
 | some s=>
  have e3:t.isFlat=true:=by simp[Tr.isFlat,hf]
  have e4:t.line.size=s.length:=by rw[k2v,hf];rfl
  rw[e3,e4]at hcall;have HC:Hid (Calls prog 179 #[.slice a ds.length cap] w fun e w'=>e=.returned (.tuple #[.int .i64 s.length,.bool true,.nilIface])/\Below w w w'):=hcall;clear hcall hN e0 e1 e2 e3 e4 hd hf;rw[lgF];go_in;go_wp2_with fail;refine HC.o.mono ?_;rintro e w2⟨rfl,hb⟩;go_wp2;go_ret;exact⟨rfl,hb⟩
theorem y9f.pr{g n j:Nat}{F:Nat->Q}{x y:Int}{w w':World}(h:y9f g (j*7+4) (j*7+5) (.int .i64 x) (.int .i64 y) w w')(hp:PwR w g n F)(hj:j<n):PwR w' g n (upd F j {F j with nx:=x,dp:=y}):=by
 have h1:=(hp.putNx hj x).putDp hj y;rw[k1g,q0o]at h1;exact h1.kept (by rw[h.2.2.2])
theorem y9f.belX{g a b:Nat}{e f:Value}{w w':World}(h:y9f g a b e f w w')(B:Nat):q0p B g w w':=
 ⟨h.1,h.2.1,h.2.2.1,by rw[h.2.2.2];simp[World.setCell],fun k _ hk=>by rw[h.2.2.2,Below.heap_setCell _ _ _ _ hk,Below.heap_setCell _ _ _ _ hk]⟩
theorem z0a(bp g n i:Nat)(x y:Int)(F:Nat->Q)(w:World)(hi:i<n)(c0:w.cell? ⟨bp,0,none⟩=some (.slice (some ⟨g,0,none⟩) n n))(hp:PwR w g n F):
  Calls prog 178 #[.pointer (some ⟨bp,0,none⟩),.int .i64 i,.int .i64 x,.int .i64 y] w fun e w'=>e=.returned (.tuple #[])/\PwR w' g n (upd F i {F i with nx:=x,dp:=y})/\q0p w g w w':=by
 have k:=hp.get i hi;refine(j6k bp g n i x y w (by omega) c0 _ _ k.c4 k.c5 hp.row.frozen hp.row.frozen).mono ?_;rintro e w2⟨rfl,h⟩;exact⟨rfl,h.pr hp hi,h.belX _⟩
end Go.Proofs.YthcpdohdppkmkaaGreatDoor
