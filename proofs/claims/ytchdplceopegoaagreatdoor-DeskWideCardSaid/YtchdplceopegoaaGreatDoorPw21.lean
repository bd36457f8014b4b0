/- Texts as one: DocA, DocB, DocC, FlatF, FlatG, Pn1, Pn2. -/
import Derived.Test.YtchdplceopegoaaGreatDoorPw20
namespace Go.Proofs.YtchdplceopegoaaGreatDoor
open Go Go.RowKit
set_option maxRecDepth 100000
set_option maxHeartbeats 4000000
theorem k4s (op:Int) (w:World):Calls Tryz.prog 191 #[.int .i64 op] w fun e w'=>e = .returned (.int .i64 (pts op))∧w=w':=by
 by_cases h6:op=6
 ·subst h6
  go_enter Tryz.func191,Tryz.ntmps191
  go_wp2
  go_ret
  exact ⟨rfl,rfl⟩
 by_cases h9:op=9
 ·subst h9
  go_enter Tryz.func191,Tryz.ntmps191
  go_wp2
  go_ret
  exact ⟨rfl,rfl⟩
 by_cases h7:op=7
 ·subst h7
  go_enter Tryz.func191,Tryz.ntmps191
  go_wp2
  go_ret
  exact ⟨rfl,rfl⟩
 by_cases h8:op=8
 ·subst h8
  go_enter Tryz.func191,Tryz.ntmps191
  go_wp2
  go_ret
  exact ⟨rfl,rfl⟩
 have e:pts op=0:=by simp [pts,h6,h7,h8,h9]
 rw [e]
 have g6:(op == 6)=false:=by simp [h6]
 have g7:(op == 7)=false:=by simp [h7]
 have g8:(op == 8)=false:=by simp [h8]
 have g9:(op == 9)=false:=by simp [h9]
 clear e h6 h7 h8 h9
 go_enter Tryz.func191,Tryz.ntmps191
 go_wp2
 go_ret
 exact ⟨rfl,rfl⟩
theorem z3v (s:ByteArray) (w:World):Calls Tryz.prog 190 #[.string s] w fun e w'=>e = .returned (.bool (isW s))∧w=w':=by
 by_cases h1:(s.size:Int)<1
 ·have e:isW s=false:=by simp [isW];omega
  rw [e]
  clear e
  go_enter Tryz.func190,Tryz.ntmps190
  go_wp2
  go_ret
  exact ⟨rfl,rfl⟩
 by_cases h2:20<(s.size:Int)
 ·have e:isW s=false:=by simp [isW];omega
  rw [e]
  clear e
  go_enter Tryz.func190,Tryz.ntmps190
  go_wp2
  go_ret
  exact ⟨rfl,rfl⟩
 go_enter Tryz.func190,Tryz.ntmps190
 go_wp2
 go_loopw [14] (fun i wr=>wr=w∧∃ k:Nat,k≤s.size∧i = .int .i64 k∧∀ j (h:j<s.size),j<k→q4l s[j]=true) (fun i _=>s.size - (intOf i).toNat)
 case atStart=>exact ⟨rfl,0,Nat.zero_le _,rfl,fun j _ hj=>by omega⟩
 case round=>
  obtain ⟨rfl,k,hk,rfl,hall⟩:=hrel
  have HA:Hid (∀ j (h:j<s.size),j<k→q4l s[j]=true):=hall
  clear hall
  by_cases hlt:k<s.size
  ·cases hb:q4l s[k] with
   | false=>
    have HE:Hid (isW s=false):=v3h hlt hb
    have hc:=k1r hb
    clear hb
    rcases hc with hc | ⟨hc,hd⟩
    ·go_wp2
     go_ret
     exact ⟨by rw [HE.out];rfl,rfl⟩
    ·go_wp2
     go_ret
     exact ⟨by rw [HE.out];rfl,rfl⟩
   | true=>
    have HB:Hid (q4l s[k]=true):=hb
    obtain ⟨hc,hd⟩:=k6k hb
    clear hb
    go_wp2
    go_roundw
    case rel=>
     refine ⟨by trivial,k+1,by omega,by go_num,?_⟩
     intro j h hj
     by_cases hjk:j=k
     ·subst hjk;exact HB.out
     ·exact HA.out j h (by omega)
    case measure=>simp [intOf];omega
  ·have HE:Hid (isW s=true):=j6p (by omega) (by omega) fun j h=>HA.out j h (by omega)
   go_wp2
   go_ret
   exact ⟨by rw [HE.out];rfl,rfl⟩
theorem q7z (x:Nd) (w:World):Calls Tryz.prog 159 #[y2r x] w fun e w'=>e = .returned (q1e (q0p x))∧Below w.heap.size w w':=by
 obtain ⟨op,tx,n⟩:=x
 by_cases h1:op<1
 ·have e:q0p ⟨op,tx,n⟩=1:=by simp [q0p,h1]
  rw [e,z3q]
  clear e
  go_enter Tryz.func159,Tryz.ntmps159
  go_wp2
  go_ret
  exact ⟨rfl,(Below.refl _ _).alloc (Nat.le_refl _) _⟩
 by_cases h2:9<op
 ·have e:q0p ⟨op,tx,n⟩=1:=by simp [q0p,h2]
  rw [e,z3q]
  clear e
  go_enter Tryz.func159,Tryz.ntmps159
  go_wp2
  go_ret
  exact ⟨rfl,(Below.refl _ _).alloc (Nat.le_refl _) _⟩
 rcases y2t h1 h2 with rfl | rfl | rfl | rfl | rfl | rfl | rfl | rfl | rfl
 case inl=>
  clear h1 h2
  by_cases hn:n=0
  ·subst hn
   cases hw:isW tx with
   | false=>
    have e:q0p ⟨1,tx,0⟩=5:=by simp [q0p,hw]
    rw [e,v0f]
    clear e
    go_enter Tryz.func159,Tryz.ntmps159
    go_wp2_with (go_at_call 190;refine (z3v _ _).mono ?_;rintro e w' ⟨rfl,rfl⟩)
    go_ret
    exact ⟨rfl,(Below.refl _ _).alloc (Nat.le_refl _) _⟩
   | true=>
    have e:q0p ⟨1,tx,0⟩=0:=by simp [q0p,hw]
    rw [e,q0n]
    clear e
    go_enter Tryz.func159,Tryz.ntmps159
    go_wp2_with (go_at_call 190;refine (z3v _ _).mono ?_;rintro e w' ⟨rfl,rfl⟩)
    go_ret
    exact ⟨rfl,(Below.refl _ _).alloc (Nat.le_refl _) _⟩
  ·have e:q0p ⟨1,tx,n⟩=2:=by simp [q0p,hn]
   rw [e,z7o]
   have hn':(n != 0)=true:=by simp [hn]
   clear e hn
   go_enter Tryz.func159,Tryz.ntmps159
   go_wp2
   go_ret
   exact ⟨rfl,(Below.refl _ _).alloc (Nat.le_refl _) _⟩
 case inr.inr.inr.inr.inr.inr.inl=>
  clear h1 h2
  by_cases hs:tx.size=0
  ·obtain rfl:=z8y hs
   by_cases hn:n<0
   ·have e:q0p ⟨7,⟨#[]⟩,n⟩=1:=by simp [q0p,hn,hs]
    rw [e,z3q]
    clear e hs
    go_enter Tryz.func159,Tryz.ntmps159
    go_wp2
    go_ret
    exact ⟨rfl,(Below.refl _ _).alloc (Nat.le_refl _) _⟩
   by_cases hm:8<n
   ·have e:q0p ⟨7,⟨#[]⟩,n⟩=1:=by simp [q0p,hm,hs]
    rw [e,z3q]
    clear e hs
    go_enter Tryz.func159,Tryz.ntmps159
    go_wp2
    go_ret
    exact ⟨rfl,(Below.refl _ _).alloc (Nat.le_refl _) _⟩
   have e:q0p ⟨7,⟨#[]⟩,n⟩=0:=by simp [q0p,hn,hm,hs]
   rw [e,q0n]
   clear e hs
   go_enter Tryz.func159,Tryz.ntmps159
   go_wp2
   go_ret
   exact ⟨rfl,(Below.refl _ _).alloc (Nat.le_refl _) _⟩
  ·have e:q0p ⟨7,tx,n⟩=2:=by simp [q0p,hs]
   rw [e,z7o]
   have hs':=j2r hs
   clear e hs
   go_enter Tryz.func159,Tryz.ntmps159
   go_wp2
   go_ret
   exact ⟨rfl,(Below.refl _ _).alloc (Nat.le_refl _) _⟩
 all_goals
  clear h1 h2
  by_cases hs:tx.size=0
  ·obtain rfl:=z8y hs
   by_cases hn:n=0
   ·subst hn
    rw [show ∀ k:Int,k=0→q1e k = .nilIface from fun k hk=>by rw [hk];rfl]
    ·clear hs
     go_enter Tryz.func159,Tryz.ntmps159
     go_wp2
     go_ret
     exact ⟨rfl,(Below.refl _ _).alloc (Nat.le_refl _) _⟩
    ·simp [q0p,hs]
   ·have hn':(n != 0)=true:=by simp [hn]
    rw [show ∀ k:Int,k=2→q1e k = .iface 24 (.int .i64 2) from fun k hk=>by rw [hk];rfl]
    ·clear hs hn
     go_enter Tryz.func159,Tryz.ntmps159
     go_wp2
     go_ret
     exact ⟨rfl,(Below.refl _ _).alloc (Nat.le_refl _) _⟩
    ·simp [q0p,hn]
  ·have hs':=j2r hs
   rw [show ∀ k:Int,k=2→q1e k = .iface 24 (.int .i64 2) from fun k hk=>by rw [hk];rfl]
   ·clear hs
    go_enter Tryz.func159,Tryz.ntmps159
    go_wp2
    go_ret
    exact ⟨rfl,(Below.refl _ _).alloc (Nat.le_refl _) _⟩
   ·simp [q0p,hs]
theorem z3p (ds:List Nd) (a:Option Addr) (cap i0:Nat) (w:World) (hN:q2s w a ds) (hl:ds.length≤400) (hi:i0≤ds.length) :
  Calls Tryz.prog 160 #[.slice a ds.length cap,.int .i64 i0] w fun e w'=>((∃ j:Nat,q1k ds i0 1=some j∧e = .returned (.tuple #[.int .i64 j,.bool true]))∨(q1k ds i0 1=none∧e = .returned (.tuple #[.int .i64 ds.length,.bool false])))∧w=w':=by
 have HN:Hid (q2s w a ds):=hN
 clear hN
 go_enter Tryz.func160,Tryz.ntmps160
 go_wp2
 go_loopw [1,6] (fun i m wr=>wr=w∧∃ k q:Nat,k≤ds.length∧q≤k+1∧i = .int .i64 k∧m = .int .i64 q∧q1k ds i0 1=q1k ds k q) (fun i _ _=>ds.length - (intOf i).toNat)
 case atStart=>exact ⟨rfl,i0,1,hi,by omega,rfl,rfl,rfl⟩
 case round=>
  obtain ⟨rfl,k,q,hk,hq,rfl,rfl,he⟩:=hrel
  have HE:Hid (q1k ds i0 1=q1k ds k q):=he
  clear he
  by_cases h0:q=0
  ·subst h0
   have HE':Hid (q1k ds i0 1=some k):=HE.out.trans (k4w _ _)
   go_wp2
   go_ret2
   exact ⟨.inl ⟨k,HE'.out,rfl⟩,rfl⟩
  ·obtain ⟨q',rfl⟩:∃ q',q=q'+1:=⟨q - 1,by omega⟩
   by_cases hlt:k<ds.length
   ·obtain ⟨b,o,ea,hb,c1,c2,c3⟩:=HN.out k hlt
    have HS:Hid (q1k ds i0 1=q1k ds (k+1) (pts ds[k].op+q')):=HE.out.trans (k4u _ _ _ hlt)
    have hp:=v1b ds[k].op
    subst ea
    clear c2 c3 h0
    go_wp2_with (go_at_call 191;refine (k4s _ _).mono ?_;rintro e w' ⟨rfl,rfl⟩)
    go_roundw
    case rel=>
     exact ⟨by trivial,k+1,pts ds[k].op+q',by omega,by omega,by go_num,by go_num,HS.out⟩
    case measure=>simp [intOf];omega
   ·have hkk:k=ds.length:=by omega
    subst hkk
    have HE':Hid (q1k ds i0 1=none):=HE.out.trans (k8z _ _ _ (by omega))
    go_wp2
    go_ret2
    exact ⟨.inr ⟨HE'.out,rfl⟩,rfl⟩
theorem z1w {ds:List Nd} {i0 j:Nat} (a:Option Addr) (cap:Nat) (w:World) (hN:q2s w a ds) (hl:ds.length≤400) (hi:i0≤ds.length) (h:q1k ds i0 1=some j) :
  Calls Tryz.prog 160 #[.slice a ds.length cap,.int .i64 i0] w fun e w'=>e = .returned (.tuple #[.int .i64 j,.bool true])∧w=w':=
 (z3p ds a cap i0 w hN hl hi).mono fun e w' ⟨h1,h2⟩=>⟨by
  rcases h1 with ⟨j',e1,e2⟩ | ⟨e1,_⟩
  ·rw [h] at e1;cases e1;exact e2
  ·rw [h] at e1;(cases e1),h2⟩
theorem k0f {ds:List Nd} {i0:Nat} (a:Option Addr) (cap:Nat) (w:World) (hN:q2s w a ds) (hl:ds.length≤400) (hi:i0≤ds.length) (h:q1k ds i0 1=none) :
  Calls Tryz.prog 160 #[.slice a ds.length cap,.int .i64 i0] w fun e w'=>e = .returned (.tuple #[.int .i64 ds.length,.bool false])∧w=w':=
 (z3p ds a cap i0 w hN hl hi).mono fun e w' ⟨h1,h2⟩=>⟨by
  rcases h1 with ⟨j',e1,e2⟩ | ⟨_,e2⟩
  ·rw [h] at e1;cases e1
  ·exact e2,h2⟩
theorem q2f (ds:List Nd) (a:Option Addr) (cap:Nat) (w:World) (hN:q2s w a ds) :
  Calls Tryz.prog 124 #[.slice a ds.length cap] w fun e w'=>e = .returned (q1e (q2k ds))∧Below w.heap.size w w':=by
 have HN:Hid (q2s w a ds):=hN
 clear hN
 by_cases h4:400<(ds.length:Int)
 ·rw [k8u (by omega),k2o]
  go_enter Tryz.func124,Tryz.ntmps124
  go_wp2
  go_ret
  exact ⟨rfl,Below.refl _ _⟩
 ·have hl:ds.length≤400:=by omega
  go_enter Tryz.func124,Tryz.ntmps124
  go_wp2
  go_loopw [14] (fun i wr=>Below w.heap.size w wr∧∃ k:Nat,k≤ds.length∧i = .int .i64 k∧∀ x∈ds.take k,q0p x=0) (fun i _=>ds.length - (intOf i).toNat)
  case atStart=>exact ⟨Below.refl _ _,0,Nat.zero_le _,rfl,by simp⟩
  case round=>
   obtain ⟨hB,k,hk,rfl,hall⟩:=hrel
   have HA:Hid (∀ x∈ds.take k,q0p x=0):=hall
   have HM:Hid (q2s wr a ds):=HN.out.below hB
   clear hall
   by_cases hlt:k<ds.length
   ·obtain ⟨b,o,ea,hb,c1,c2,c3⟩:=HM.out k hlt
    subst ea
    by_cases h0:q0p ds[k]=0
    ·have H0:Hid (q0p ds[k]=0):=h0
     clear h0
     go_wp2_with fail
     refine (q7z ds[k] _).mono ?_
     rintro e w2 ⟨rfl,hb2⟩
     rw [H0.out,q0n]
     have hB2:=z0i hB (Nat.le_refl _) hb2
     clear hb2
     go_wp2
     go_roundw
     case rel=>exact ⟨hB2,k+1,by omega,by go_num,j3f hlt HA.out H0.out⟩
     case measure=>simp [intOf];omega
    ·have H0:Hid (q0p ds[k]≠0):=h0
     clear h0
     go_wp2_with fail
     refine (q7z ds[k] _).mono ?_
     rintro e w2 ⟨rfl,hb2⟩
     rw [q0g H0.out]
     have hB2:=z0i hB (Nat.le_refl _) hb2
     clear hb2
     go_wp2
     go_ret
     refine ⟨?_,hB2⟩
     rw [k8v hl hlt HA.out H0.out,q0g H0.out]
     rfl
   ·have HF:Hid (q2k ds=if q1k ds 0 1=some ds.length then 0 else 2):=j5z hl (j8w hlt HA.out)
    cases he:q1k ds 0 1 with
    | none=>
     have HE:Hid (q1k ds 0 1=none):=he
     clear he
     go_wp2_with fail
     refine (k0f a cap _ HM.out hl (Nat.zero_le _) HE.out).mono ?_
     rintro e w2 ⟨rfl,rfl⟩
     go_wp2
     go_ret
     refine ⟨?_,hB⟩
     rw [HF.out,HE.out,if_neg (by simp),z7o]
     rfl
    | some j=>
     have HE:Hid (q1k ds 0 1=some j):=he
     clear he
     by_cases hj:j=ds.length
     ·subst hj
      go_wp2_with fail
      refine (z1w a cap _ HM.out hl (Nat.zero_le _) HE.out).mono ?_
      rintro e w2 ⟨rfl,rfl⟩
      go_wp2
      go_ret
      refine ⟨?_,hB⟩
      rw [HF.out,HE.out,if_pos rfl,q0n]
      rfl
     ·have hj':((j:Int) != (ds.length:Int))=true:=by simp;omega
      go_wp2_with fail
      refine (z1w a cap _ HM.out hl (Nat.zero_le _) HE.out).mono ?_
      rintro e w2 ⟨rfl,rfl⟩
      go_wp2
      go_ret
      refine ⟨?_,hB⟩
      rw [HF.out,HE.out,if_neg (by simp [hj]),z7o]
      rfl
theorem j6i (ds:List Nd) (a:Option Addr) (cap:Nat) (w:World) (hN:q2s w a ds) (h:q2k ds≠0) :
  Calls Tryz.prog 221 #[.slice a ds.length cap] w fun e w'=>e = .returned (.tuple #[.string ⟨#[]⟩,.bool false,q1e (q2k ds)])∧Below w.heap.size w w':=by
 have HN:Hid (q2s w a ds):=hN
 have H:Hid (q2k ds≠0):=h
 rw [q0g h]
 clear hN h
 go_enter Tryz.func221,Tryz.ntmps221
 go_wp2_with fail
 refine (q2f ds a cap _ HN.out).mono ?_
 rintro e w2 ⟨rfl,hB⟩
 rw [q0g H.out]
 go_wp2
 go_ret3
 exact ⟨rfl,hB⟩
theorem k9l (ds:List Nd) (t:Tr) (hd:ds=t.nodes) (ht:t.Wf) (hl:ds.length≤400) (a:Option Addr) (cap:Nat) (hc:ds.length≤cap) (w:World) (hN:q2s w a ds) :
  Calls Tryz.prog 221 #[.slice a ds.length cap] w fun e w'=>e = .returned (.tuple #[.string t.line,.bool t.isFlat,.nilIface])∧Below w.heap.size w w':=by
 have HN:Hid (q2s w a ds):=hN
 have H:Hid (q2k ds=0):=(show q2k ds=0 by rw [hd];exact q8x ht (by rw [←hd];exact hl))
 have HD:Hid (ds=t.nodes):=hd
 have H0:Hid (ds≠[]):=(show ds≠[] by have:=t.pos;rw [←hd] at this;exact List.length_pos_iff.1 this)
 clear hN hd
 cases hk:t.brk
 case' true=>obtain ⟨q1,q2⟩:=j0e hk
 case' false=>obtain ⟨q1,q2⟩:=j0d hk
 all_goals
  rw [q1,q2]
  have HK:=(show Hid (t.brk=_) from hk)
  clear hk q1 q2
  go_enter Tryz.func221,Tryz.ntmps221
  go_wp2_with fail
  refine (q2f ds a cap _ HN.out).mono ?_
  rintro e w2 ⟨rfl,hB⟩
  rw [H.out,q0n]
  have HB:Hid (Below w.heap.size w w2):=hB
  obtain ⟨s,hs,hns⟩:=(HN.out.below hB).s H0.out
  have HM:Hid (q0u s w2 a ds):=hns
  clear hB hns
  go_wp2_with fail
  refine (q3x t ht w2.heap.size w2.heap.size s ds [] a cap [] false _ (by rw [HD.out];simp) (HM.out.kept (Below.heap_alloc _ _ _ hs)) hs (by omega) hc (IsX.fresh 328 w2 [.bool false]) (by simp) (by simp;omega)).mono ?_
  rintro e w3 ⟨⟨a3,cap3,rfl,_,_⟩,hw3,hb3,_⟩
  have hB3:Below w.heap.size w w3:=HB.out.trans ((((Below.refl _ w2).alloc (Nat.le_refl _) _).trans (hb3.below (Nat.le_refl _))).mono HB.out.size)
  rw [Bool.false_or,List.nil_append] at hw3
  have HW3:Hid (Ln w2.heap.size w2.heap.size t.laid t.brk w3):=hw3
  have g1:=hw3.cell
  rw [HK.out] at g1
  clear hw3
 ·go_wp2_with fail
  refine (z1g 328 w2.heap.size w2.heap.size t.laid [.bool t.brk] w3 HW3.out).mono ?_
  rintro e w4 ⟨rfl,hb4⟩
  go_wp2
  go_ret3
  exact ⟨rfl,hB3.trans (hb4.mono HB.out.size)⟩
 ·go_wp2
  go_ret3
  exact ⟨rfl,hB3⟩
theorem j6h (ds:List Nd) (a:Option Addr) (cap:Nat) (hc:ds.length≤cap) (w:World) (hN:q2s w a ds) :
  Calls Tryz.prog 221 #[.slice a ds.length cap] w fun e w'=>e = .returned (.tuple #[.string (flS ds),.bool (flB ds),q1e (q2k ds)])∧Below w.heap.size w w':=by
 by_cases h:q2k ds=0
 ·obtain ⟨hl,_,_⟩:=q4q h
  obtain ⟨e0,e1,e2⟩:=k9k (q9o h) (q3s h) hl
  rw [e1,e2,h,q0n]
  exact k9l ds _ (q3s h) (q9o h) hl a cap hc w hN
 ·obtain ⟨e1,e2⟩:=v7i h
  rw [e1,e2]
  exact j6i ds a cap w hN h
theorem k9o (ds:List Nd) (a:Option Addr) (cap:Nat) (hc:ds.length≤cap) (w:World) (hN:q2s w a ds) :
  Calls Tryz.prog 193 #[.slice a ds.length cap] w fun e w'=>e = .returned (.tuple #[.int .i64 (flS ds).size,.bool (flB ds),q1e (q2k ds)])∧Below w.heap.size w w':=by
 have HN:Hid (q2s w a ds):=hN
 clear hN
 generalize hs:flS ds=s
 generalize hb:flB ds=b
 generalize he:q1e (q2k ds)=v
 have H:Hid (flS ds=s∧flB ds=b∧q1e (q2k ds)=v):=⟨hs,hb,he⟩
 clear hs hb he
 go_enter Tryz.func193,Tryz.ntmps193
 go_wp2_with fail
 refine (j6h ds a cap hc _ HN.out).mono ?_
 rintro e w2 ⟨rfl,hB⟩
 rw [H.out.1,H.out.2.1,H.out.2.2]
 go_wp2
 go_ret3
 exact ⟨rfl,hB⟩
theorem k7r (ds:List Nd) (t:Tr) (hd:ds=t.nodes) (ht:t.Wf) (hl:ds.length≤400) (a:Option Addr) (cap:Nat) (hc:ds.length≤cap) (w:World) (hN:q2s w a ds) :
  Calls Tryz.prog 163 #[.slice a ds.length cap] w fun e w'=>e = .returned (.int .i64 (lgF t.flat))∧Below w.heap.size w w':=by
 obtain ⟨e0,e1,e2⟩:=k9k ht hd hl
 have hcall:=k9o ds a cap hc w hN
 rw [e0,e1,e2,q0n] at hcall
 cases hf:t.flat with
 | none=>
  have e3:t.isFlat=false:=by simp [Tr.isFlat,hf]
  rw [e3] at hcall
  have HC:Hid (Calls Tryz.prog 193 #[.slice a ds.length cap] w fun e w'=>e = .returned (.tuple #[.int .i64 t.line.size,.bool false,.nilIface])∧Below w.heap.size w w'):=hcall
  clear hcall hN e0 e1 e2 e3 hd hf
  rw [lgF]
  go_enter Tryz.func163,Tryz.ntmps163
  go_wp2_with fail
  refine HC.out.mono ?_
  rintro e w2 ⟨rfl,hb⟩
  go_wp2
  go_ret
  exact ⟨rfl,hb⟩
 | some s=>
  have e3:t.isFlat=true:=by simp [Tr.isFlat,hf]
  have e4:t.line.size=s.length:=by rw [z8e,hf];rfl
  rw [e3,e4] at hcall
  have HC:Hid (Calls Tryz.prog 193 #[.slice a ds.length cap] w fun e w'=>e = .returned (.tuple #[.int .i64 s.length,.bool true,.nilIface])∧Below w.heap.size w w'):=hcall
  clear hcall hN e0 e1 e2 e3 e4 hd hf
  rw [lgF]
  go_enter Tryz.func163,Tryz.ntmps163
  go_wp2_with fail
  refine HC.out.mono ?_
  rintro e w2 ⟨rfl,hb⟩
  go_wp2
  go_ret
  exact ⟨rfl,hb⟩
theorem v6p.pr {g n j:Nat} {F:Nat→Q} {x y:Int} {w w':World} (h:v6p g (j*7+4) (j*7+5) (.int .i64 x) (.int .i64 y) w w') (hp:PwR w g n F) (hj:j<n):PwR w' g n (upd F j { F j with nx:=x,dp:=y }):=by
 have h1:=(hp.putNx hj x).putDp hj y
 rw [z6r,q0j] at h1
 exact h1.kept (by rw [h.2.2.2])
theorem v6p.belX {g a b:Nat} {e f:Value} {w w':World} (h:v6p g a b e f w w') (B:Nat):q0i B g w w':=
 ⟨h.1,h.2.1,h.2.2.1,by rw [h.2.2.2];simp [World.setCell],fun k _ hk=>by rw [h.2.2.2,Below.heap_setCell _ _ _ _ hk,Below.heap_setCell _ _ _ _ hk]⟩
theorem q7y (bp g n i:Nat) (x y:Int) (F:Nat→Q) (w:World) (hi:i<n) (c0:w.cell? ⟨bp,0,none⟩=some (.slice (some ⟨g,0,none⟩) n n)) (hp:PwR w g n F) :
  Calls Tryz.prog 192 #[.pointer (some ⟨bp,0,none⟩),.int .i64 i,.int .i64 x,.int .i64 y] w fun e w'=>e = .returned (.tuple #[])∧PwR w' g n (upd F i { F i with nx:=x,dp:=y })∧q0i w.heap.size g w w':=by
 have k:=hp.get i hi
 refine (k8a bp g n i x y w (by omega) c0 _ _ k.c4 k.c5 hp.row.frozen hp.row.frozen).mono ?_
 rintro e w2 ⟨rfl,h⟩
 exact ⟨rfl,h.pr hp hi,h.belX _⟩
theorem j5r (bp g n i:Nat) (F:Nat→Q) (w:World) (hi:i<n) (c0:w.cell? ⟨bp,0,none⟩=some (.slice (some ⟨g,0,none⟩) n n)) (hp:PwR w g n F)
  (h6:((F i).op == 6)=false) (h9:((F i).op == 9)=false) (h7:((F i).op == 7)=false) (h8:((F i).op == 8)=false) :
  Calls Tryz.prog 162 #[.pointer (some ⟨bp,0,none⟩),.int .i64 i] w fun e w'=>e = .returned (.tuple #[])∧PwR w' g n F∧q0i w.heap.size g w w':=by
 obtain ⟨d0,d1,d2,d3,d4,d5,d6⟩:=hp.get i hi
 have hiI:(i:Int)<n:=by omega
 have hp0:(0:Int)≤(i:Int):=by omega
 have HP:Hid (PwR w g n F):=hp
 clear hp hi
 generalize F i=q at *
 go_enter Tryz.func162,Tryz.ntmps162
 go_wp2
 go_end0
 have hb:Below w.heap.size w (w.alloc (.cells #[.int .i64 q.op,.string q.tx,.int .i64 q.n,.int .i64 q.en,.int .i64 q.nx,.int .i64 q.dp,.int .i64 q.lg] 248)):=(Below.refl _ _).alloc (Nat.le_refl _) _
 exact ⟨rfl,HP.out.kept (hb.block g HP.out.row.lt),q0i.of hb⟩
abbrev q4j (q:Q):Obj:=.cells #[.int .i64 q.op,.string q.tx,.int .i64 q.n,.int .i64 q.en,.int .i64 q.nx,.int .i64 q.dp,.int .i64 q.lg] 248
theorem v2o (bp g n i:Nat) (F:Nat→Q) (w:World) (hn:n≤400) (hi1:i+1<n) (c0:w.cell? ⟨bp,0,none⟩=some (.slice (some ⟨g,0,none⟩) n n)) (hp:PwR w g n F)
  (hop:(F i).op=7∨(F i).op=8) (x:Int) (hx:IntKind.i64.wrap ((F i).dp+(F i).n)=x) :
  Calls Tryz.prog 162 #[.pointer (some ⟨bp,0,none⟩),.int .i64 i] w fun e w'=>e = .returned (.tuple #[])∧PwR w' g n (upd F (i+1) { F (i+1) with nx:=(F i).nx,dp:=x })∧q0i w.heap.size g w w':=by
 obtain ⟨d0,d1,d2,d3,d4,d5,d6⟩:=hp.get i (by omega)
 have hiI:(i:Int)<n:=by omega
 have hp0:(0:Int)≤(i:Int):=by omega
 have hw1:=z3j hn hiI
 have HP:Hid (PwR w g n F):=hp
 have HC:Hid (w.cell? ⟨bp,0,none⟩=some (.slice (some ⟨g,0,none⟩) n n)):=c0
 have HF:Hid (∃ q,F i=q):=⟨_,rfl⟩
 clear hp
 generalize F i=q at *
 have hlt:g<w.heap.size:=HP.out.row.lt
 rcases hop with e | e
 all_goals
  rw [e] at d0
  go_enter Tryz.func162,Tryz.ntmps162
  go_wp2_with fail
  refine (q7y bp g n (i+1) q.nx x F _ hi1 (ka HC.out _) (HP.out.kept (Below.heap_alloc _ _ _ hlt))).mono ?_
  rintro e w2 ⟨rfl,h2,hb2⟩
  go_wp2
  go_end0
  exact ⟨rfl,h2,(q0i.of ((Below.refl _ w).alloc (Nat.le_refl _) _)).trans (hb2.mono (by simp))⟩
theorem v2p (bp g n i j:Nat) (F:Nat→Q) (w:World) (hn:n≤400) (hi1:i+1<n) (hj:j<n) (hbg:bp≠g) (c0:w.cell? ⟨bp,0,none⟩=some (.slice (some ⟨g,0,none⟩) n n)) (hp:PwR w g n F)
  (hop:(F i).op=6) (hen:(F (i+1)).en=(j:Int)) :
  Calls Tryz.prog 162 #[.pointer (some ⟨bp,0,none⟩),.int .i64 i] w fun e w'=>e = .returned (.tuple #[])∧PwR w' g n (upd (upd F (i+1) { F (i+1) with nx:=j,dp:=(F i).dp }) j { upd F (i+1) { F (i+1) with nx:=j,dp:=(F i).dp } j with nx:=(F i).nx,dp:=(F i).dp })∧q0i w.heap.size g w w':=by
 obtain ⟨d0,d1,d2,d3,d4,d5,d6⟩:=hp.get i (by omega)
 have k3:=(hp.get (i+1) hi1).c3
 rw [hen] at k3
 have hiI:(i:Int)<n:=by omega
 have hi1I:(i:Int)+1<n:=by omega
 have hp0:(0:Int)≤(i:Int):=by omega
 have hp1:(0:Int)≤(i:Int)+1:=by omega
 have htn:((i:Int)+1).toNat=i+1:=by omega
 have hw1:=z3j hn hiI
 have HP:Hid (PwR w g n F):=hp
 have hlt:g<w.heap.size:=HP.out.row.lt
 have hltb:bp<w.heap.size:=World.block_lt_of_cell? w ⟨bp,0,none⟩ c0
 have HC:Hid (w.cell? ⟨bp,0,none⟩=some (.slice (some ⟨g,0,none⟩) n n)):=c0
 have k3':∀ O,(w.alloc O).cell? ⟨g,(i+1)*7+3,none⟩=some (.int .i64 (j:Int)):=fun O=>ka k3 O
 have c0':∀ O,(w.alloc O).cell? ⟨bp,0,none⟩=some (.slice (some ⟨g,0,none⟩) n n):=fun O=>ka c0 O
 rw [hop] at d0
 have HE:Hid ((F (i+1)).en=(j:Int)):=hen
 clear hp hen k3 hop
 generalize F i=q at *
 go_enter Tryz.func162,Tryz.ntmps162
 go_wp2_with fail
 refine (q7y bp g n (i+1) j q.dp F _ hi1 (c0' _) (HP.out.kept (Below.heap_alloc _ _ _ hlt))).mono ?_
 rintro e w2 ⟨rfl,h2,hb2⟩
 have b4:w2.cell? ⟨w.heap.size,4,none⟩=some (.int .i64 q.nx):=(hb2.cell (p:=⟨w.heap.size,4,none⟩) (by simp) (by simp;omega)).trans (by simp [go_sem])
 have b5:w2.cell? ⟨w.heap.size,5,none⟩=some (.int .i64 q.dp):=(hb2.cell (p:=⟨w.heap.size,5,none⟩) (by simp) (by simp;omega)).trans (by simp [go_sem])
 have c2:w2.cell? ⟨bp,0,none⟩=some (.slice (some ⟨g,0,none⟩) n n):=(hb2.cell (p:=⟨bp,0,none⟩) (by simp;omega) hbg).trans (c0' _)
 have HP2:Hid (PwR w2 g n (upd F (i+1) { F (i+1) with nx:=j,dp:=q.dp })):=h2
 have HB2:Hid (q0i w.heap.size g w w2):=(q0i.of ((Below.refl _ w).alloc (Nat.le_refl _) _)).trans (hb2.mono (by simp))
 clear h2 hb2
 go_wp2_with fail
 refine (q7y bp g n j q.nx q.dp _ _ hj c2 HP2.out).mono ?_
 rintro e w3 ⟨rfl,h3,hb3⟩
 go_wp2
 go_end0
 exact ⟨rfl,h3,HB2.out.trans (hb3.mono HB2.out.size)⟩
theorem j5s (bp g n i j:Nat) (F:Nat→Q) (w:World) (hn:n≤400) (hi1:i+1<n) (hj:j<n) (hbg:bp≠g) (c0:w.cell? ⟨bp,0,none⟩=some (.slice (some ⟨g,0,none⟩) n n)) (hp:PwR w g n F)
  (hop:(F i).op=9) (hen:(F (i+1)).en=(j:Int)) :
  Calls Tryz.prog 162 #[.pointer (some ⟨bp,0,none⟩),.int .i64 i] w fun e w'=>e = .returned (.tuple #[])∧PwR w' g n (upd (upd F (i+1) { F (i+1) with nx:=(F i).nx,dp:=(F i).dp }) j { upd F (i+1) { F (i+1) with nx:=(F i).nx,dp:=(F i).dp } j with nx:=(F i).nx,dp:=(F i).dp })∧q0i w.heap.size g w w':=by
 obtain ⟨d0,d1,d2,d3,d4,d5,d6⟩:=hp.get i (by omega)
 have hiI:(i:Int)<n:=by omega
 have hi1I:(i:Int)+1<n:=by omega
 have hp0:(0:Int)≤(i:Int):=by omega
 have hp1:(0:Int)≤(i:Int)+1:=by omega
 have htn:((i:Int)+1).toNat=i+1:=by omega
 have hw1:=z3j hn hiI
 have HP:Hid (PwR w g n F):=hp
 have hlt:g<w.heap.size:=HP.out.row.lt
 have hltb:bp<w.heap.size:=World.block_lt_of_cell? w ⟨bp,0,none⟩ c0
 have c0':∀ O,(w.alloc O).cell? ⟨bp,0,none⟩=some (.slice (some ⟨g,0,none⟩) n n):=fun O=>ka c0 O
 rw [hop] at d0
 have HE:Hid ((F (i+1)).en=(j:Int)):=hen
 clear hp hen hop
 generalize F i=q at *
 go_enter Tryz.func162,Tryz.ntmps162
 go_wp2_with fail
 refine (q7y bp g n (i+1) q.nx q.dp F _ hi1 (c0' _) (HP.out.kept (Below.heap_alloc _ _ _ hlt))).mono ?_
 rintro e w2 ⟨rfl,h2,hb2⟩
 have b4:w2.cell? ⟨w.heap.size,4,none⟩=some (.int .i64 q.nx):=(hb2.cell (p:=⟨w.heap.size,4,none⟩) (by simp) (by simp;omega)).trans (by simp [go_sem])
 have b5:w2.cell? ⟨w.heap.size,5,none⟩=some (.int .i64 q.dp):=(hb2.cell (p:=⟨w.heap.size,5,none⟩) (by simp) (by simp;omega)).trans (by simp [go_sem])
 have c2:w2.cell? ⟨bp,0,none⟩=some (.slice (some ⟨g,0,none⟩) n n):=(hb2.cell (p:=⟨bp,0,none⟩) (by simp;omega) hbg).trans (c0' _)
 have k3:w2.cell? ⟨g,(i+1)*7+3,none⟩=some (.int .i64 (j:Int)):=by
  have:=(h2.get (i+1) hi1).c3
  rw [q0j] at this
  rw [←HE.out]
  exact this
 have HP2:Hid (PwR w2 g n (upd F (i+1) { F (i+1) with nx:=q.nx,dp:=q.dp })):=h2
 have HB2:Hid (q0i w.heap.size g w w2):=(q0i.of ((Below.refl _ w).alloc (Nat.le_refl _) _)).trans (hb2.mono (by simp))
 have hs2:w.heap.size<w2.heap.size:=by have:=hb2.size;simp at this;omega
 have hKb:∀ w3,q0i w2.drew.heap.size g w2.drew w3→w3.cell? ⟨bp,0,none⟩=some (.slice (some ⟨g,0,none⟩) n n):=fun w3 h=>(h.cell (p:=⟨bp,0,none⟩) (by simp;omega) hbg).trans c2
 have hK4:∀ w3,q0i w2.drew.heap.size g w2.drew w3→w3.cell? ⟨w.heap.size,4,none⟩=some (.int .i64 q.nx):=fun w3 h=>(h.cell (p:=⟨w.heap.size,4,none⟩) hs2 (by simp;omega)).trans b4
 have hK5:∀ w3,q0i w2.drew.heap.size g w2.drew w3→w3.cell? ⟨w.heap.size,5,none⟩=some (.int .i64 q.dp):=fun w3 h=>(h.cell (p:=⟨w.heap.size,5,none⟩) hs2 (by simp;omega)).trans b5
 have hK3:∀ w3,PwR w3 g n (upd (upd F (i+1) { F (i+1) with nx:=q.nx,dp:=q.dp }) j { upd F (i+1) { F (i+1) with nx:=q.nx,dp:=q.dp } j with nx:=q.nx,dp:=q.dp })→w3.cell? ⟨g,(i+1)*7+3,none⟩=some (.int .i64 (j:Int)):=fun w3 h=>by
  have:=(h.get (i+1) hi1).c3
  rw [←HE.out]
  by_cases e:i+1=j
  ·subst e
   rw [q0j,q0j] at this
   exact this
  ·rw [q0x e,q0j] at this
   exact this
 clear h2 hb2
 go_wp2_with fail
 go_region_held3 (fun w'=>w'.cell? ⟨bp,0,none⟩=some (.slice (some ⟨g,0,none⟩) n n)∧w'.cell? ⟨g,(i+1)*7+3,none⟩=some (.int .i64 (j:Int))∧w'.cell? ⟨w.heap.size,4,none⟩=some (.int .i64 q.nx)∧w'.cell? ⟨w.heap.size,5,none⟩=some (.int .i64 q.dp))
  (first | exact ⟨c2,k3,b4,b5⟩ | exact ⟨hKb _ hb3,hK3 _ h3,hK4 _ hb3,hK5 _ hb3⟩) ((go_at_call 192;refine (q7y bp g n j q.nx q.dp _ w2.drew hj c2 (HP2.out.kept rfl)).mono ?_;rintro e w3 ⟨rfl,h3,hb3⟩))
 all_goals
  go_wp2
  go_end0
  exact ⟨rfl,h3,HB2.out.drew.trans (hb3.mono HB2.out.size)⟩
end Go.Proofs.YtchdplceopegoaaGreatDoor
