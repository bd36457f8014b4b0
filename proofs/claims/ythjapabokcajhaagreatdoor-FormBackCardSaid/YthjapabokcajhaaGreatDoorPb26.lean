/- Texts as one: WLayZ, ShowW, Bs1, BstU, BstX, Plain, PlainR, BstC, RLs, RCst, OwnI. -/
import Derived.Test.YthjapabokcajhaaGreatDoorPb24
import Derived.Test.YthjapabokcajhaaGreatDoorPb25
import Derived.Test.YthjapabokcajhaaGreatDoorPb07
import Derived.Test.YthjapabokcajhaaGreatDoorPb22
import Derived.Test.YthjapabokcajhaaGreatDoorPb19
import Derived.Lib.Bytealg
import Derived.Lib.Strings
import Derived.Lib.IndexBytes
import Derived.Test.YthjapabokcajhaaGreatDoorPb05
import Derived.Test.YthjapabokcajhaaGreatDoorPb06
import Derived.Test.YthjapabokcajhaaGreatDoorPb21
import Derived.Deep.AppendLies
import Derived.Laws.Cover3
namespace Go.Proofs.YthjapabokcajhaaGreatDoor
open Go Go.RowKit
theorem Calls.valued {P:Program} {fn:Nat} {args:Array Value} {w:World} {Q:Value→World→Prop} {R:Ending→World→Prop} (h:Calls P fn args w fun e w'=>∃ v,e = .returned v∧Q v w') (hR:∀ v w',Q v w'→R (.returned v) w'):Calls P fn args w R:=
 h.mono fun _ _ ⟨v,he,hq⟩=>by rw [he];exact hR v _ hq
theorem z3p {B b:Nat} {pl:List Value} {res:Except Int (List UInt8 × List Int)} {l:List UInt8} {e:Ending} {w':World} (h:z7u B b pl res l e w'):∃ v,e = .returned v∧z7u B b pl res l (.returned v) w':=by
 cases res with
 | error er=>obtain ⟨h1,rfl⟩:=h;exact ⟨_,rfl,h1,rfl⟩
 | ok p=>obtain ⟨rfl,h1⟩:=h;exact ⟨_,rfl,rfl,h1⟩
theorem j5c (B b s be bf:Nat) (hb:s<B∧be<B∧bf<B) (hB:B≤b) (ds:List Nd) (a:Option Addr) (cap:Nat) (hl:ds.length≤400) (hcap:ds.length≤cap) (tx:ByteArray) (n:Int) (t:Tr) (ht:Tr.Wf (.one ⟨8,tx,n⟩ t)) (f:Nat→List Int→Except Int (List UInt8 × List Int)) (hA:q2q B b s be bf ds a cap t.nodes f) :
  k0o 92 B b s be bf ds a cap (⟨8,tx,n⟩::t.nodes) (q9a f t.line t.isFlat):=by
 intro i r deep ws wa wc l w hd hC hI hok hwc hW hdeep hsz
 have hdT:ds.drop i=(Tr.one ⟨8,tx,n⟩ t).nodes++r:=hd
 obtain ⟨hi,e1,e2⟩:=q1h (x:=⟨8,tx,n⟩) (A:=t.nodes++r) hd
 obtain ⟨o0,ea,d1,d2,d3⟩:=hC.nd i hi
 subst ea
 rw [e1] at d1
 have hlt:=hW.lt
 have hbs:B≤w.heap.size:=by omega
 have hSB:∀ v,Below B w (w.setCell ⟨b,5,none⟩ v):=fun v=>(Below.refl _ _).setCell (p:=⟨b,5,none⟩) hB _
 simp only [List.length_cons] at hdeep hsz
 cases ws with
 | nil=>
  refine (k4x i deep w hW.c5).mono ?_
  rintro e w' ⟨rfl,rfl⟩
  exact ⟨⟨by decide,rfl⟩,Below.refl _ _⟩
 | cons c ws=>
  obtain ⟨b0,o1,ea1,hlt1,x1⟩:=hI 0 (by simp)
  subst ea1
  have hS:=hI.slid (by simpa using hwc)
  simp only [Nat.add_zero,List.getElem_cons_zero] at x1
  simp only [List.length_cons] at hW hwc
  have hok':q2b ws:=fun d hd=>hok d (by simp [hd])
  have hlw:ws.length≤wc - 1:=by omega
  generalize hwa:(if wc=1 then some (⟨b0,o1,none⟩:Addr) else some ⟨b0,o1+1,none⟩)=wa' at hS
  have hC1:=hC.below hb (hSB (.slice wa' ws.length (wc - 1)))
  have hI1:=hS.below (hSB (.slice wa' ws.length (wc - 1)))
  have hW1:=hW.stored (.slice wa' ws.length (wc - 1))
  rcases hok c (by simp) with hc | hc
  ·subst hc
   refine Calls.valued (Q:=fun v w'=>z7u B b (q5u be bf ds.length cap (some ⟨s,o0,none⟩)) (q9a f t.line t.isFlat deep (0::ws)) l (.returned v) w'∧Below B w w') ?_ (fun v w' h=>h)
   refine y2e (be:=be) i deep ws.length w (by omega) (by omega) (by omega) hl (by omega) hW.c0 d1 hW.c1 hW.c5 hW.f5 hwc x1 _ ?_
   rw [hwa]
   cases hf:t.isFlat with
   | false=>
    refine (v0t B b s be bf ds _ cap i (.one ⟨8,tx,n⟩ t) r l _ _ ht hdT hC1 hW1 hf).mono ?_
    rintro e w2 ⟨rfl,hb2⟩
    refine ⟨_,rfl,⟨?_,rfl⟩,(hSB _).trans hb2⟩
    decide
   | true=>
    refine (j5h B b s be bf hb hB ds _ cap hcap hl i (.one ⟨8,tx,n⟩ t) r l _ _ ht hdT hC1 hW1 hf (by omega)).mono ?_
    rintro e w2 ⟨rfl,h2,hb2⟩
    exact ⟨_,rfl,⟨rfl,wa',wc - 1,h2,hI1.below hb2,hlw⟩,(hSB _).trans hb2⟩
  ·subst hc
   refine Calls.valued (Q:=fun v w'=>z7u B b (q5u be bf ds.length cap (some ⟨s,o0,none⟩)) (q9a f t.line t.isFlat deep (1::ws)) l (.returned v) w'∧Below B w w') ?_ (fun v w' h=>h)
   refine y2f (be:=be) i deep ws.length w (by omega) (by omega) (by omega) hl (by omega) hW.c0 d1 hW.c1 hW.c5 hW.f5 hwc x1 _ ?_
   rw [hwa]
   refine (hA (i+1) r deep ws wa' (wc - 1) l _ e2 hC1 hI1 hok' hlw hW1 (by omega) (by omega)).mono ?_
   rintro e w2 ⟨h2,hb2⟩
   obtain ⟨v,rfl,h3⟩:=z3p h2
   exact ⟨v,rfl,h3,(hSB _).trans hb2⟩
theorem j5d (B b s be bf:Nat) (hb:s<B∧be<B∧bf<B) (hB:B≤b) (ds:List Nd) (a:Option Addr) (cap:Nat) (hl:ds.length≤400) (tx:ByteArray) (n:Int) (t t':Tr) (ht:t.Wf) (f g:Nat→List Int→Except Int (List UInt8 × List Int)) (hA:q2q B b s be bf ds a cap t.nodes f) (hG:q2q B b s be bf ds a cap t'.nodes g) :
  k0o 92 B b s be bf ds a cap (⟨9,tx,n⟩::(t.nodes++t'.nodes)) (q6o f g):=by
 intro i r deep ws wa wc l w hd hC hI hok hwc hW hdeep hsz
 obtain ⟨hi,e1,e0⟩:=q1h (x:=⟨9,tx,n⟩) (A:=t.nodes++t'.nodes++r) hd
 have e2:ds.drop (i+1)=t.nodes++(t'.nodes++r):=by rw [e0,List.append_assoc]
 have hi1:=q7z e2
 obtain ⟨o0,ea,d1,d2,d3⟩:=hC.nd i hi
 subst ea
 rw [e1] at d1
 have hlt:=hW.lt
 have hbs:B≤w.heap.size:=by omega
 have hSB:∀ v,Below B w (w.setCell ⟨b,5,none⟩ v):=fun v=>(Below.refl _ _).setCell (p:=⟨b,5,none⟩) hB _
 have k1:=(hC.kn (i+1) t _ (Nat.zero_le _) ht e2).1
 simp only [List.length_cons,List.length_append] at hdeep hsz
 cases ws with
 | nil=>
  refine (k4x i deep w hW.c5).mono ?_
  rintro e w' ⟨rfl,rfl⟩
  exact ⟨⟨by decide,rfl⟩,Below.refl _ _⟩
 | cons c ws=>
  obtain ⟨b0,o1,ea1,hlt1,x1⟩:=hI 0 (by simp)
  subst ea1
  have hS:=hI.slid (by simpa using hwc)
  simp only [Nat.add_zero,List.getElem_cons_zero] at x1
  simp only [List.length_cons] at hW hwc
  have hok':q2b ws:=fun d hd=>hok d (by simp [hd])
  have hlw:ws.length≤wc - 1:=by omega
  generalize hwa:(if wc=1 then some (⟨b0,o1,none⟩:Addr) else some ⟨b0,o1+1,none⟩)=wa' at hS
  have hC1:=hC.below hb (hSB (.slice wa' ws.length (wc - 1)))
  have hI1:=hS.below (hSB (.slice wa' ws.length (wc - 1)))
  have hW1:=hW.stored (.slice wa' ws.length (wc - 1))
  rcases hok c (by simp) with hc | hc
  ·subst hc
   refine Calls.valued (Q:=fun v w'=>z7u B b (q5u be bf ds.length cap (some ⟨s,o0,none⟩)) (q6o f g deep (0::ws)) l (.returned v) w'∧Below B w w') ?_ (fun v w' h=>h)
   refine y2g (be:=be) i deep ws.length w (by omega) (by omega) (by omega) hl (by omega) hW.c0 d1 hW.c1 hW.c5 hW.f5 hwc x1 _ ?_
   rw [hwa]
   refine (hA (i+1) _ deep ws wa' (wc - 1) l _ e2 hC1 hI1 hok' hlw hW1 (by omega) (by omega)).mono ?_
   rintro e w2 ⟨h2,hb2⟩
   obtain ⟨v,rfl,h3⟩:=z3p h2
   exact ⟨v,rfl,h3,(hSB _).trans hb2⟩
  ·subst hc
   refine Calls.valued (Q:=fun v w'=>z7u B b (q5u be bf ds.length cap (some ⟨s,o0,none⟩)) (q6o f g deep (1::ws)) l (.returned v) w'∧Below B w w') ?_ (fun v w' h=>h)
   refine y2h (be:=be) i deep ws.length w (by omega) (by omega) (by omega) hl (by omega) (by omega) (i+1+t.nodes.length) k1 hW.c0 d1 hW.c1 hW.c5 hW.f5 hwc x1 _ ?_
   rw [hwa]
   refine (hG (i+1+t.nodes.length) r deep ws wa' (wc - 1) l _ (z6f e2) hC1 hI1 hok' hlw hW1 (by omega) (by omega)).mono ?_
   rintro e w2 ⟨h2,hb2⟩
   obtain ⟨v,rfl,h3⟩:=z3p h2
   exact ⟨v,rfl,h3,(hSB _).trans hb2⟩
theorem y0e {t:Tr} {deep:Nat} {ws:List Int} {u:List UInt8} {v:List Int} (h:q2b ws) (e:t.lay deep ws = .ok (u,v)):q2b v:=by
 obtain ⟨p,_,rfl⟩:=q4m t deep ws v u h e
 exact fun c hc=>h c (by simp [hc])
theorem q6d (B b s be bf:Nat) (hb:s<B∧be<B∧bf<B) (hB:B≤b) (ds:List Nd) (a:Option Addr) (cap:Nat) (hl:ds.length≤400) (hcap:ds.length≤cap):∀ t:Tr,t.Wf→q2q B b s be bf ds a cap t.nodes t.lay
 | .leaf ⟨op,tx,n⟩,h=>by
  obtain ⟨_,_,_,_,h5,_⟩:=q1w h.1
  rcases q4u h.1 h.2 with e | e | e | e | e
  all_goals (simp only at e;subst e)
  ·exact y2k B b s be bf hb hB ds a cap hl tx n (q3y (h5 rfl)).2
  ·exact y2l B b s be bf hb hB ds a cap hl tx n
  ·exact y2m B b s be bf hb hB ds a cap hl tx n
  ·exact y2n B b s be bf hb hB ds a cap hl tx n
  ·exact y2o B b s be bf hb hB ds a cap hl tx n
 | .one ⟨op,tx,n⟩ a',h=>by
  obtain ⟨_,_,_,_,_,h6⟩:=q1w h.1
  rcases z1b h.2.1 with e | e
  all_goals (simp only at e;subst e)
  ·exact y2q B b s be bf hb hB ds a cap hl tx n (h6 rfl).1 (h6 rfl).2 _ _ (q6d B b s be bf hb hB ds a cap hl hcap a' h.2.2)
  ·rw [j1i (x:=⟨8,tx,n⟩) rfl]
   exact y2r B b s be bf hb hB ds a cap hl tx n _ _ (j5c B b s be bf hb hB ds a cap hl hcap tx n a' h _ (q6d B b s be bf hb hB ds a cap hl hcap a' h.2.2))
 | .two ⟨op,tx,n⟩ a' c,h=>by
  rcases q9u h.2.1 with e | e
  all_goals (simp only at e;subst e)
  ·rw [v5h (x:=⟨6,tx,n⟩) rfl]
   exact y2p B b s be bf hb hB ds a cap hl tx n _ _ _ _ (q6d B b s be bf hb hB ds a cap hl hcap a' h.2.2.1) (q6d B b s be bf hb hB ds a cap hl hcap c h.2.2.2) (fun _ _ _ _=>⟨a',h.2.2.1,rfl⟩) (List.length_pos_iff.1 c.pos) (fun deep ws u v he hd=>q6q a' deep ws u v h.2.2.1 he hd) (fun deep ws u v h0 he=>y0e h0 he)
  ·rw [k6e (x:=⟨9,tx,n⟩) rfl]
   exact y2s B b s be bf hb hB ds a cap hl tx n _ _ _ (j5d B b s be bf hb hB ds a cap hl tx n a' c h.2.2.1 _ _ (q6d B b s be bf hb hB ds a cap hl hcap a' h.2.2.1) (q6d B b s be bf hb hB ds a cap hl hcap c h.2.2.2))
end Go.Proofs.YthjapabokcajhaaGreatDoor
namespace Go.Proofs.YthjapabokcajhaaGreatDoor
open Go Go.RowKit
set_option maxRecDepth 100000
set_option maxHeartbeats 4000000
theorem j5n (ds:List Nd) (ws:List Int) (a wa:Option Addr) (cap wc:Nat) (w:World) (hN:q2i w a ds) (h:q2n ds≠0) :
  Calls Tryz.prog 19 #[.slice a ds.length cap,.slice wa ws.length wc] w fun e w'=>e = .returned (.tuple #[.string ⟨#[]⟩,q1o (q2n ds)])∧Below w.heap.size w w':=by
 have HN:Hid (q2i w a ds):=hN
 have H:Hid (q2n ds≠0):=h
 rw [q0l h]
 clear hN h
 go_enter Tryz.func19,Tryz.ntmps19
 go_wp2_with fail
 refine (q2k ds a cap _ HN.out).mono ?_
 rintro e w2 ⟨rfl,hB⟩
 rw [q0l H.out]
 go_wp2
 go_ret2
 exact ⟨rfl,hB⟩
theorem k2o (ds:List Nd) (ws:List Int) (a wa:Option Addr) (cap wc:Nat) (w:World) (hN:q2i w a ds) (hI:z3x w wa ws) (hl:ws.length≤9223372036854775807) (h:q2n ds=0) (h1:¬ q2b ws) :
  Calls Tryz.prog 19 #[.slice a ds.length cap,.slice wa ws.length wc] w fun e w'=>e = .returned (.tuple #[.string ⟨#[]⟩,q1o 1])∧Below w.heap.size w w':=by
 have HN:Hid (q2i w a ds):=hN
 have HI:Hid (z3x w wa ws):=hI
 have H:Hid (q2n ds=0):=h
 have H1:Hid (¬ q2b ws):=h1
 rw [z4m]
 clear hN hI h h1
 go_enter Tryz.func19,Tryz.ntmps19
 go_wp2_with fail
 refine (q2k ds a cap _ HN.out).mono ?_
 rintro e w2 ⟨rfl,hB⟩
 rw [H.out,q0r]
 have HI2:Hid (z3x w2 wa ws):=HI.out.below hB
 go_wp2_with fail
 refine (v9h ws wa wc _ HI2.out hl H1.out).mono ?_
 rintro e w3 ⟨rfl,rfl⟩
 go_wp2
 go_ret2
 exact ⟨rfl,hB⟩
theorem v0u (ds:List Nd) (t:Tr) (hd:ds=t.nodes) (ht:t.Wf) (ws:List Int) (a wa:Option Addr) (cap wc:Nat) (hc:ds.length≤cap) (hwc:ws.length≤wc) (w:World) (hN:q2i w a ds) (hI:z3x w wa ws) (hl:ws.length≤9223372036854775807) (h:q2n ds=0) (h1:q2b ws) :
  Calls Tryz.prog 19 #[.slice a ds.length cap,.slice wa ws.length wc] w fun e w'=>e = .returned (.tuple #[.string (shS (t.show ws)),q1o (shE (t.show ws))])∧Below w.heap.size w w':=by
 have HN:Hid (q2i w a ds):=hN
 have HI:Hid (z3x w wa ws):=hI
 have H:Hid (q2n ds=0):=h
 have H1:Hid (q2b ws):=h1
 have HT:Hid (t.Wf):=ht
 have HD:Hid (ds=t.nodes):=hd
 obtain ⟨h4,_,_⟩:=q5b h
 have HS:Hid (t.show ws=match t.lay 0 ws with | .error e=>.error e | .ok (s,[])=>.ok s | .ok (_,_::_)=>.error 2):=j9z h1
 have H0:Hid (ds≠[]):=(show ds≠[] by have:=t.pos;rw [←hd] at this;exact List.length_pos_iff.1 this)
 clear hN hI h h1 ht hd
 go_enter Tryz.func19,Tryz.ntmps19
 go_wp2_with fail
 refine (q2k ds a cap _ HN.out).mono ?_
 rintro e w2 ⟨rfl,hB⟩
 rw [H.out,q0r]
 have HB:Hid (Below w.heap.size w w2):=hB
 have HI2:Hid (z3x w2 wa ws):=HI.out.below hB
 obtain ⟨s,hs,hns⟩:=(HN.out.below hB).s H0.out
 have HN2:Hid (q0s s w2 a ds):=hns
 clear hB hns
 go_wp2_with fail
 refine (y3q ws wa wc _ HI2.out hl H1.out).mono ?_
 rintro e w3 ⟨rfl,rfl⟩
 go_wp2_with fail
 refine (k1t ds a cap s _ H.out HN2.out hs).mono ?_
 rintro e w3 ⟨⟨be,bf,rfl,hbe,hbf,hkn⟩,hB3⟩
 have HB3:Hid (Below w.heap.size w w3):=q0i HB.out (Nat.le_refl _) hB3
 have HB23:Hid (Below w2.heap.size w2 w3):=hB3
 have HN3:Hid (q0s s w3 a ds):=HN2.out.kept (hB3.block s hs)
 have HI3:Hid (z3x w3 wa ws):=HI2.out.below hB3
 have HK3:Hid (q7p w3 be bf ds 0):=hkn
 have hs3:s<w3.heap.size:=Nat.lt_of_lt_of_le hs hB3.size
 have HL:Hid (∀ O,O=Obj.cells #[.slice a ds.length cap,.slice (some ⟨be,0,none⟩) ds.length ds.length,.slice (some ⟨bf,0,none⟩) ds.length ds.length,.pointer none,.slice none 0 0,.slice wa ws.length wc] 101→
   Calls Tryz.prog 52 #[.pointer (some ⟨w3.heap.size,0,none⟩),.int .i64 0,.int .i64 0] (w3.alloc O) fun e w'=>z7u w3.heap.size w3.heap.size (q5u be bf ds.length cap a) (t.lay 0 ws) [] e w'∧Below w3.heap.size w3 w'):=by
  intro O hO
  have hA:Below w3.heap.size w3 (w3.alloc O):=(Below.refl _ _).alloc (Nat.le_refl _) _
  refine (q6d w3.heap.size w3.heap.size s be bf ⟨hs3,hbe,hbf⟩ (Nat.le_refl _) ds a cap h4 hc t HT.out 0 [] 0 ws wa wc [] (w3.alloc O) (by rw [HD.out];simp) ⟨HN3.out.kept (hA.block s hs3),HK3.out.kept (hA.block be hbe) (hA.block bf hbf)⟩ (q2h.below HI3.out hA) H1.out hwc ?_ (by rw [←HD.out];omega) (by rw [←HD.out];simp;omega)).mono ?_
  ·subst hO
   exact IsO.unused 101 w3.heap.size w3.heap.size _ (q5u be bf ds.length cap a) [.slice wa ws.length wc] (heap_alloc_new w3 _)
  ·rintro e w' ⟨h1,h2⟩
   exact ⟨h1,hA.trans h2⟩
 clear hkn hB3
 go_wp2_with fail
 refine (HL.out _ rfl).mono ?_
 rintro e w4 ⟨hl4,hb4⟩
 have HB4:Hid (Below w.heap.size w w4):=q0i HB3.out (Nat.le_refl _) hb4
 clear hb4
 cases hlay:t.lay 0 ws with
 | error er=>
  rw [hlay] at hl4
  have hS:=HS.out
  rw [hlay] at hS
  have HRE:Hid (t.show ws = .error er):=hS
  obtain ⟨hne,rfl⟩:=hl4
  have HNE:Hid (er≠0):=hne
  rw [q0l hne]
  clear hne hlay hS
  go_wp2
  go_ret2
  refine ⟨?_,HB4.out⟩
  rw [HRE.out]
  show _=Ending.returned (.tuple #[.string ⟨#[]⟩,q1o er])
  rw [q0l HNE.out]
  rfl
 | ok p=>
  obtain ⟨u,r⟩:=p
  rw [hlay] at hl4
  have hS:=HS.out
  rw [hlay] at hS
  obtain ⟨rfl,wa4,wc4,hw4,_,_⟩:=hl4
  have HW4:Hid (WS w3.heap.size w3.heap.size (q5u be bf ds.length cap a) ([]++u) (.slice wa4 r.length wc4) w4):=hw4
  have g5:=hw4.c5
  cases r with
  | nil=>
   have HRE:Hid (t.show ws = .ok u):=hS
   simp only [List.length_nil] at g5
   clear hlay hS hw4
   go_wp2_with fail
   refine (j9h 101 w3.heap.size w3.heap.size 3 (q5u be bf ds.length cap a) ([]++u) _ _ rfl HW4.out).mono ?_
   rintro e w5 ⟨rfl,hb5⟩
   go_wp2
   go_ret2
   refine ⟨?_,HB4.out.trans (hb5.mono HB3.out.size)⟩
   rw [HRE.out]
   rfl
  | cons c r=>
   have HRE:Hid (t.show ws = .error 2):=hS
   simp only [List.length_cons] at g5
   have g0:(0:Int)<(r.length:Int)+1:=by omega
   clear hlay hS hw4
   go_wp2
   go_ret2
   refine ⟨?_,HB4.out⟩
   rw [HRE.out]
   rfl
theorem j5m (ds:List Nd) (ws:List Int) (a wa:Option Addr) (cap wc:Nat) (hc:ds.length≤cap) (hwc:ws.length≤wc) (hl:ws.length≤9223372036854775807) (w:World) (hN:q2i w a ds) (hI:z3x w wa ws) :
  Calls Tryz.prog 19 #[.slice a ds.length cap,.slice wa ws.length wc] w fun e w'=>e = .returned (.tuple #[.string (shS (q6u ds ws)),q1o (shE (q6u ds ws))])∧Below w.heap.size w w':=by
 by_cases h:q2n ds=0
 ·obtain ⟨h4,_,_⟩:=q5b h
  rw [z5d (z0f h) (q4b h) h4]
  by_cases h1:q2b ws
  ·exact v0u ds _ (q4b h) (z0f h) ws a wa cap wc hc hwc w hN hI hl h h1
  ·have e:(v1r ds h).show ws = .error 1:=by
    unfold Tr.show
    rw [if_neg (fun hh=>h1 (k5b.1 hh))]
   rw [e]
   exact k2o ds ws a wa cap wc w hN hI hl h h1
 ·rw [j3u h]
  exact j5n ds ws a wa cap wc w hN h
end Go.Proofs.YthjapabokcajhaaGreatDoor
namespace Go.Proofs.YthjapabokcajhaaGreatDoor
open Go Go.RowKit
set_option maxRecDepth 100000
set_option maxHeartbeats 4000000
theorem k8v (ds:List Nd) (ws:List Int) (a wa:Option Addr) (cap wc:Nat) (hc:ds.length≤cap) (hwc:ws.length≤wc) (hl:ws.length≤9223372036854775807) (w:World) (hN:q2i w a ds) (hI:z3x w wa ws) :
  Calls Tryz.prog 111 #[.slice a ds.length cap,.slice wa ws.length wc] w fun e w'=>e = .returned (.string (shS (q6u ds ws)))∧Below w.heap.size w w':=by
 have HC:Hid (Calls Tryz.prog 19 #[.slice a ds.length cap,.slice wa ws.length wc] w fun e w'=>e = .returned (.tuple #[.string (shS (q6u ds ws)),q1o (shE (q6u ds ws))])∧Below w.heap.size w w'):=j5m ds ws a wa cap wc hc hwc hl w hN hI
 clear hN hI hc hwc hl
 generalize shS (q6u ds ws)=s at *
 generalize q1o (shE (q6u ds ws))=v at *
 go_enter Tryz.func111,Tryz.ntmps111
 go_wp2_with fail
 refine HC.out.mono ?_
 rintro e w2 ⟨rfl,hb⟩
 go_wp2
 go_ret
 exact ⟨rfl,hb⟩
def bE (ds:List Nd) (wd:Int):Int:=if q2n ds=0 then (if wd<0∨100<wd then 1 else 0) else q2n ds
open Classical in
noncomputable def bA (ds:List Nd) (wd:Int):Crs:=if h:q2n ds=0 then (if wd<0∨100<wd then ((0,0),[]) else bs wd.toNat 0 [(0,v1r ds h)]) else ((0,0),[])
noncomputable def bT (ds:List Nd) (wd:Int):ByteArray:=if bE ds wd=0 then shS (q6u ds (bA ds wd).2) else ⟨#[]⟩
theorem v1j {ds:List Nd} {wd:Int} (h:bE ds wd≠0):bA ds wd=((0,0),[]):=by
 unfold bE at h
 unfold bA
 split
 ·rename_i h0
  rw [if_pos h0] at h
  split at h
  ·rename_i h1;rw [if_pos h1]
  ·exact absurd rfl h
 ·rfl
theorem k8b {ds:List Nd} {wd:Nat} {t:Tr} (ht:t.Wf) (e:ds=t.nodes) (hl:ds.length≤400) (hw:wd≤100):bE ds wd=0∧bA ds wd=bs wd 0 [(0,t)]:=by
 have h:q2n ds=0:=by rw [e];exact q9r ht (by rw [←e];exact hl)
 have hn:¬ ((wd:Int)<0∨(100:Int)<wd):=by omega
 refine ⟨by rw [bE,if_pos h,if_neg hn],?_⟩
 rw [bA,dif_pos h,if_neg hn,z6d h ht e,Int.toNat_natCast]
theorem v8k {t:Tr} (ht:t.Wf) (wd:Nat):vv (q0a t) wd 0 0=bs wd 0 [(0,t)]:=by rw [vv,(z7f ht).kont]
theorem j9s {w:World} {B B' e size n:Nat} {v:Value} {xs:List Value} (h:w.ownsRow B e size v n xs) (hB:B'≤B):w.ownsRow B' e size v n xs:=by
 refine ⟨h.1,?_⟩
 rcases h.2 with h0 | ⟨g,c,cur,rfl,hb,rest⟩
 ·exact .inl h0
 ·exact .inr ⟨g,c,cur,rfl,Nat.le_trans hB hb,rest⟩
theorem j3e (w:World) (B:Nat):w.ownsRow B 3 1 (.slice none 0 0) 0 (q0w []):=⟨rfl,.inl ⟨rfl,rfl⟩⟩
def z5l (ds:List Nd) (wd:Int) (w:World) (e:Ending) (w':World):Prop:=
 (∃ wa wc,e = .returned (.tuple #[.string (bT ds wd),.slice wa (bA ds wd).2.length wc,.agg #[.int .i64 (bA ds wd).1.1,.int .i64 (bA ds wd).1.2],q1o (bE ds wd)])∧w'.ownsRow w.heap.size 3 1 (.slice wa (bA ds wd).2.length wc) (bA ds wd).2.length (q0w (bA ds wd).2))∧Below w.heap.size w w'
theorem j6p (ds:List Nd) (wd:Int) (a:Option Addr) (cap:Nat) (w:World) (hN:q2i w a ds) (h:q2n ds≠0) :
  Calls Tryz.prog 71 #[.slice a ds.length cap,.int .i64 wd] w fun e w'=>z5l ds wd w e w':=by
 have e0:bE ds wd=q2n ds:=by rw [bE,if_neg h]
 have e1:=v1j (ds:=ds) (wd:=wd) (by rw [e0];exact h)
 have e2:bT ds wd=⟨#[]⟩:=by rw [bT,if_neg (by rw [e0];exact h)]
 have HN:Hid (∀ O,q2i (w.alloc O) a ds):=fun O=>hN.below ((Below.refl _ w).alloc (Nat.le_refl _) O)
 have H:Hid (q2n ds≠0):=h
 unfold z5l
 rw [e0,e1,e2,q0l h]
 clear hN h e0 e1 e2
 go_enter Tryz.func71,Tryz.ntmps71
 go_wp2_with fail
 refine (q2k ds a cap _ (HN.out _)).mono ?_
 rintro e w2 ⟨rfl,hB⟩
 rw [q0l H.out]
 obtain ⟨hcl,hfr⟩:=q1r hB
 have k0:w2.cell? ⟨w.heap.size,0,none⟩=some (.int .i64 0):=(hcl _ _ (by simp)).trans (by simp [go_sem])
 have k1:w2.cell? ⟨w.heap.size,1,none⟩=some (.int .i64 0):=(hcl _ _ (by simp)).trans (by simp [go_sem])
 have f0:w2.frozen? ⟨w.heap.size,0,none⟩=false:=(hfr _ _ (by simp)).trans (by simp [go_sem])
 have f1:w2.frozen? ⟨w.heap.size,1,none⟩=false:=(hfr _ _ (by simp)).trans (by simp [go_sem])
 have hB2:Below w.heap.size w w2:=((Below.refl _ w).alloc (Nat.le_refl _) _).trans (hB.mono (by simp))
 clear hcl hfr hB
 go_wp2
 refine bodyPost_ret (v:=.tuple #[.string ⟨#[]⟩,.slice none 0 0,.agg #[.int .i64 0,.int .i64 0],.iface 23 (.int .i64 (q2n ds))]) (by simp [results,Tryz.results71,go_sem,k0,k1]) rfl ?_
 exact ⟨⟨none,0,rfl,j3e _ _⟩,(hB2.setCell (p:=⟨w.heap.size,0,none⟩) (Nat.le_refl _) _).setCell (p:=⟨w.heap.size,1,none⟩) (Nat.le_refl _) _⟩
theorem k5c (ds:List Nd) (wd:Int) (a:Option Addr) (cap:Nat) (w:World) (hN:q2i w a ds) (h:q2n ds=0) (hw:wd<0∨100<wd) :
  Calls Tryz.prog 71 #[.slice a ds.length cap,.int .i64 wd] w fun e w'=>z5l ds wd w e w':=by
 have e0:bE ds wd=1:=by rw [bE,if_pos h,if_pos hw]
 have e1:=v1j (ds:=ds) (wd:=wd) (by rw [e0];decide)
 have e2:bT ds wd=⟨#[]⟩:=by rw [bT,if_neg (by rw [e0];decide)]
 have HN:Hid (∀ O,q2i (w.alloc O) a ds):=fun O=>hN.below ((Below.refl _ w).alloc (Nat.le_refl _) O)
 have H:Hid (q2n ds=0):=h
 unfold z5l
 rw [e0,e1,e2,z4m]
 clear hN h e0 e1 e2
 rcases hw with hw | hw
 case' inr=>have hw':¬ wd<0:=by omega
 all_goals
  go_enter Tryz.func71,Tryz.ntmps71
  go_wp2_with fail
  refine (q2k ds a cap _ (HN.out _)).mono ?_
  rintro e w2 ⟨rfl,hB⟩
  rw [H.out,q0r]
  obtain ⟨hcl,hfr⟩:=q1r hB
  have k0:w2.cell? ⟨w.heap.size,0,none⟩=some (.int .i64 0):=(hcl _ _ (by simp)).trans (by simp [go_sem])
  have k1:w2.cell? ⟨w.heap.size,1,none⟩=some (.int .i64 0):=(hcl _ _ (by simp)).trans (by simp [go_sem])
  have f0:w2.frozen? ⟨w.heap.size,0,none⟩=false:=(hfr _ _ (by simp)).trans (by simp [go_sem])
  have f1:w2.frozen? ⟨w.heap.size,1,none⟩=false:=(hfr _ _ (by simp)).trans (by simp [go_sem])
  have hB2:Below w.heap.size w w2:=((Below.refl _ w).alloc (Nat.le_refl _) _).trans (hB.mono (by simp))
  clear hcl hfr hB
  go_wp2
  refine bodyPost_ret (v:=.tuple #[.string ⟨#[]⟩,.slice none 0 0,.agg #[.int .i64 0,.int .i64 0],.iface 23 (.int .i64 1)]) (by simp [results,Tryz.results71,go_sem,k0,k1]) rfl ?_
  exact ⟨⟨none,0,rfl,j3e _ _⟩,(hB2.setCell (p:=⟨w.heap.size,0,none⟩) (Nat.le_refl _) _).setCell (p:=⟨w.heap.size,1,none⟩) (Nat.le_refl _) _⟩
theorem v3u (ds:List Nd) (t:Tr) (hd:ds=t.nodes) (ht:t.Wf) (hl:ds.length≤400) (wd:Nat) (hw:wd≤100) (a:Option Addr) (cap:Nat) (hc:ds.length≤cap) (w:World) (hN:q2i w a ds) :
  Calls Tryz.prog 71 #[.slice a ds.length cap,.int .i64 wd] w fun e w'=>z5l ds wd w e w':=by
 obtain ⟨e0,e1⟩:=k8b ht hd hl hw
 have hvv:=v8k ht wd
 have e2:bT ds wd=shS (q6u ds (vv (q0a t) wd 0 0).2):=by rw [bT,if_pos e0,e1,hvv]
 have HR:Hid (z5l ds wd w=fun e w'=>(∃ wa wc,e = .returned (.tuple #[.string (shS (q6u ds (vv (q0a t) wd 0 0).2)),.slice wa (vv (q0a t) wd 0 0).2.length wc,.agg #[.int .i64 (crs (q0a t) wd 0 0).o,.int .i64 (crs (q0a t) wd 0 0).l],.nilIface])∧w'.ownsRow w.heap.size 3 1 (.slice wa (vv (q0a t) wd 0 0).2.length wc) (vv (q0a t) wd 0 0).2.length (q0w (vv (q0a t) wd 0 0).2))∧Below w.heap.size w w'):=by
  show z5l ds wd w=_
  have h3:=(k9h (wd:=wd) (c:=0) (z7f ht) (Nat.zero_le _)).1
  funext e w'
  unfold z5l
  rw [e0,e1,e2,q0r,←hvv]
  have h4:((vv (q0a t) wd 0 0).1.1:Int)=(crs (q0a t) wd 0 0).o:=by rw [h3]
  have h5:((vv (q0a t) wd 0 0).1.2:Int)=(crs (q0a t) wd 0 0).l:=by rw [h3]
  rw [h4,h5]
 rw [HR.out]
 have hR0:0<(q0a t).length:=by rw [q2g];exact t.pos
 have hRl:(q0a t).length=ds.length:=by rw [q2g,hd];rfl
 have h0:q2n ds=0:=by rw [hd];exact q9r ht (by rw [←hd];exact hl)
 have hsz:t.sz≤400:=by unfold Tr.sz;rw [←hd];exact hl
 have hne:ds≠[]:=by rw [hd];have:=t.pos;exact List.length_pos_iff.1 this
 have HN:Hid (q2i w a ds):=hN
 have H0:Hid (q2n ds=0):=h0
 have HSK:Hid (∀ sb g mb,k7v sb g mb wd (q0a t) 0 0):=fun sb g mb=>j9v sb g mb ht hsz hw (q0a t).length 0 0 (by omega) (Nat.zero_le _) (Nat.zero_le _)
 have HCH:Hid (∀ sb g mb (W:World) S,Inv sb g mb wd (q0a t) W S→S 0 0=true→Calls Tryz.prog 110 #[.pointer (some ⟨sb,0,none⟩)] W fun e w'=>(∃ a cap,e = .returned (.slice a (vv (q0a t) wd 0 0).2.length cap)∧w'.ownsRow W.heap.size 3 1 (.slice a (vv (q0a t) wd 0 0).2.length cap) (vv (q0a t) wd 0 0).2.length (q0w (vv (q0a t) wd 0 0).2))∧Below W.heap.size W w'):=fun sb g mb W S hI hS=>z7x sb g mb ht hsz hw W S hI hS
 have HD:Hid (ds=t.nodes):=hd
 have HRL:Hid ((q0a t).length=ds.length):=hRl
 have HWL:Hid ((vv (q0a t) wd 0 0).2.length≤9223372036854775807):=by
  show (vv (q0a t) wd 0 0).2.length≤_
  obtain ⟨a',ha⟩:=k8j t wd
  have hb:=q8p t wd
  rw [q2r,←hvv] at hb
  have h1:=(q7b hb).1
  have h2:=q8g t _ h1
  rw [←hd] at h2
  omega
 have HPN:Hid (∀ (s:Nat) (W:World),q0s s W a ds→s<W.heap.size→Calls Tryz.prog 108 #[.slice a ds.length cap,.int .i64 wd] W fun e w'=>e = .returned (.agg #[.slice (some ⟨W.heap.size+1,0,none⟩) ds.length ds.length,.int .i64 wd])∧PwR w' (W.heap.size+1) ds.length (fun j=>q2 (q1a (q0a t) j))∧Below W.heap.size W w'):=fun s W h1 h2=>z8b ds t HD.out ht hl a cap s wd hc W h1 h2
 have hmm:=@run_makeMap Tryz.prog
 have hw0:¬ (wd:Int)<0:=by omega
 have hw1:¬ (100:Int)<(wd:Int):=by omega
 clear hN h0 hd hRl e0 e1 e2 hvv HR
 go_enter Tryz.func71,Tryz.ntmps71
 go_wp2_with fail
 refine (q2k ds a cap _ (HN.out.below ((Below.refl _ w).alloc (Nat.le_refl _) _))).mono ?_
 rintro e w2 ⟨rfl,hB⟩
 rw [H0.out,q0r]
 have hr2:z1z w2 w.heap.size:=z1z.kept ⟨_,_,heap_alloc_new w (.cells #[.int .i64 0,.int .i64 0] 54)⟩ (hB.block _ (by simp))
 have k0:w2.cell? ⟨w.heap.size,0,none⟩=some (.int .i64 0):=((q1r hB).1 _ _ (by simp)).trans (by simp [go_sem])
 have k1:w2.cell? ⟨w.heap.size,1,none⟩=some (.int .i64 0):=((q1r hB).1 _ _ (by simp)).trans (by simp [go_sem])
 have HB2:Hid (Below w.heap.size w w2):=((Below.refl _ w).alloc (Nat.le_refl _) _).trans (hB.mono (by simp))
 have hs2:w.heap.size<w2.heap.size:=by have:=hB.size;simp at this;omega
 have HK2:Hid (w2.cell? ⟨w.heap.size,0,none⟩=some (.int .i64 0)∧w2.cell? ⟨w.heap.size,1,none⟩=some (.int .i64 0)∧z1z w2 w.heap.size):=⟨k0,k1,hr2⟩
 clear hr2 k0 k1 hB
 obtain ⟨s,hs,hns⟩:=(HN.out.below HB2.out).s hne
 have HNS:Hid (q0s s w2 a ds):=hns
 clear hns
 go_wp2_with fail
 refine (HPN.out s w2 HNS.out hs).mono ?_
 rintro e w3 ⟨rfl,hpr,hb3⟩
 have HB3:Hid (Below w.heap.size w w3):=HB2.out.trans (hb3.mono HB2.out.size)
 have hs3:=hb3.size
 have hg3:w2.heap.size+1<w3.heap.size:=hpr.row.lt
 have HK3:Hid (w3.cell? ⟨w.heap.size,0,none⟩=some (.int .i64 0)∧w3.cell? ⟨w.heap.size,1,none⟩=some (.int .i64 0)∧z1z w3 w.heap.size):=⟨(hb3.cell (p:=⟨w.heap.size,0,none⟩) hs2).trans HK2.out.1,(hb3.cell (p:=⟨w.heap.size,1,none⟩) hs2).trans HK2.out.2.1,HK2.out.2.2.kept (hb3.block _ hs2)⟩
 have HI4:Hid (Inv (w3.heap.size+1) (w2.heap.size+1) w3.heap.size wd (q0a t) ((w3.alloc (.map #[] 0)).alloc (.cells #[.slice (some ⟨w2.heap.size+1,0,none⟩) ds.length ds.length,.int .i64 wd,.map (some w3.heap.size)] 170)) (fun _ _=>false)):=by
  refine ⟨⟨?_,?_,?_⟩,?_,?_,fun p c h=>by cases h⟩
  ·rw [HRL.out];simp [go_sem]
  ·simp [go_sem]
  ·rw [HRL.out];exact hpr.kept ((Below.heap_alloc _ _ _ (by simp;omega)).trans (Below.heap_alloc _ _ _ hg3))
  ·simp [go_sem]
  ·exact (Mem.made w3 _).kept (Below.heap_alloc _ _ _ (by simp))
 have HSE:Hid (∀ W S,Inv (w3.heap.size+1) (w2.heap.size+1) w3.heap.size wd (q0a t) W S→Calls Tryz.prog 109 #[.pointer (some ⟨w3.heap.size+1,0,none⟩),.agg #[.int .i64 0,.int .i64 0]] W fun e w'=>e = .returned (.agg #[.int .i64 (crs (q0a t) wd 0 0).o,.int .i64 (crs (q0a t) wd 0 0).l,.int .i64 (crs (q0a t) wd 0 0).ch,.int .i64 (crs (q0a t) wd 0 0).np,.int .i64 (crs (q0a t) wd 0 0).nc])∧Left (w3.heap.size+1) (w2.heap.size+1) w3.heap.size wd (q0a t) S 0 0 0 W w'):=fun W S h=>by
  have:=HSK.out _ _ _ W S h
  rw [if_pos hR0] at this
  exact this
 clear hpr hb3
 go_wp2_with fail
 refine (HSE.out _ _ HI4.out).mono ?_
 rintro e w5 ⟨rfl,hbx,S',hI,_,_,hin⟩
 have hsz4:((w3.alloc (.map #[] 0)).alloc (.cells #[.slice (some ⟨w2.heap.size+1,0,none⟩) ds.length ds.length,.int .i64 wd,.map (some w3.heap.size)] 170)).heap.size=w3.heap.size+1+1:=by simp
 have hs5:=hbx.size
 rw [hsz4] at hs5
 have hB4:Below w.heap.size w ((w3.alloc (.map #[] 0)).alloc (.cells #[.slice (some ⟨w2.heap.size+1,0,none⟩) ds.length ds.length,.int .i64 wd,.map (some w3.heap.size)] 170)):=j6l (j6l HB3.out _) _
 have HB5:Hid (Below w.heap.size w w5):=hB4.trans ((hbx.mono (B':=w.heap.size) (by rw [hsz4];omega)).below (by omega))
 have HK5:Hid (w5.cell? ⟨w.heap.size,0,none⟩=some (.int .i64 0)∧w5.cell? ⟨w.heap.size,1,none⟩=some (.int .i64 0)∧z1z w5 w.heap.size):=
  ⟨(hbx.cell (p:=⟨w.heap.size,0,none⟩) (by rw [hsz4];simp;omega) (by simp;omega)).trans (ka (ka HK3.out.1 _) _),(hbx.cell (p:=⟨w.heap.size,1,none⟩) (by rw [hsz4];simp;omega) (by simp;omega)).trans (ka (ka HK3.out.2.1 _) _),HK3.out.2.2.kept ((hbx.block _ (by rw [hsz4];omega) (by omega)).trans ((Below.heap_alloc _ _ _ (by simp;omega)).trans (Below.heap_alloc _ _ _ (by omega))))⟩
 have HI5:Hid (Inv (w3.heap.size+1) (w2.heap.size+1) w3.heap.size wd (q0a t) w5 S'∧S' 0 0=true):=⟨hI,hin hR0⟩
 clear hbx hI hin hB4 hsz4 HI4 HSE HSK HPN HB3 HK3 HK2
 generalize hkk:crs (q0a t) wd 0 0=k at *
 have HKE:Hid (crs (q0a t) wd 0 0=k):=hkk
 clear hkk
 go_wp2_with fail
 refine (HCH.out _ _ _ _ _ (HI5.out.1.alloc _) HI5.out.2).mono ?_
 rintro e w6 ⟨⟨wa,wc,rfl,hown6⟩,hb6⟩
 obtain ⟨_,_,hwc,hIw,_⟩:=j9k hown6
 have hB6:Below w.heap.size w w6:=(j6l HB5.out _).trans (hb6.mono (by have:=HB5.out.size;simp;omega))
 have HB6:Hid (Below w.heap.size w w6):=hB6
 have hlt6:w5.heap.size<w6.heap.size:=by have:=hb6.size;simp at this;omega
 have hw5:=HB5.out.size
 have HK6:Hid (w6.cell? ⟨w.heap.size,0,none⟩=some (.int .i64 0)∧w6.cell? ⟨w.heap.size,1,none⟩=some (.int .i64 0)∧z1z w6 w.heap.size):=
  ⟨(hb6.cell (p:=⟨w.heap.size,0,none⟩) (by simp;omega)).trans (ka HK5.out.1 _),(hb6.cell (p:=⟨w.heap.size,1,none⟩) (by simp;omega)).trans (ka HK5.out.2.1 _),HK5.out.2.2.kept ((hb6.block _ (by simp;omega)).trans (Below.heap_alloc _ _ _ (by omega)))⟩
 have u0:w6.drew.cell? ⟨w5.heap.size,0,none⟩=some (.int .i64 k.o):=(hb6.cell (p:=⟨w5.heap.size,0,none⟩) (by simp)).trans (by simp [go_sem])
 have u1:w6.drew.cell? ⟨w5.heap.size,1,none⟩=some (.int .i64 k.l):=(hb6.cell (p:=⟨w5.heap.size,1,none⟩) (by simp)).trans (by simp [go_sem])
 have HSH:Hid (Calls Tryz.prog 111 #[.slice a ds.length cap,.slice wa (vv (q0a t) wd 0 0).2.length wc] w6.drew fun e w'=>e = .returned (.string (shS (q6u ds (vv (q0a t) wd 0 0).2)))∧Below w6.drew.heap.size w6.drew w'):=
  k8v ds (vv (q0a t) wd 0 0).2 a wa cap wc hc hwc HWL.out w6.drew (HN.out.below hB6.drew) (z3x.below hIw (Below.refl _ w6).drew)
 have HOW:Hid (∀ W:World,(∀ b,w5.heap.size≤b→b<w6.heap.size→W.heap[b]? = w6.heap[b]?)→W.ownsRow w.heap.size 3 1 (.slice wa (vv (q0a t) wd 0 0).2.length wc) (vv (q0a t) wd 0 0).2.length (q0w (vv (q0a t) wd 0 0).2)):=fun W hW=>by
  have h1:=q9l (w':=W) hown6 fun b hb=>hW b (by have:=v2u hown6 hb;simp at this;omega) (q9m hown6 hb).1
  exact j9s h1 (by simp;omega)
 have HL5:Hid (w.heap.size<w5.heap.size):=(show w.heap.size<w5.heap.size by omega)
 clear hown6 hIw hB6 hb6 HCH HI5 HK5
 generalize hus:(vv (q0a t) wd 0 0).2=us at *
 generalize htx:shS (q6u ds us)=tx at *
 have HUS:Hid ((vv (q0a t) wd 0 0).2=us∧shS (q6u ds us)=tx):=⟨hus,htx⟩
 clear hus htx
 go_wp2_with fail
 go_region_held3 (fun w'=>w'.cell? ⟨w5.heap.size,0,none⟩=some (.int .i64 k.o)∧w'.cell? ⟨w5.heap.size,1,none⟩=some (.int .i64 k.l))
  (first | with_reducible exact ⟨u0,u1⟩ | with_reducible exact ⟨u07,u17⟩ | with_reducible exact ⟨(cso (.inl (Nat.ne_of_lt HL5.out))).trans ((cso (.inl (Nat.ne_of_lt HL5.out))).trans u07),(cso (.inl (Nat.ne_of_lt HL5.out))).trans ((cso (.inl (Nat.ne_of_lt HL5.out))).trans u17)⟩)
  ((go_at_call 111;refine HSH.out.mono ?_;rintro e w7 ⟨rfl,hb7⟩;have u07:=(hb7.cell (p:=⟨w5.heap.size,0,none⟩) hlt6).trans u0;have u17:=(hb7.cell (p:=⟨w5.heap.size,1,none⟩) hlt6).trans u1;have k0:=(hb7.cell (p:=⟨w.heap.size,0,none⟩) (Nat.lt_of_le_of_lt hw5 hlt6)).trans HK6.out.1;have k1:=(hb7.cell (p:=⟨w.heap.size,1,none⟩) (Nat.lt_of_le_of_lt hw5 hlt6)).trans HK6.out.2.1;have hr7:=HK6.out.2.2.kept (hb7.block w.heap.size (Nat.lt_of_le_of_lt hw5 hlt6));have f0:w7.frozen? ⟨w.heap.size,0,none⟩=false:=hr7.frozen;have f1:w7.frozen? ⟨w.heap.size,1,none⟩=false:=hr7.frozen))
 all_goals
  go_wp2
  refine bodyPost_ret (v:=.tuple #[.string tx,.slice wa us.length wc,.agg #[.int .i64 k.o,.int .i64 k.l],.nilIface]) (by simp [results,Tryz.results71,go_sem,k0,k1]) rfl ?_
  rw [HUS.out.1,HUS.out.2,HKE.out]
  refine ⟨⟨wa,wc,rfl,HOW.out _ fun b hb1 hb2=>?_⟩,?_⟩
  ·have h5:=HL5.out
   exact (Below.heap_setCell _ _ _ _ (by simp;omega)).trans ((Below.heap_setCell _ _ _ _ (by simp;omega)).trans (hb7.block b hb2))
  ·exact ((HB6.out.drew.trans (hb7.mono HB6.out.size)).setCell (p:=⟨w.heap.size,0,none⟩) (Nat.le_refl _) _).setCell (p:=⟨w.heap.size,1,none⟩) (Nat.le_refl _) _
theorem k8d (ds:List Nd) (wd:Int) (a:Option Addr) (cap:Nat) (hc:ds.length≤cap) (w:World) (hN:q2i w a ds) :
  Calls Tryz.prog 71 #[.slice a ds.length cap,.int .i64 wd] w fun e w'=>z5l ds wd w e w':=by
 by_cases h:q2n ds=0
 ·by_cases hw:wd<0∨100<wd
  ·exact k5c ds wd a cap w hN h hw
  ·obtain ⟨n,rfl⟩:∃ n:Nat,wd=n:=⟨wd.toNat,by omega⟩
   exact v3u ds _ (q4b h) (z0f h) (q5b h).1 n (by omega) a cap hc w hN
 ·exact j6p ds wd a cap w hN h
end Go.Proofs.YthjapabokcajhaaGreatDoor
