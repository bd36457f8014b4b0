/- Texts as one: WLayC, WLayZ, ShowW. -/
import Derived.Test.YtchdplceopegoaaGreatDoorPs27
import Derived.Test.YtchdplceopegoaaGreatDoorPs28
namespace Go.Proofs.YtchdplceopegoaaGreatDoor
open Go Go.RowKit
set_option maxRecDepth 100000
set_option maxHeartbeats 1000000
theorem k5n {b:Nat} {wa:Option Addr} {wc:Nat} (i deep:Int) (w:World) (c5:w.cell? ⟨b,5,none⟩=some (.slice wa 0 wc)) :
  Calls Tryz.prog 228 #[.pointer (some ⟨b,0,none⟩),.int .i64 i,.int .i64 deep] w fun e w'=>e = .returned (q1f 2)∧w=w':=by
 rw [z8n]
 go_enter Tryz.func228,Tryz.ntmps228
 go_wp2
 go_ret
 exact ⟨rfl,rfl⟩
theorem y3h {b s be b0 o0 o1 n cap wc:Nat} (i deep m:Nat) (w:World) (_hbb:b0≠b) (hsb:s≠b) (hbe:be≠b) (_hn:n≤400) (hiI:(i:Int)<(n:Int))
  (c0:w.cell? ⟨b,0,none⟩=some (.slice (some ⟨s,o0,none⟩) n cap)) (d1:w.cell? ⟨s,o0+i*3,none⟩=some (.int .i64 8)) (_c1:w.cell? ⟨b,1,none⟩=some (.slice (some ⟨be,0,none⟩) n n))
  (c5:w.cell? ⟨b,5,none⟩=some (.slice (some ⟨b0,o1,none⟩) (m+1) wc)) (f5:w.frozen? ⟨b,5,none⟩=false) (hwc:m+1≤wc) (x1:w.cell? ⟨b0,o1,none⟩=some (.int .i64 0)) (Q:Value→World→Prop)
  (H:Calls Tryz.prog 248 #[.pointer (some ⟨b,0,none⟩),.int .i64 i] (w.setCell ⟨b,5,none⟩ (.slice (if wc=1 then some ⟨b0,o1,none⟩ else some ⟨b0,o1+1,none⟩) m (wc - 1))) fun e w'=>∃ v,e = .returned v∧Q v w') :
  Calls Tryz.prog 228 #[.pointer (some ⟨b,0,none⟩),.int .i64 i,.int .i64 deep] w fun e w'=>∃ v,e = .returned v∧Q v w':=by
 have hr1:(1:Int)≤(m:Int)+1:=by omega
 have hr0:((m:Int)+1 == 0)=false:=beq_eq_false_iff_ne.2 (by omega)
 by_cases hw:wc=1
 ·rw [if_pos hw] at H
  obtain rfl:m=0:=by omega
  subst hw
  have HH:Hid (Calls Tryz.prog 248 #[.pointer (some ⟨b,0,none⟩),.int .i64 i] (w.setCell ⟨b,5,none⟩ (.slice (some ⟨b0,o1,none⟩) 0 0)) fun e w'=>∃ v,e = .returned v∧Q v w'):=H
  clear H
  go_enter Tryz.func228,Tryz.ntmps228
  go_wp2_with fail
  refine HH.out.mono ?_
  rintro e w2 ⟨v,rfl,hq⟩
  go_wp2
  go_ret
  exact ⟨_,rfl,hq⟩
 ·rw [if_neg hw] at H
  have HH:Hid (Calls Tryz.prog 248 #[.pointer (some ⟨b,0,none⟩),.int .i64 i] (w.setCell ⟨b,5,none⟩ (.slice (some ⟨b0,o1+1,none⟩) m (wc - 1))) fun e w'=>∃ v,e = .returned v∧Q v w'):=H
  clear H
  go_enter Tryz.func228,Tryz.ntmps228
  go_wp2_with fail
  refine HH.out.mono ?_
  rintro e w2 ⟨v,rfl,hq⟩
  go_wp2
  go_ret
  exact ⟨_,rfl,hq⟩
theorem y3i {b s be b0 o0 o1 n cap wc:Nat} (i deep m:Nat) (w:World) (_hbb:b0≠b) (hsb:s≠b) (hbe:be≠b) (hn:n≤400) (hiI:(i:Int)<(n:Int))
  (c0:w.cell? ⟨b,0,none⟩=some (.slice (some ⟨s,o0,none⟩) n cap)) (d1:w.cell? ⟨s,o0+i*3,none⟩=some (.int .i64 8)) (_c1:w.cell? ⟨b,1,none⟩=some (.slice (some ⟨be,0,none⟩) n n))
  (c5:w.cell? ⟨b,5,none⟩=some (.slice (some ⟨b0,o1,none⟩) (m+1) wc)) (f5:w.frozen? ⟨b,5,none⟩=false) (hwc:m+1≤wc) (x1:w.cell? ⟨b0,o1,none⟩=some (.int .i64 1)) (Q:Value→World→Prop)
  (H:Calls Tryz.prog 199 #[.pointer (some ⟨b,0,none⟩),.int .i64 ((i:Int)+1),.int .i64 deep] (w.setCell ⟨b,5,none⟩ (.slice (if wc=1 then some ⟨b0,o1,none⟩ else some ⟨b0,o1+1,none⟩) m (wc - 1))) fun e w'=>∃ v,e = .returned v∧Q v w') :
  Calls Tryz.prog 228 #[.pointer (some ⟨b,0,none⟩),.int .i64 i,.int .i64 deep] w fun e w'=>∃ v,e = .returned v∧Q v w':=by
 have hr1:(1:Int)≤(m:Int)+1:=by omega
 have hr0:((m:Int)+1 == 0)=false:=beq_eq_false_iff_ne.2 (by omega)
 by_cases hw:wc=1
 ·rw [if_pos hw] at H
  obtain rfl:m=0:=by omega
  subst hw
  have HH:Hid (Calls Tryz.prog 199 #[.pointer (some ⟨b,0,none⟩),.int .i64 ((i:Int)+1),.int .i64 deep] (w.setCell ⟨b,5,none⟩ (.slice (some ⟨b0,o1,none⟩) 0 0)) fun e w'=>∃ v,e = .returned v∧Q v w'):=H
  clear H
  go_enter Tryz.func228,Tryz.ntmps228
  go_wp2_with fail
  refine HH.out.mono ?_
  rintro e w2 ⟨v,rfl,hq⟩
  go_wp2
  go_ret
  exact ⟨_,rfl,hq⟩
 ·rw [if_neg hw] at H
  have HH:Hid (Calls Tryz.prog 199 #[.pointer (some ⟨b,0,none⟩),.int .i64 ((i:Int)+1),.int .i64 deep] (w.setCell ⟨b,5,none⟩ (.slice (some ⟨b0,o1+1,none⟩) m (wc - 1))) fun e w'=>∃ v,e = .returned v∧Q v w'):=H
  clear H
  go_enter Tryz.func228,Tryz.ntmps228
  go_wp2_with fail
  refine HH.out.mono ?_
  rintro e w2 ⟨v,rfl,hq⟩
  go_wp2
  go_ret
  exact ⟨_,rfl,hq⟩
theorem y3j {b s be b0 o0 o1 n cap wc:Nat} (i deep m:Nat) (w:World) (_hbb:b0≠b) (hsb:s≠b) (hbe:be≠b) (hn:n≤400) (hiI:(i:Int)<(n:Int))
  (c0:w.cell? ⟨b,0,none⟩=some (.slice (some ⟨s,o0,none⟩) n cap)) (d1:w.cell? ⟨s,o0+i*3,none⟩=some (.int .i64 9)) (_c1:w.cell? ⟨b,1,none⟩=some (.slice (some ⟨be,0,none⟩) n n))
  (c5:w.cell? ⟨b,5,none⟩=some (.slice (some ⟨b0,o1,none⟩) (m+1) wc)) (f5:w.frozen? ⟨b,5,none⟩=false) (hwc:m+1≤wc) (x1:w.cell? ⟨b0,o1,none⟩=some (.int .i64 0)) (Q:Value→World→Prop)
  (H:Calls Tryz.prog 199 #[.pointer (some ⟨b,0,none⟩),.int .i64 ((i:Int)+1),.int .i64 deep] (w.setCell ⟨b,5,none⟩ (.slice (if wc=1 then some ⟨b0,o1,none⟩ else some ⟨b0,o1+1,none⟩) m (wc - 1))) fun e w'=>∃ v,e = .returned v∧Q v w') :
  Calls Tryz.prog 228 #[.pointer (some ⟨b,0,none⟩),.int .i64 i,.int .i64 deep] w fun e w'=>∃ v,e = .returned v∧Q v w':=by
 have hr1:(1:Int)≤(m:Int)+1:=by omega
 have hr0:((m:Int)+1 == 0)=false:=beq_eq_false_iff_ne.2 (by omega)
 by_cases hw:wc=1
 ·rw [if_pos hw] at H
  obtain rfl:m=0:=by omega
  subst hw
  have HH:Hid (Calls Tryz.prog 199 #[.pointer (some ⟨b,0,none⟩),.int .i64 ((i:Int)+1),.int .i64 deep] (w.setCell ⟨b,5,none⟩ (.slice (some ⟨b0,o1,none⟩) 0 0)) fun e w'=>∃ v,e = .returned v∧Q v w'):=H
  clear H
  go_enter Tryz.func228,Tryz.ntmps228
  go_wp2_with fail
  refine HH.out.mono ?_
  rintro e w2 ⟨v,rfl,hq⟩
  go_wp2
  go_ret
  exact ⟨_,rfl,hq⟩
 ·rw [if_neg hw] at H
  have HH:Hid (Calls Tryz.prog 199 #[.pointer (some ⟨b,0,none⟩),.int .i64 ((i:Int)+1),.int .i64 deep] (w.setCell ⟨b,5,none⟩ (.slice (some ⟨b0,o1+1,none⟩) m (wc - 1))) fun e w'=>∃ v,e = .returned v∧Q v w'):=H
  clear H
  go_enter Tryz.func228,Tryz.ntmps228
  go_wp2_with fail
  refine HH.out.mono ?_
  rintro e w2 ⟨v,rfl,hq⟩
  go_wp2
  go_ret
  exact ⟨_,rfl,hq⟩
theorem y3k {b s be b0 o0 o1 n cap wc:Nat} (i deep m:Nat) (w:World) (_hbb:b0≠b) (hsb:s≠b) (hbe:be≠b) (hn:n≤400) (hiI:(i:Int)<(n:Int)) (hi1:(i:Int)+1<(n:Int)) (j:Nat) (e1:w.cell? ⟨be,i+1,none⟩=some (.int .i64 (j:Int)))
  (c0:w.cell? ⟨b,0,none⟩=some (.slice (some ⟨s,o0,none⟩) n cap)) (d1:w.cell? ⟨s,o0+i*3,none⟩=some (.int .i64 9)) (c1:w.cell? ⟨b,1,none⟩=some (.slice (some ⟨be,0,none⟩) n n))
  (c5:w.cell? ⟨b,5,none⟩=some (.slice (some ⟨b0,o1,none⟩) (m+1) wc)) (f5:w.frozen? ⟨b,5,none⟩=false) (hwc:m+1≤wc) (x1:w.cell? ⟨b0,o1,none⟩=some (.int .i64 1)) (Q:Value→World→Prop)
  (H:Calls Tryz.prog 199 #[.pointer (some ⟨b,0,none⟩),.int .i64 (j:Int),.int .i64 deep] (w.setCell ⟨b,5,none⟩ (.slice (if wc=1 then some ⟨b0,o1,none⟩ else some ⟨b0,o1+1,none⟩) m (wc - 1))) fun e w'=>∃ v,e = .returned v∧Q v w') :
  Calls Tryz.prog 228 #[.pointer (some ⟨b,0,none⟩),.int .i64 i,.int .i64 deep] w fun e w'=>∃ v,e = .returned v∧Q v w':=by
 have hr1:(1:Int)≤(m:Int)+1:=by omega
 have hr0:((m:Int)+1 == 0)=false:=beq_eq_false_iff_ne.2 (by omega)
 by_cases hw:wc=1
 ·rw [if_pos hw] at H
  obtain rfl:m=0:=by omega
  subst hw
  have HH:Hid (Calls Tryz.prog 199 #[.pointer (some ⟨b,0,none⟩),.int .i64 (j:Int),.int .i64 deep] (w.setCell ⟨b,5,none⟩ (.slice (some ⟨b0,o1,none⟩) 0 0)) fun e w'=>∃ v,e = .returned v∧Q v w'):=H
  clear H
  go_enter Tryz.func228,Tryz.ntmps228
  go_wp2_with fail
  refine HH.out.mono ?_
  rintro e w2 ⟨v,rfl,hq⟩
  go_wp2
  go_ret
  exact ⟨_,rfl,hq⟩
 ·rw [if_neg hw] at H
  have HH:Hid (Calls Tryz.prog 199 #[.pointer (some ⟨b,0,none⟩),.int .i64 (j:Int),.int .i64 deep] (w.setCell ⟨b,5,none⟩ (.slice (some ⟨b0,o1+1,none⟩) m (wc - 1))) fun e w'=>∃ v,e = .returned v∧Q v w'):=H
  clear H
  go_enter Tryz.func228,Tryz.ntmps228
  go_wp2_with fail
  refine HH.out.mono ?_
  rintro e w2 ⟨v,rfl,hq⟩
  go_wp2
  go_ret
  exact ⟨_,rfl,hq⟩
theorem Calls.valued {P:Program} {fn:Nat} {args:Array Value} {w:World} {Q:Value→World→Prop} {R:Ending→World→Prop} (h:Calls P fn args w fun e w'=>∃ v,e = .returned v∧Q v w') (hR:∀ v w',Q v w'→R (.returned v) w'):Calls P fn args w R:=
 h.mono fun _ _ ⟨v,he,hq⟩=>by rw [he];exact hR v _ hq
theorem z3x {B b:Nat} {pl:List Value} {res:Except Int (List UInt8 × List Int)} {l:List UInt8} {e:Ending} {w':World} (h:z7z B b pl res l e w'):∃ v,e = .returned v∧z7z B b pl res l (.returned v) w':=by
 cases res with
 | error er=>obtain ⟨h1,rfl⟩:=h;exact ⟨_,rfl,h1,rfl⟩
 | ok p=>obtain ⟨rfl,h1⟩:=h;exact ⟨_,rfl,rfl,h1⟩
theorem j5v (B b s be bf:Nat) (hb:s<B∧be<B∧bf<B) (hB:B≤b) (ds:List Nd) (a:Option Addr) (cap:Nat) (hl:ds.length≤400) (hcap:ds.length≤cap) (tx:ByteArray) (n:Int) (t:Tr) (ht:Tr.Wf (.one ⟨8,tx,n⟩ t)) (f:Nat→List Int→Except Int (List UInt8 × List Int)) (hA:q2q B b s be bf ds a cap t.nodes f) :
  k0v 228 B b s be bf ds a cap (⟨8,tx,n⟩::t.nodes) (q9j f t.line t.isFlat):=by
 intro i r deep ws wa wc l w hd hC hI hok hwc hW hdeep hsz
 have hdT:ds.drop i=(Tr.one ⟨8,tx,n⟩ t).nodes++r:=hd
 obtain ⟨hi,e1,e2⟩:=q1h (x:=⟨8,tx,n⟩) (A:=t.nodes++r) hd
 obtain ⟨o0,ea,d1,d2,d3⟩:=hC.nd i hi
 subst ea
 rw [e1] at d1
 have hlt:=hW.lt
 have hbs:B≤w.heap.size:=by omega
 have hSB:∀ v,Below B w (w.setCell ⟨b,5,none⟩ v):=fun v=>(Below.refl _ _).setCell (p:=⟨b,5,none⟩) hB _
 simp only [List.length_cons] at hdeep hsz
 cases ws with
 | nil=>
  refine (k5n i deep w hW.c5).mono ?_
  rintro e w' ⟨rfl,rfl⟩
  exact ⟨⟨by decide,rfl⟩,Below.refl _ _⟩
 | cons c ws=>
  obtain ⟨b0,o1,ea1,hlt1,x1⟩:=hI 0 (by simp)
  subst ea1
  have hS:=hI.slid (by simpa using hwc)
  simp only [Nat.add_zero,List.getElem_cons_zero] at x1
  simp only [List.length_cons] at hW hwc
  have hok':q1z ws:=fun d hd=>hok d (by simp [hd])
  have hlw:ws.length≤wc - 1:=by omega
  generalize hwa:(if wc=1 then some (⟨b0,o1,none⟩:Addr) else some ⟨b0,o1+1,none⟩)=wa' at hS
  have hC1:=hC.below hb (hSB (.slice wa' ws.length (wc - 1)))
  have hI1:=hS.below (hSB (.slice wa' ws.length (wc - 1)))
  have hW1:=hW.stored (.slice wa' ws.length (wc - 1))
  rcases hok c (by simp) with hc | hc
  ·subst hc
   refine Calls.valued (Q:=fun v w'=>z7z B b (q5r be bf ds.length cap (some ⟨s,o0,none⟩)) (q9j f t.line t.isFlat deep (0::ws)) l (.returned v) w'∧Below B w w') ?_ (fun v w' h=>h)
   refine y3h (be:=be) i deep ws.length w (by omega) (by omega) (by omega) hl (by omega) hW.c0 d1 hW.c1 hW.c5 hW.f5 hwc x1 _ ?_
   rw [hwa]
   cases hf:t.isFlat with
   | false=>
    refine (v1t B b s be bf ds _ cap i (.one ⟨8,tx,n⟩ t) r l _ _ ht hdT hC1 hW1 hf).mono ?_
    rintro e w2 ⟨rfl,hb2⟩
    refine ⟨_,rfl,⟨?_,rfl⟩,(hSB _).trans hb2⟩
    decide
   | true=>
    refine (j6d B b s be bf hb hB ds _ cap hcap hl i (.one ⟨8,tx,n⟩ t) r l _ _ ht hdT hC1 hW1 hf (by omega)).mono ?_
    rintro e w2 ⟨rfl,h2,hb2⟩
    exact ⟨_,rfl,⟨rfl,wa',wc - 1,h2,hI1.below hb2,hlw⟩,(hSB _).trans hb2⟩
  ·subst hc
   refine Calls.valued (Q:=fun v w'=>z7z B b (q5r be bf ds.length cap (some ⟨s,o0,none⟩)) (q9j f t.line t.isFlat deep (1::ws)) l (.returned v) w'∧Below B w w') ?_ (fun v w' h=>h)
   refine y3i (be:=be) i deep ws.length w (by omega) (by omega) (by omega) hl (by omega) hW.c0 d1 hW.c1 hW.c5 hW.f5 hwc x1 _ ?_
   rw [hwa]
   refine (hA (i+1) r deep ws wa' (wc - 1) l _ e2 hC1 hI1 hok' hlw hW1 (by omega) (by omega)).mono ?_
   rintro e w2 ⟨h2,hb2⟩
   obtain ⟨v,rfl,h3⟩:=z3x h2
   exact ⟨v,rfl,h3,(hSB _).trans hb2⟩
theorem j5w (B b s be bf:Nat) (hb:s<B∧be<B∧bf<B) (hB:B≤b) (ds:List Nd) (a:Option Addr) (cap:Nat) (hl:ds.length≤400) (tx:ByteArray) (n:Int) (t t':Tr) (ht:t.Wf) (f g:Nat→List Int→Except Int (List UInt8 × List Int)) (hA:q2q B b s be bf ds a cap t.nodes f) (hG:q2q B b s be bf ds a cap t'.nodes g) :
  k0v 228 B b s be bf ds a cap (⟨9,tx,n⟩::(t.nodes++t'.nodes)) (q6m f g):=by
 intro i r deep ws wa wc l w hd hC hI hok hwc hW hdeep hsz
 obtain ⟨hi,e1,e0⟩:=q1h (x:=⟨9,tx,n⟩) (A:=t.nodes++t'.nodes++r) hd
 have e2:ds.drop (i+1)=t.nodes++(t'.nodes++r):=by rw [e0,List.append_assoc]
 have hi1:=q8d e2
 obtain ⟨o0,ea,d1,d2,d3⟩:=hC.nd i hi
 subst ea
 rw [e1] at d1
 have hlt:=hW.lt
 have hbs:B≤w.heap.size:=by omega
 have hSB:∀ v,Below B w (w.setCell ⟨b,5,none⟩ v):=fun v=>(Below.refl _ _).setCell (p:=⟨b,5,none⟩) hB _
 have k1:=(hC.kn (i+1) t _ (Nat.zero_le _) ht e2).1
 simp only [List.length_cons,List.length_append] at hdeep hsz
 cases ws with
 | nil=>
  refine (k5n i deep w hW.c5).mono ?_
  rintro e w' ⟨rfl,rfl⟩
  exact ⟨⟨by decide,rfl⟩,Below.refl _ _⟩
 | cons c ws=>
  obtain ⟨b0,o1,ea1,hlt1,x1⟩:=hI 0 (by simp)
  subst ea1
  have hS:=hI.slid (by simpa using hwc)
  simp only [Nat.add_zero,List.getElem_cons_zero] at x1
  simp only [List.length_cons] at hW hwc
  have hok':q1z ws:=fun d hd=>hok d (by simp [hd])
  have hlw:ws.length≤wc - 1:=by omega
  generalize hwa:(if wc=1 then some (⟨b0,o1,none⟩:Addr) else some ⟨b0,o1+1,none⟩)=wa' at hS
  have hC1:=hC.below hb (hSB (.slice wa' ws.length (wc - 1)))
  have hI1:=hS.below (hSB (.slice wa' ws.length (wc - 1)))
  have hW1:=hW.stored (.slice wa' ws.length (wc - 1))
  rcases hok c (by simp) with hc | hc
  ·subst hc
   refine Calls.valued (Q:=fun v w'=>z7z B b (q5r be bf ds.length cap (some ⟨s,o0,none⟩)) (q6m f g deep (0::ws)) l (.returned v) w'∧Below B w w') ?_ (fun v w' h=>h)
   refine y3j (be:=be) i deep ws.length w (by omega) (by omega) (by omega) hl (by omega) hW.c0 d1 hW.c1 hW.c5 hW.f5 hwc x1 _ ?_
   rw [hwa]
   refine (hA (i+1) _ deep ws wa' (wc - 1) l _ e2 hC1 hI1 hok' hlw hW1 (by omega) (by omega)).mono ?_
   rintro e w2 ⟨h2,hb2⟩
   obtain ⟨v,rfl,h3⟩:=z3x h2
   exact ⟨v,rfl,h3,(hSB _).trans hb2⟩
  ·subst hc
   refine Calls.valued (Q:=fun v w'=>z7z B b (q5r be bf ds.length cap (some ⟨s,o0,none⟩)) (q6m f g deep (1::ws)) l (.returned v) w'∧Below B w w') ?_ (fun v w' h=>h)
   refine y3k (be:=be) i deep ws.length w (by omega) (by omega) (by omega) hl (by omega) (by omega) (i+1+t.nodes.length) k1 hW.c0 d1 hW.c1 hW.c5 hW.f5 hwc x1 _ ?_
   rw [hwa]
   refine (hG (i+1+t.nodes.length) r deep ws wa' (wc - 1) l _ (z6h e2) hC1 hI1 hok' hlw hW1 (by omega) (by omega)).mono ?_
   rintro e w2 ⟨h2,hb2⟩
   obtain ⟨v,rfl,h3⟩:=z3x h2
   exact ⟨v,rfl,h3,(hSB _).trans hb2⟩
theorem y1f {t:Tr} {deep:Nat} {ws:List Int} {u:List UInt8} {v:List Int} (h:q1z ws) (e:t.lay deep ws = .ok (u,v)):q1z v:=by
 obtain ⟨p,_,rfl⟩:=q4l t deep ws v u h e
 exact fun c hc=>h c (by simp [hc])
theorem q5y (B b s be bf:Nat) (hb:s<B∧be<B∧bf<B) (hB:B≤b) (ds:List Nd) (a:Option Addr) (cap:Nat) (hl:ds.length≤400) (hcap:ds.length≤cap):∀ t:Tr,t.Wf→q2q B b s be bf ds a cap t.nodes t.lay
 | .leaf ⟨op,tx,n⟩,h=>by
  obtain ⟨_,_,_,_,h5,_⟩:=q1r h.1
  rcases q4r h.1 h.2 with e | e | e | e | e
  all_goals (simp only at e;subst e)
  ·exact y3n B b s be bf hb hB ds a cap hl tx n (q3x (h5 rfl)).2
  ·exact y3o B b s be bf hb hB ds a cap hl tx n
  ·exact y3p B b s be bf hb hB ds a cap hl tx n
  ·exact y3q B b s be bf hb hB ds a cap hl tx n
  ·exact y3r B b s be bf hb hB ds a cap hl tx n
 | .one ⟨op,tx,n⟩ a',h=>by
  obtain ⟨_,_,_,_,_,h6⟩:=q1r h.1
  rcases z1n h.2.1 with e | e
  all_goals (simp only at e;subst e)
  ·exact y3t B b s be bf hb hB ds a cap hl tx n (h6 rfl).1 (h6 rfl).2 _ _ (q5y B b s be bf hb hB ds a cap hl hcap a' h.2.2)
  ·rw [j1w (x:=⟨8,tx,n⟩) rfl]
   exact y3u B b s be bf hb hB ds a cap hl tx n _ _ (j5v B b s be bf hb hB ds a cap hl hcap tx n a' h _ (q5y B b s be bf hb hB ds a cap hl hcap a' h.2.2))
 | .two ⟨op,tx,n⟩ a' c,h=>by
  rcases z0b h.2.1 with e | e
  all_goals (simp only at e;subst e)
  ·rw [v6l (x:=⟨6,tx,n⟩) rfl]
   exact y3s B b s be bf hb hB ds a cap hl tx n _ _ _ _ (q5y B b s be bf hb hB ds a cap hl hcap a' h.2.2.1) (q5y B b s be bf hb hB ds a cap hl hcap c h.2.2.2) (fun _ _ _ _=>⟨a',h.2.2.1,rfl⟩) (List.length_pos_iff.1 c.pos) (fun deep ws u v he hd=>q6o a' deep ws u v h.2.2.1 he hd) (fun deep ws u v h0 he=>y1f h0 he)
  ·rw [k6q (x:=⟨9,tx,n⟩) rfl]
   exact y3v B b s be bf hb hB ds a cap hl tx n _ _ _ (j5w B b s be bf hb hB ds a cap hl tx n a' c h.2.2.1 _ _ (q5y B b s be bf hb hB ds a cap hl hcap a' h.2.2.1) (q5y B b s be bf hb hB ds a cap hl hcap c h.2.2.2))
set_option maxHeartbeats 4000000
theorem j6k (ds:List Nd) (ws:List Int) (a wa:Option Addr) (cap wc:Nat) (w:World) (hN:q2y w a ds) (h:q2n ds≠0) :
  Calls Tryz.prog 166 #[.slice a ds.length cap,.slice wa ws.length wc] w fun e w'=>e = .returned (.tuple #[.string ⟨#[]⟩,q1f (q2n ds)])∧Below w.heap.size w w':=by
 have HN:Hid (q2y w a ds):=hN
 have H:Hid (q2n ds≠0):=h
 rw [q0h h]
 clear hN h
 go_enter Tryz.func166,Tryz.ntmps166
 go_wp2_with fail
 refine (q2j ds a cap _ HN.out).mono ?_
 rintro e w2 ⟨rfl,hB⟩
 rw [q0h H.out]
 go_wp2
 go_ret2
 exact ⟨rfl,hB⟩
theorem k2x (ds:List Nd) (ws:List Int) (a wa:Option Addr) (cap wc:Nat) (w:World) (hN:q2y w a ds) (hI:z4d w wa ws) (hl:ws.length≤9223372036854775807) (h:q2n ds=0) (h1:¬ q1z ws) :
  Calls Tryz.prog 166 #[.slice a ds.length cap,.slice wa ws.length wc] w fun e w'=>e = .returned (.tuple #[.string ⟨#[]⟩,q1f 1])∧Below w.heap.size w w':=by
 have HN:Hid (q2y w a ds):=hN
 have HI:Hid (z4d w wa ws):=hI
 have H:Hid (q2n ds=0):=h
 have H1:Hid (¬ q1z ws):=h1
 rw [z4o]
 clear hN hI h h1
 go_enter Tryz.func166,Tryz.ntmps166
 go_wp2_with fail
 refine (q2j ds a cap _ HN.out).mono ?_
 rintro e w2 ⟨rfl,hB⟩
 rw [H.out,q0q]
 have HI2:Hid (z4d w2 wa ws):=HI.out.below hB
 go_wp2_with fail
 refine (y0h ws wa wc _ HI2.out hl H1.out).mono ?_
 rintro e w3 ⟨rfl,rfl⟩
 go_wp2
 go_ret2
 exact ⟨rfl,hB⟩
theorem v1u (ds:List Nd) (t:Tr) (hd:ds=t.nodes) (ht:t.Wf) (ws:List Int) (a wa:Option Addr) (cap wc:Nat) (hc:ds.length≤cap) (hwc:ws.length≤wc) (w:World) (hN:q2y w a ds) (hI:z4d w wa ws) (hl:ws.length≤9223372036854775807) (h:q2n ds=0) (h1:q1z ws) :
  Calls Tryz.prog 166 #[.slice a ds.length cap,.slice wa ws.length wc] w fun e w'=>e = .returned (.tuple #[.string (shS (t.show ws)),q1f (shE (t.show ws))])∧Below w.heap.size w w':=by
 have HN:Hid (q2y w a ds):=hN
 have HI:Hid (z4d w wa ws):=hI
 have H:Hid (q2n ds=0):=h
 have H1:Hid (q1z ws):=h1
 have HT:Hid (t.Wf):=ht
 have HD:Hid (ds=t.nodes):=hd
 obtain ⟨h4,_,_⟩:=q4y h
 have HS:Hid (t.show ws=match t.lay 0 ws with | .error e=>.error e | .ok (s,[])=>.ok s | .ok (_,_::_)=>.error 2):=v0w h1
 have H0:Hid (ds≠[]):=(show ds≠[] by have:=t.pos;rw [←hd] at this;exact List.length_pos_iff.1 this)
 clear hN hI h h1 ht hd
 go_enter Tryz.func166,Tryz.ntmps166
 go_wp2_with fail
 refine (q2j ds a cap _ HN.out).mono ?_
 rintro e w2 ⟨rfl,hB⟩
 rw [H.out,q0q]
 have HB:Hid (Below w.heap.size w w2):=hB
 have HI2:Hid (z4d w2 wa ws):=HI.out.below hB
 obtain ⟨s,hs,hns⟩:=(HN.out.below hB).s H0.out
 have HN2:Hid (q0v s w2 a ds):=hns
 clear hB hns
 go_wp2_with fail
 refine (y4w ws wa wc _ HI2.out hl H1.out).mono ?_
 rintro e w3 ⟨rfl,rfl⟩
 go_wp2_with fail
 refine (k2c ds a cap s _ H.out HN2.out hs).mono ?_
 rintro e w3 ⟨⟨be,bf,rfl,hbe,hbf,hkn⟩,hB3⟩
 have HB3:Hid (Below w.heap.size w w3):=q0j HB.out (Nat.le_refl _) hB3
 have HB23:Hid (Below w2.heap.size w2 w3):=hB3
 have HN3:Hid (q0v s w3 a ds):=HN2.out.kept (hB3.block s hs)
 have HI3:Hid (z4d w3 wa ws):=HI2.out.below hB3
 have HK3:Hid (q7v w3 be bf ds 0):=hkn
 have hs3:s<w3.heap.size:=Nat.lt_of_lt_of_le hs hB3.size
 have HL:Hid (∀ O,O=Obj.cells #[.slice a ds.length cap,.slice (some ⟨be,0,none⟩) ds.length ds.length,.slice (some ⟨bf,0,none⟩) ds.length ds.length,.pointer none,.slice none 0 0,.slice wa ws.length wc] 283→
   Calls Tryz.prog 199 #[.pointer (some ⟨w3.heap.size,0,none⟩),.int .i64 0,.int .i64 0] (w3.alloc O) fun e w'=>z7z w3.heap.size w3.heap.size (q5r be bf ds.length cap a) (t.lay 0 ws) [] e w'∧Below w3.heap.size w3 w'):=by
  intro O hO
  have hA:Below w3.heap.size w3 (w3.alloc O):=(Below.refl _ _).alloc (Nat.le_refl _) _
  refine (q5y w3.heap.size w3.heap.size s be bf ⟨hs3,hbe,hbf⟩ (Nat.le_refl _) ds a cap h4 hc t HT.out 0 [] 0 ws wa wc [] (w3.alloc O) (by rw [HD.out];simp) ⟨HN3.out.kept (hA.block s hs3),HK3.out.kept (hA.block be hbe) (hA.block bf hbf)⟩ (q2h.below HI3.out hA) H1.out hwc ?_ (by rw [←HD.out];omega) (by rw [←HD.out];simp;omega)).mono ?_
  ·subst hO
   exact IsO.unused 283 w3.heap.size w3.heap.size _ (q5r be bf ds.length cap a) [.slice wa ws.length wc] (heap_alloc_new w3 _)
  ·rintro e w' ⟨h1,h2⟩
   exact ⟨h1,hA.trans h2⟩
 clear hkn hB3
 go_wp2_with fail
 refine (HL.out _ rfl).mono ?_
 rintro e w4 ⟨hl4,hb4⟩
 have HB4:Hid (Below w.heap.size w w4):=q0j HB3.out (Nat.le_refl _) hb4
 clear hb4
 cases hlay:t.lay 0 ws with
 | error er=>
  rw [hlay] at hl4
  have hS:=HS.out
  rw [hlay] at hS
  have HRE:Hid (t.show ws = .error er):=hS
  obtain ⟨hne,rfl⟩:=hl4
  have HNE:Hid (er≠0):=hne
  rw [q0h hne]
  clear hne hlay hS
  go_wp2
  go_ret2
  refine ⟨?_,HB4.out⟩
  rw [HRE.out]
  show _=Ending.returned (.tuple #[.string ⟨#[]⟩,q1f er])
  rw [q0h HNE.out]
  rfl
 | ok p=>
  obtain ⟨u,r⟩:=p
  rw [hlay] at hl4
  have hS:=HS.out
  rw [hlay] at hS
  obtain ⟨rfl,wa4,wc4,hw4,_,_⟩:=hl4
  have HW4:Hid (WS w3.heap.size w3.heap.size (q5r be bf ds.length cap a) ([]++u) (.slice wa4 r.length wc4) w4):=hw4
  have g5:=hw4.c5
  cases r with
  | nil=>
   have HRE:Hid (t.show ws = .ok u):=hS
   simp only [List.length_nil] at g5
   clear hlay hS hw4
   go_wp2_with fail
   refine (v0g 283 w3.heap.size w3.heap.size 3 (q5r be bf ds.length cap a) ([]++u) _ _ rfl HW4.out).mono ?_
   rintro e w5 ⟨rfl,hb5⟩
   go_wp2
   go_ret2
   refine ⟨?_,HB4.out.trans (hb5.mono HB3.out.size)⟩
   rw [HRE.out]
   rfl
  | cons c r=>
   have HRE:Hid (t.show ws = .error 2):=hS
   simp only [List.length_cons] at g5
   have g0:(0:Int)<(r.length:Int)+1:=by omega
   clear hlay hS hw4
   go_wp2
   go_ret2
   refine ⟨?_,HB4.out⟩
   rw [HRE.out]
   rfl
theorem j6j (ds:List Nd) (ws:List Int) (a wa:Option Addr) (cap wc:Nat) (hc:ds.length≤cap) (hwc:ws.length≤wc) (hl:ws.length≤9223372036854775807) (w:World) (hN:q2y w a ds) (hI:z4d w wa ws) :
  Calls Tryz.prog 166 #[.slice a ds.length cap,.slice wa ws.length wc] w fun e w'=>e = .returned (.tuple #[.string (shS (q6r ds ws)),q1f (shE (q6r ds ws))])∧Below w.heap.size w w':=by
 by_cases h:q2n ds=0
 ·obtain ⟨h4,_,_⟩:=q4y h
  rw [z5h (z0o h) (q3z h) h4]
  by_cases h1:q1z ws
  ·exact v1u ds _ (q3z h) (z0o h) ws a wa cap wc hc hwc w hN hI hl h h1
  ·have e:(v2q ds h).show ws = .error 1:=by
    unfold Tr.show
    rw [if_neg (fun hh=>h1 (k8l.1 hh))]
   rw [e]
   exact k2x ds ws a wa cap wc w hN hI hl h h1
 ·rw [j4l h]
  exact j6k ds ws a wa cap wc w hN h
end Go.Proofs.YtchdplceopegoaaGreatDoor
