/- Texts as one: Cf, WLay1, WLay2, WLay6, WLay7, WLay8. -/
import Derived.Test.YtchdplceopegoaaGreatDoorPs26
namespace Go.Proofs.YtchdplceopegoaaGreatDoor
open Go Go.RowKit
set_option maxRecDepth 100000
set_option maxHeartbeats 1000000
theorem k2d (c:Int) (h:c=0∨c=1) (w:World):Calls Tryz.prog 197 #[.int .i64 c] w fun e w'=>e = .returned (.bool false)∧w=w':=by
 rcases h with rfl | rfl
 all_goals
  go_enter Tryz.func197,Tryz.ntmps197
  go_wp2
  go_ret
  exact ⟨rfl,rfl⟩
theorem z9n (c:Int) (h0:c≠0) (h1:c≠1) (w:World):Calls Tryz.prog 197 #[.int .i64 c] w fun e w'=>e = .returned (.bool true)∧w=w':=by
 have g0:(c != 0)=true:=by simp [h0]
 have g1:(c != 1)=true:=by simp [h1]
 clear h0 h1
 go_enter Tryz.func197,Tryz.ntmps197
 go_wp2
 go_ret
 exact ⟨rfl,rfl⟩
theorem q9h (ws:List Int) (wa:Option Addr) (wc:Nat) (w:World) (hI:z4d w wa ws) (hl:ws.length≤9223372036854775807) :
  Calls Tryz.prog 225 #[.slice wa ws.length wc,.func (.func 197) #[] #[]] w fun e w'=>((q1z ws∧e = .returned (.int .i64 (-1)))∨(¬ q1z ws∧∃ k:Nat,e = .returned (.int .i64 k)))∧w=w':=by
 have HI:Hid (z4d w wa ws):=hI
 clear hI
 go_enter Tryz.func225,Tryz.ntmps225
 go_wp2_with fail
 go_loopw [8] (fun i wr=>wr=w∧∃ k:Nat,k≤ws.length∧i = .int .i64 k∧∀ j (h:j<ws.length),j<k→ws[j]=0∨ws[j]=1) (fun i _=>ws.length - (intOf i).toNat)
 case atStart=>exact ⟨rfl,0,Nat.zero_le _,rfl,fun j _ hj=>by omega⟩
 case round=>
  obtain ⟨rfl,k,hk,rfl,hall⟩:=hrel
  have HA:Hid (∀ j (h:j<ws.length),j<k→ws[j]=0∨ws[j]=1):=hall
  clear hall
  by_cases hlt:k<ws.length
  ·obtain ⟨b0,o0,ea,hb0,c0⟩:=HI.out k hlt
   subst ea
   by_cases h01:ws[k]=0∨ws[k]=1
   ·have HA':Hid (∀ j (h:j<ws.length),j<k+1→ws[j]=0∨ws[j]=1):=fun j h hj=>by
     by_cases hjk:j=k
     ·subst hjk;exact h01
     ·exact HA.out j h (by omega)
    have HC:Hid (ws[k]=0∨ws[k]=1):=h01
    clear h01
    go_wp2_with fail
    refine (k2d _ HC.out _).mono ?_
    rintro e w2 ⟨rfl,rfl⟩
    go_wp2
    go_roundw
    case rel=>exact ⟨by trivial,k+1,by omega,by go_num,HA'.out⟩
    case measure=>simp [intOf];omega
   ·have HC:Hid (¬ (ws[k]=0∨ws[k]=1)):=h01
    clear h01
    go_wp2_with fail
    refine (z9n _ (fun h=>HC.out (.inl h)) (fun h=>HC.out (.inr h)) _).mono ?_
    rintro e w2 ⟨rfl,rfl⟩
    go_wp2
    go_ret
    exact ⟨.inr ⟨fun hok=>HC.out (hok _ (List.getElem_mem hlt)),k,rfl⟩,rfl⟩
  ·have hok:q1z ws:=fun c hc=>by
    obtain ⟨j,hj,rfl⟩:=List.getElem_of_mem hc
    exact HA.out j hj (by omega)
   have HOK:Hid (q1z ws):=hok
   clear hok
   go_wp2
   go_ret
   exact ⟨.inl ⟨HOK.out,rfl⟩,rfl⟩
theorem y4w (ws:List Int) (wa:Option Addr) (wc:Nat) (w:World) (hI:z4d w wa ws) (hl:ws.length≤9223372036854775807) (h:q1z ws) :
  Calls Tryz.prog 196 #[.slice wa ws.length wc,.func (.func 197) #[] #[]] w fun e w'=>e = .returned (.bool false)∧w=w':=by
 have HI:Hid (z4d w wa ws):=hI
 have H:Hid (q1z ws):=h
 clear hI h
 go_enter Tryz.func196,Tryz.ntmps196
 go_wp2_with fail
 refine (q9h ws wa wc _ HI.out hl).mono ?_
 rintro e w2 ⟨h1,rfl⟩
 rcases h1 with ⟨_,rfl⟩ | ⟨h1,_⟩
 ·go_wp2
  go_ret
  exact ⟨rfl,rfl⟩
 ·exact absurd H.out h1
theorem y0h (ws:List Int) (wa:Option Addr) (wc:Nat) (w:World) (hI:z4d w wa ws) (hl:ws.length≤9223372036854775807) (h:¬ q1z ws) :
  Calls Tryz.prog 196 #[.slice wa ws.length wc,.func (.func 197) #[] #[]] w fun e w'=>e = .returned (.bool true)∧w=w':=by
 have HI:Hid (z4d w wa ws):=hI
 have H:Hid (¬ q1z ws):=h
 clear hI h
 go_enter Tryz.func196,Tryz.ntmps196
 go_wp2_with fail
 refine (q9h ws wa wc _ HI.out hl).mono ?_
 rintro e w2 ⟨h1,rfl⟩
 rcases h1 with ⟨h1,_⟩ | ⟨_,k,rfl⟩
 ·exact absurd h1 H.out
 ·have hk:(0:Int)≤(k:Int):=by omega
  go_wp2
  go_ret
  exact ⟨rfl,rfl⟩
set_option maxHeartbeats 4000000
theorem y3r (B b s be bf:Nat) (_hb:s<B∧be<B∧bf<B) (hB:B≤b) (ds:List Nd) (a:Option Addr) (cap:Nat) (_hl:ds.length≤400) (tx:ByteArray) (n:Int):q2q B b s be bf ds a cap (⟨5,tx,n⟩::[]) (fun _ ws=>.ok ([],ws)):=by
 intro i r deep ws wa wc l w hd hC hI _ hwc hW hdeep hsz
 obtain ⟨hi,e1,e2⟩:=q1h (x:=⟨5,tx,n⟩) (A:=[]++r) hd
 obtain ⟨o0,ea,d1,d2,d3⟩:=hC.nd i hi
 subst ea
 rw [e1] at d1 d2 d3
 dsimp only at d1 d2 d3
 have c0:=hW.c0
 have c1:=hW.c1
 have c2:=hW.c2
 have c5:=hW.c5
 have hlt:=hW.lt
 have hs0:s<w.heap.size:=by omega
 have hbs:B≤w.heap.size:=by omega
 have hiI:(i:Int)<(ds.length:Int):=by omega
 have HD:Hid (ds.drop i=⟨5,tx,n⟩::([]++r)):=hd
 have HD1:Hid (ds.drop (i+1)=[]++r):=e2
 have HC:Hid (LC B s be bf (some ⟨s,o0,none⟩) ds w):=hC
 have HI:Hid (q2h B w wa ws):=hI
 have HW:Hid (WS B b (q5r be bf ds.length cap (some ⟨s,o0,none⟩)) l (.slice wa ws.length wc) w):=hW
 have HA:Hid (∀ O:Obj,Below B w (w.alloc O)):=fun O=>(Below.refl _ w).alloc hbs O
 clear hC hI hW hd e1 e2
 simp only [List.length_cons,List.length_nil] at hdeep hsz
 go_enter Tryz.func199,Tryz.ntmps199
 go_wp2
 go_ret
 exact ⟨⟨rfl,wa,wc,by rw [List.append_nil];exact HW.out.alloc _,HI.out.below (HA.out _),hwc⟩,HA.out _⟩
theorem y3n (B b s be bf:Nat) (_hb:s<B∧be<B∧bf<B) (hB:B≤b) (ds:List Nd) (a:Option Addr) (cap:Nat) (_hl:ds.length≤400) (tx:ByteArray) (n:Int) (ht:tx.size≤20):q2q B b s be bf ds a cap (⟨1,tx,n⟩::[]) (fun _ ws=>.ok (tx.data.toList,ws)):=by
 intro i r deep ws wa wc l w hd hC hI _ hwc hW hdeep hsz
 obtain ⟨hi,e1,e2⟩:=q1h (x:=⟨1,tx,n⟩) (A:=[]++r) hd
 obtain ⟨o0,ea,d1,d2,d3⟩:=hC.nd i hi
 subst ea
 rw [e1] at d1 d2 d3
 dsimp only at d1 d2 d3
 have c0:=hW.c0
 have c1:=hW.c1
 have c2:=hW.c2
 have c5:=hW.c5
 have hlt:=hW.lt
 have hs0:s<w.heap.size:=by omega
 have hbs:B≤w.heap.size:=by omega
 have hiI:(i:Int)<(ds.length:Int):=by omega
 have HD:Hid (ds.drop i=⟨1,tx,n⟩::([]++r)):=hd
 have HD1:Hid (ds.drop (i+1)=[]++r):=e2
 have HC:Hid (LC B s be bf (some ⟨s,o0,none⟩) ds w):=hC
 have HI:Hid (q2h B w wa ws):=hI
 have HW:Hid (WS B b (q5r be bf ds.length cap (some ⟨s,o0,none⟩)) l (.slice wa ws.length wc) w):=hW
 have HA:Hid (∀ O:Obj,Below B w (w.alloc O)):=fun O=>(Below.refl _ w).alloc hbs O
 clear hC hI hW hd e1 e2
 simp only [List.length_cons,List.length_nil] at hdeep hsz
 go_enter Tryz.func199,Tryz.ntmps199
 go_wp2_with fail
 go_region_with (go_at_call 33;refine (y3w (WS.drew (HW.out.alloc _)) hB tx (by omega)).mono ?_;rintro e w2 ⟨⟨z,rfl⟩,h2,hb2⟩)
 all_goals
  go_wp2
  go_ret
  have hB2:Below B w w2:=(Below.drew (HA.out _)).trans hb2
  exact ⟨⟨rfl,wa,wc,h2,HI.out.below hB2,hwc⟩,hB2⟩
theorem y3o (B b s be bf:Nat) (_hb:s<B∧be<B∧bf<B) (hB:B≤b) (ds:List Nd) (a:Option Addr) (cap:Nat) (_hl:ds.length≤400) (tx:ByteArray) (n:Int):q2q B b s be bf ds a cap (⟨2,tx,n⟩::[]) (fun deep ws=>.ok (10::List.replicate deep 32,ws)):=by
 intro i r deep ws wa wc l w hd hC hI _ hwc hW hdeep hsz
 obtain ⟨hi,e1,e2⟩:=q1h (x:=⟨2,tx,n⟩) (A:=[]++r) hd
 obtain ⟨o0,ea,d1,d2,d3⟩:=hC.nd i hi
 subst ea
 rw [e1] at d1 d2 d3
 dsimp only at d1 d2 d3
 have c0:=hW.c0
 have c1:=hW.c1
 have c2:=hW.c2
 have c5:=hW.c5
 have hlt:=hW.lt
 have hs0:s<w.heap.size:=by omega
 have hbs:B≤w.heap.size:=by omega
 have hiI:(i:Int)<(ds.length:Int):=by omega
 have HD:Hid (ds.drop i=⟨2,tx,n⟩::([]++r)):=hd
 have HD1:Hid (ds.drop (i+1)=[]++r):=e2
 have HC:Hid (LC B s be bf (some ⟨s,o0,none⟩) ds w):=hC
 have HI:Hid (q2h B w wa ws):=hI
 have HW:Hid (WS B b (q5r be bf ds.length cap (some ⟨s,o0,none⟩)) l (.slice wa ws.length wc) w):=hW
 have HA:Hid (∀ O:Obj,Below B w (w.alloc O)):=fun O=>(Below.refl _ w).alloc hbs O
 clear hC hI hW hd e1 e2
 simp only [List.length_cons,List.length_nil] at hdeep hsz
 have hrs:(⟨(List.replicate deep 32).toArray⟩:ByteArray).size≤3300:=by rw [←q0y];simp;omega
 have hrep:∀ W:World,Calls Tryz.prog 227 #[.string ⟨#[32]⟩,.int .i64 deep] W fun e w'=>e = .returned (.string ⟨(List.replicate deep 32).toArray⟩)∧Below W.heap.size W w':=fun W=>z3l deep (by omega) W
 generalize hrp:(⟨(List.replicate deep 32).toArray⟩:ByteArray)=rs at hrs hrep
 have HRP:Hid ((⟨(List.replicate deep 32).toArray⟩:ByteArray)=rs):=hrp
 have HR:Hid (∀ W:World,Calls Tryz.prog 227 #[.string ⟨#[32]⟩,.int .i64 deep] W fun e w'=>e = .returned (.string rs)∧Below W.heap.size W w'):=hrep
 have HT:Hid (l++(⟨#[10]⟩++rs:ByteArray).data.toList=l++10::List.replicate deep 32):=(show _=_ by rw [←hrp];simp)
 have HLN:Hid (l.length+(⟨#[10]⟩++rs:ByteArray).size≤2000000000):=(show _≤_ by rw [←q0y];simp;omega)
 clear hrp hrep
 go_enter Tryz.func199,Tryz.ntmps199
 go_wp2_with fail
 go_region_with (first
  | (go_at_call 227;refine (HR.out _).mono ?_;rintro e w2 ⟨rfl,hb2⟩)
  | (go_at_call 33;refine (y3w (WS.below (WS.drew (HW.out.alloc _)) hb2) hB _ HLN.out).mono ?_;rintro e w3 ⟨⟨z,rfl⟩,h3,hb3⟩))
 all_goals
  go_wp2
  go_ret
  have hB3:Below B w w3:=((Below.drew (HA.out _)).trans (hb2.mono (by simp;omega))).trans hb3
  rw [HT.out] at h3
  exact ⟨⟨rfl,wa,wc,h3,HI.out.below hB3,hwc⟩,hB3⟩
theorem y3p (B b s be bf:Nat) (_hb:s<B∧be<B∧bf<B) (hB:B≤b) (ds:List Nd) (a:Option Addr) (cap:Nat) (_hl:ds.length≤400) (tx:ByteArray) (n:Int):q2q B b s be bf ds a cap (⟨3,tx,n⟩::[]) (fun deep ws=>.ok (10::List.replicate deep 32,ws)):=by
 intro i r deep ws wa wc l w hd hC hI _ hwc hW hdeep hsz
 obtain ⟨hi,e1,e2⟩:=q1h (x:=⟨3,tx,n⟩) (A:=[]++r) hd
 obtain ⟨o0,ea,d1,d2,d3⟩:=hC.nd i hi
 subst ea
 rw [e1] at d1 d2 d3
 dsimp only at d1 d2 d3
 have c0:=hW.c0
 have c1:=hW.c1
 have c2:=hW.c2
 have c5:=hW.c5
 have hlt:=hW.lt
 have hs0:s<w.heap.size:=by omega
 have hbs:B≤w.heap.size:=by omega
 have hiI:(i:Int)<(ds.length:Int):=by omega
 have HD:Hid (ds.drop i=⟨3,tx,n⟩::([]++r)):=hd
 have HD1:Hid (ds.drop (i+1)=[]++r):=e2
 have HC:Hid (LC B s be bf (some ⟨s,o0,none⟩) ds w):=hC
 have HI:Hid (q2h B w wa ws):=hI
 have HW:Hid (WS B b (q5r be bf ds.length cap (some ⟨s,o0,none⟩)) l (.slice wa ws.length wc) w):=hW
 have HA:Hid (∀ O:Obj,Below B w (w.alloc O)):=fun O=>(Below.refl _ w).alloc hbs O
 clear hC hI hW hd e1 e2
 simp only [List.length_cons,List.length_nil] at hdeep hsz
 have hrs:(⟨(List.replicate deep 32).toArray⟩:ByteArray).size≤3300:=by rw [←q0y];simp;omega
 have hrep:∀ W:World,Calls Tryz.prog 227 #[.string ⟨#[32]⟩,.int .i64 deep] W fun e w'=>e = .returned (.string ⟨(List.replicate deep 32).toArray⟩)∧Below W.heap.size W w':=fun W=>z3l deep (by omega) W
 generalize hrp:(⟨(List.replicate deep 32).toArray⟩:ByteArray)=rs at hrs hrep
 have HRP:Hid ((⟨(List.replicate deep 32).toArray⟩:ByteArray)=rs):=hrp
 have HR:Hid (∀ W:World,Calls Tryz.prog 227 #[.string ⟨#[32]⟩,.int .i64 deep] W fun e w'=>e = .returned (.string rs)∧Below W.heap.size W w'):=hrep
 have HT:Hid (l++(⟨#[10]⟩++rs:ByteArray).data.toList=l++10::List.replicate deep 32):=(show _=_ by rw [←hrp];simp)
 have HLN:Hid (l.length+(⟨#[10]⟩++rs:ByteArray).size≤2000000000):=(show _≤_ by rw [←q0y];simp;omega)
 clear hrp hrep
 go_enter Tryz.func199,Tryz.ntmps199
 go_wp2_with fail
 go_region_with (first
  | (go_at_call 227;refine (HR.out _).mono ?_;rintro e w2 ⟨rfl,hb2⟩)
  | (go_at_call 33;refine (y3w (WS.below (WS.drew (HW.out.alloc _)) hb2) hB _ HLN.out).mono ?_;rintro e w3 ⟨⟨z,rfl⟩,h3,hb3⟩))
 all_goals
  go_wp2
  go_ret
  have hB3:Below B w w3:=((Below.drew (HA.out _)).trans (hb2.mono (by simp;omega))).trans hb3
  rw [HT.out] at h3
  exact ⟨⟨rfl,wa,wc,h3,HI.out.below hB3,hwc⟩,hB3⟩
theorem y3q (B b s be bf:Nat) (_hb:s<B∧be<B∧bf<B) (hB:B≤b) (ds:List Nd) (a:Option Addr) (cap:Nat) (_hl:ds.length≤400) (tx:ByteArray) (n:Int):q2q B b s be bf ds a cap (⟨4,tx,n⟩::[]) (fun deep ws=>.ok (10::List.replicate deep 32,ws)):=by
 intro i r deep ws wa wc l w hd hC hI _ hwc hW hdeep hsz
 obtain ⟨hi,e1,e2⟩:=q1h (x:=⟨4,tx,n⟩) (A:=[]++r) hd
 obtain ⟨o0,ea,d1,d2,d3⟩:=hC.nd i hi
 subst ea
 rw [e1] at d1 d2 d3
 dsimp only at d1 d2 d3
 have c0:=hW.c0
 have c1:=hW.c1
 have c2:=hW.c2
 have c5:=hW.c5
 have hlt:=hW.lt
 have hs0:s<w.heap.size:=by omega
 have hbs:B≤w.heap.size:=by omega
 have hiI:(i:Int)<(ds.length:Int):=by omega
 have HD:Hid (ds.drop i=⟨4,tx,n⟩::([]++r)):=hd
 have HD1:Hid (ds.drop (i+1)=[]++r):=e2
 have HC:Hid (LC B s be bf (some ⟨s,o0,none⟩) ds w):=hC
 have HI:Hid (q2h B w wa ws):=hI
 have HW:Hid (WS B b (q5r be bf ds.length cap (some ⟨s,o0,none⟩)) l (.slice wa ws.length wc) w):=hW
 have HA:Hid (∀ O:Obj,Below B w (w.alloc O)):=fun O=>(Below.refl _ w).alloc hbs O
 clear hC hI hW hd e1 e2
 simp only [List.length_cons,List.length_nil] at hdeep hsz
 have hrs:(⟨(List.replicate deep 32).toArray⟩:ByteArray).size≤3300:=by rw [←q0y];simp;omega
 have hrep:∀ W:World,Calls Tryz.prog 227 #[.string ⟨#[32]⟩,.int .i64 deep] W fun e w'=>e = .returned (.string ⟨(List.replicate deep 32).toArray⟩)∧Below W.heap.size W w':=fun W=>z3l deep (by omega) W
 generalize hrp:(⟨(List.replicate deep 32).toArray⟩:ByteArray)=rs at hrs hrep
 have HRP:Hid ((⟨(List.replicate deep 32).toArray⟩:ByteArray)=rs):=hrp
 have HR:Hid (∀ W:World,Calls Tryz.prog 227 #[.string ⟨#[32]⟩,.int .i64 deep] W fun e w'=>e = .returned (.string rs)∧Below W.heap.size W w'):=hrep
 have HT:Hid (l++(⟨#[10]⟩++rs:ByteArray).data.toList=l++10::List.replicate deep 32):=(show _=_ by rw [←hrp];simp)
 have HLN:Hid (l.length+(⟨#[10]⟩++rs:ByteArray).size≤2000000000):=(show _≤_ by rw [←q0y];simp;omega)
 clear hrp hrep
 go_enter Tryz.func199,Tryz.ntmps199
 go_wp2_with fail
 go_region_with (first
  | (go_at_call 227;refine (HR.out _).mono ?_;rintro e w2 ⟨rfl,hb2⟩)
  | (go_at_call 33;refine (y3w (WS.below (WS.drew (HW.out.alloc _)) hb2) hB _ HLN.out).mono ?_;rintro e w3 ⟨⟨z,rfl⟩,h3,hb3⟩))
 all_goals
  go_wp2
  go_ret
  have hB3:Below B w w3:=((Below.drew (HA.out _)).trans (hb2.mono (by simp;omega))).trans hb3
  rw [HT.out] at h3
  exact ⟨⟨rfl,wa,wc,h3,HI.out.below hB3,hwc⟩,hB3⟩
theorem y3s (B b s be bf:Nat) (hb:s<B∧be<B∧bf<B) (hB:B≤b) (ds:List Nd) (a:Option Addr) (cap:Nat) (hl:ds.length≤400) (tx:ByteArray) (n:Int) (A C:List Nd) (f g:Nat→List Int→Except Int (List UInt8 × List Int)) (hA:q2q B b s be bf ds a cap A f) (hG:q2q B b s be bf ds a cap C g) (hE:∀ i r,ds.drop i=A++r→r≠[]→∃ t:Tr,t.Wf∧A=t.nodes) (hp:C≠[]) (hlen:∀ deep ws u v,f deep ws = .ok (u,v)→deep+8*A.length≤3300→u.length≤4000*A.length) (h01:∀ deep ws u v,q1z ws→f deep ws = .ok (u,v)→q1z v):q2q B b s be bf ds a cap (⟨6,tx,n⟩::(A++C)) (z0v f g):=by
 intro i r deep ws wa wc l w hd hC hI hok hwc hW hdeep hsz
 obtain ⟨hi,e1,e2⟩:=q1h (x:=⟨6,tx,n⟩) (A:=(A++C)++r) hd
 obtain ⟨o0,ea,d1,d2,d3⟩:=hC.nd i hi
 subst ea
 rw [e1] at d1 d2 d3
 dsimp only at d1 d2 d3
 have c0:=hW.c0
 have c1:=hW.c1
 have c2:=hW.c2
 have c5:=hW.c5
 have hlt:=hW.lt
 have hs0:s<w.heap.size:=by omega
 have hbs:B≤w.heap.size:=by omega
 have hiI:(i:Int)<(ds.length:Int):=by omega
 have HD:Hid (ds.drop i=⟨6,tx,n⟩::((A++C)++r)):=hd
 have HD1:Hid (ds.drop (i+1)=(A++C)++r):=e2
 have HC:Hid (LC B s be bf (some ⟨s,o0,none⟩) ds w):=hC
 have HI:Hid (q2h B w wa ws):=hI
 have HW:Hid (WS B b (q5r be bf ds.length cap (some ⟨s,o0,none⟩)) l (.slice wa ws.length wc) w):=hW
 have HA:Hid (∀ O:Obj,Below B w (w.alloc O)):=fun O=>(Below.refl _ w).alloc hbs O
 clear hC hI hW hd e1 e2
 simp only [List.length_cons,List.length_append] at hdeep hsz
 have HF:Hid (q2q B b s be bf ds (some ⟨s,o0,none⟩) cap A f):=hA
 have HG:Hid (q2q B b s be bf ds (some ⟨s,o0,none⟩) cap C g):=hG
 have HX:Hid (((i+1:Nat):Int)=(i:Int)+1):=(show _=_ by omega)
 have HOK:Hid (q1z ws):=hok
 have hd1:=HD1.out
 rw [List.append_assoc] at hd1
 have HD2:Hid (ds.drop (i+1)=A++(C++r)):=hd1
 obtain ⟨t,ht,et⟩:=hE _ _ hd1 (fun h=>hp (List.append_eq_nil_iff.1 h).1)
 have HT:Hid (t.Wf∧A=t.nodes):=⟨ht,et⟩
 have hi1:(i:Int)+1<(ds.length:Int):=by
  have:=congrArg List.length hd1
  have h2:=List.length_pos_iff.2 hp
  rw [List.length_drop,List.length_append,List.length_append] at this
  omega
 have HL:Hid (∀ deep ws u v,f deep ws = .ok (u,v)→deep+8*A.length≤3300→u.length≤4000*A.length):=hlen
 have H01:Hid (∀ deep ws u v,q1z ws→f deep ws = .ok (u,v)→q1z v):=h01
 clear hA hG hok hd1 ht et hE hlen h01 hp
 go_enter Tryz.func199,Tryz.ntmps199
 go_wp2_with fail
 rw [←HX.out]
 refine (HF.out (i+1) (C++r) deep ws wa wc l _ HD2.out (HC.out.below hb (HA.out _)) (HI.out.below (HA.out _)) HOK.out hwc (HW.out.alloc _) (by omega) (by omega)).mono ?_
 rintro e w2 ⟨h2,hb2⟩
 cases hres0:f deep ws with
 | error er=>
  rw [hres0] at h2
  obtain ⟨hne,rfl⟩:=h2
  have HN:Hid (er≠0):=hne
  rw [q0h hne]
  clear hne
  go_wp2
  go_ret
  refine ⟨?_,(HA.out _).trans hb2⟩
  rw [z0v,hres0]
  exact ⟨HN.out,by rw [q0h HN.out];rfl⟩
 | ok p=>
  obtain ⟨u0,v0⟩:=p
  rw [hres0] at h2
  obtain ⟨rfl,wa2,wc2,hw2,hi2,hv2⟩:=h2
  have HB2:Hid (Below B w w2):=(HA.out _).trans hb2
  have HC2:Hid (LC B s be bf (some ⟨s,o0,none⟩) ds w2):=HC.out.below hb HB2.out
  have HW2:Hid (WS B b (q5r be bf ds.length cap (some ⟨s,o0,none⟩)) (l++u0) (.slice wa2 v0.length wc2) w2):=hw2
  have HI2:Hid (q2h B w2 wa2 v0):=hi2
  have g1:=hw2.c1
  have hu0:=HL.out deep ws u0 v0 hres0 (by omega)
  have HOK2:Hid (q1z v0):=H01.out deep ws u0 v0 HOK.out hres0
  have ge:w2.cell? ⟨be,i+1,none⟩=some (.int .i64 ((i+1+A.length:Nat):Int)):=by
   have hd2:=HD2.out
   rw [HT.out.2] at hd2 ⊢
   exact (HC2.out.kn (i+1) t (C++r) (Nat.zero_le _) HT.out.1 hd2).1
  have hres1:Hid (f deep ws = .ok (u0,v0)):=hres0
  clear hw2 hi2 hb2 hres0
  go_wp2_with fail
  refine (HG.out (i+1+A.length) r deep v0 wa2 wc2 (l++u0) _ (z6h HD2.out) HC2.out HI2.out HOK2.out hv2 HW2.out (by omega) (by rw [List.length_append];omega)).mono ?_
  rintro e w3 ⟨h2,hb3⟩
  cases hres:g deep v0 with
  | error er=>
   rw [hres] at h2
   obtain ⟨hne,rfl⟩:=h2
   have HN:Hid (er≠0):=hne
   rw [q0h hne]
   clear hne
   go_wp2
   go_ret
   refine ⟨?_,(HB2.out.trans hb3)⟩
   rw [z0v,hres1.out];dsimp only;rw [hres]
   exact ⟨HN.out,by rw [q0h HN.out];rfl⟩
  | ok p=>
   obtain ⟨u,v⟩:=p
   rw [hres] at h2
   obtain ⟨rfl,h3⟩:=h2
   have H3:Hid (∃ wa' wc',WS B b (q5r be bf ds.length cap (some ⟨s,o0,none⟩)) ((l++u0)++u) (.slice wa' v.length wc') w3∧q2h B w3 wa' v∧v.length≤wc'):=h3
   clear h3
   go_wp2
   go_ret
   refine ⟨?_,(HB2.out.trans hb3)⟩
   rw [z0v,hres1.out];dsimp only;rw [hres]
   rw [List.append_assoc] at H3;exact ⟨rfl,H3.out⟩
theorem y3t (B b s be bf:Nat) (hb:s<B∧be<B∧bf<B) (hB:B≤b) (ds:List Nd) (a:Option Addr) (cap:Nat) (hl:ds.length≤400) (tx:ByteArray) (n:Int) (hn0:0≤n) (hn8:n≤8) (A:List Nd) (f:Nat→List Int→Except Int (List UInt8 × List Int)) (hA:q2q B b s be bf ds a cap A f):q2q B b s be bf ds a cap (⟨7,tx,n⟩::A) (fun deep ws=>f (deep+n.toNat) ws):=by
 intro i r deep ws wa wc l w hd hC hI hok hwc hW hdeep hsz
 obtain ⟨hi,e1,e2⟩:=q1h (x:=⟨7,tx,n⟩) (A:=A++r) hd
 obtain ⟨o0,ea,d1,d2,d3⟩:=hC.nd i hi
 subst ea
 rw [e1] at d1 d2 d3
 dsimp only at d1 d2 d3
 have c0:=hW.c0
 have c1:=hW.c1
 have c2:=hW.c2
 have c5:=hW.c5
 have hlt:=hW.lt
 have hs0:s<w.heap.size:=by omega
 have hbs:B≤w.heap.size:=by omega
 have hiI:(i:Int)<(ds.length:Int):=by omega
 have HD:Hid (ds.drop i=⟨7,tx,n⟩::(A++r)):=hd
 have HD1:Hid (ds.drop (i+1)=A++r):=e2
 have HC:Hid (LC B s be bf (some ⟨s,o0,none⟩) ds w):=hC
 have HI:Hid (q2h B w wa ws):=hI
 have HW:Hid (WS B b (q5r be bf ds.length cap (some ⟨s,o0,none⟩)) l (.slice wa ws.length wc) w):=hW
 have HA:Hid (∀ O:Obj,Below B w (w.alloc O)):=fun O=>(Below.refl _ w).alloc hbs O
 clear hC hI hW hd e1 e2
 simp only [List.length_cons] at hdeep hsz
 have HF:Hid (q2q B b s be bf ds (some ⟨s,o0,none⟩) cap A f):=hA
 have HX:Hid (((i+1:Nat):Int)=(i:Int)+1):=(show _=_ by omega)
 have HY:Hid (((deep+n.toNat:Nat):Int)=(deep:Int)+n):=(show _=_ by omega)
 have HOK:Hid (q1z ws):=hok
 clear hA hok
 go_enter Tryz.func199,Tryz.ntmps199
 go_wp2_with fail
 rw [←HX.out,←HY.out]
 refine (HF.out (i+1) r (deep+n.toNat) ws wa wc l _ HD1.out (HC.out.below hb (HA.out _)) (HI.out.below (HA.out _)) HOK.out hwc (HW.out.alloc _) (by omega) (by omega)).mono ?_
 rintro e w2 ⟨h2,hb2⟩
 cases hres:f (deep+n.toNat) ws with
 | error er=>
  rw [hres] at h2
  obtain ⟨hne,rfl⟩:=h2
  have HN:Hid (er≠0):=hne
  rw [q0h hne]
  clear hne
  go_wp2
  go_ret
  refine ⟨?_,(HA.out _).trans hb2⟩
  rw [hres]
  exact ⟨HN.out,by rw [q0h HN.out];rfl⟩
 | ok p=>
  obtain ⟨u,v⟩:=p
  rw [hres] at h2
  obtain ⟨rfl,h3⟩:=h2
  have H3:Hid (∃ wa' wc',WS B b (q5r be bf ds.length cap (some ⟨s,o0,none⟩)) (l++u) (.slice wa' v.length wc') w2∧q2h B w2 wa' v∧v.length≤wc'):=h3
  clear h3
  go_wp2
  go_ret
  refine ⟨?_,(HA.out _).trans hb2⟩
  rw [hres]
  exact ⟨rfl,H3.out⟩
theorem y3u (B b s be bf:Nat) (hb:s<B∧be<B∧bf<B) (hB:B≤b) (ds:List Nd) (a:Option Addr) (cap:Nat) (_hl:ds.length≤400) (tx:ByteArray) (n:Int) (A:List Nd) (f:Nat→List Int→Except Int (List UInt8 × List Int)) (hA:k0v 228 B b s be bf ds a cap (⟨8,tx,n⟩::A) f):q2q B b s be bf ds a cap (⟨8,tx,n⟩::A) (f):=by
 intro i r deep ws wa wc l w hd hC hI hok hwc hW hdeep hsz
 obtain ⟨hi,e1,e2⟩:=q1h (x:=⟨8,tx,n⟩) (A:=A++r) hd
 obtain ⟨o0,ea,d1,d2,d3⟩:=hC.nd i hi
 subst ea
 rw [e1] at d1 d2 d3
 dsimp only at d1 d2 d3
 have c0:=hW.c0
 have c1:=hW.c1
 have c2:=hW.c2
 have c5:=hW.c5
 have hlt:=hW.lt
 have hs0:s<w.heap.size:=by omega
 have hbs:B≤w.heap.size:=by omega
 have hiI:(i:Int)<(ds.length:Int):=by omega
 have HD:Hid (ds.drop i=⟨8,tx,n⟩::(A++r)):=hd
 have HD1:Hid (ds.drop (i+1)=A++r):=e2
 have HC:Hid (LC B s be bf (some ⟨s,o0,none⟩) ds w):=hC
 have HI:Hid (q2h B w wa ws):=hI
 have HW:Hid (WS B b (q5r be bf ds.length cap (some ⟨s,o0,none⟩)) l (.slice wa ws.length wc) w):=hW
 have HA:Hid (∀ O:Obj,Below B w (w.alloc O)):=fun O=>(Below.refl _ w).alloc hbs O
 clear hC hI hW hd e1 e2
 have HF:Hid (k0v 228 B b s be bf ds (some ⟨s,o0,none⟩) cap (⟨8,tx,n⟩::A) f):=hA
 have HOK:Hid (q1z ws):=hok
 clear hA hok
 go_enter Tryz.func199,Tryz.ntmps199
 go_wp2_with fail
 refine (HF.out i r deep ws wa wc l _ HD.out (HC.out.below hb (HA.out _)) (HI.out.below (HA.out _)) HOK.out hwc (HW.out.alloc _) hdeep hsz).mono ?_
 rintro e w2 ⟨h2,hb2⟩
 cases hres:f deep ws with
 | error er=>
  rw [hres] at h2
  obtain ⟨hne,rfl⟩:=h2
  have HN:Hid (er≠0):=hne
  rw [q0h hne]
  clear hne
  go_wp2
  go_ret
  refine ⟨?_,((HA.out _).trans hb2)⟩
  rw [hres]
  exact ⟨HN.out,by rw [q0h HN.out];rfl⟩
 | ok p=>
  obtain ⟨u,v⟩:=p
  rw [hres] at h2
  obtain ⟨rfl,h3⟩:=h2
  have H3:Hid (∃ wa' wc',WS B b (q5r be bf ds.length cap (some ⟨s,o0,none⟩)) (l++u) (.slice wa' v.length wc') w2∧q2h B w2 wa' v∧v.length≤wc'):=h3
  clear h3
  go_wp2
  go_ret
  refine ⟨?_,((HA.out _).trans hb2)⟩
  rw [hres]
  exact ⟨rfl,H3.out⟩
theorem y3v (B b s be bf:Nat) (hb:s<B∧be<B∧bf<B) (hB:B≤b) (ds:List Nd) (a:Option Addr) (cap:Nat) (_hl:ds.length≤400) (tx:ByteArray) (n:Int) (A C:List Nd) (f:Nat→List Int→Except Int (List UInt8 × List Int)) (hA:k0v 228 B b s be bf ds a cap (⟨9,tx,n⟩::(A++C)) f):q2q B b s be bf ds a cap (⟨9,tx,n⟩::(A++C)) (f):=by
 intro i r deep ws wa wc l w hd hC hI hok hwc hW hdeep hsz
 obtain ⟨hi,e1,e2⟩:=q1h (x:=⟨9,tx,n⟩) (A:=(A++C)++r) hd
 obtain ⟨o0,ea,d1,d2,d3⟩:=hC.nd i hi
 subst ea
 rw [e1] at d1 d2 d3
 dsimp only at d1 d2 d3
 have c0:=hW.c0
 have c1:=hW.c1
 have c2:=hW.c2
 have c5:=hW.c5
 have hlt:=hW.lt
 have hs0:s<w.heap.size:=by omega
 have hbs:B≤w.heap.size:=by omega
 have hiI:(i:Int)<(ds.length:Int):=by omega
 have HD:Hid (ds.drop i=⟨9,tx,n⟩::((A++C)++r)):=hd
 have HD1:Hid (ds.drop (i+1)=(A++C)++r):=e2
 have HC:Hid (LC B s be bf (some ⟨s,o0,none⟩) ds w):=hC
 have HI:Hid (q2h B w wa ws):=hI
 have HW:Hid (WS B b (q5r be bf ds.length cap (some ⟨s,o0,none⟩)) l (.slice wa ws.length wc) w):=hW
 have HA:Hid (∀ O:Obj,Below B w (w.alloc O)):=fun O=>(Below.refl _ w).alloc hbs O
 clear hC hI hW hd e1 e2
 have HF:Hid (k0v 228 B b s be bf ds (some ⟨s,o0,none⟩) cap (⟨9,tx,n⟩::(A++C)) f):=hA
 have HOK:Hid (q1z ws):=hok
 clear hA hok
 go_enter Tryz.func199,Tryz.ntmps199
 go_wp2_with fail
 refine (HF.out i r deep ws wa wc l _ HD.out (HC.out.below hb (HA.out _)) (HI.out.below (HA.out _)) HOK.out hwc (HW.out.alloc _) hdeep hsz).mono ?_
 rintro e w2 ⟨h2,hb2⟩
 cases hres:f deep ws with
 | error er=>
  rw [hres] at h2
  obtain ⟨hne,rfl⟩:=h2
  have HN:Hid (er≠0):=hne
  rw [q0h hne]
  clear hne
  go_wp2
  go_ret
  refine ⟨?_,((HA.out _).trans hb2)⟩
  rw [hres]
  exact ⟨HN.out,by rw [q0h HN.out];rfl⟩
 | ok p=>
  obtain ⟨u,v⟩:=p
  rw [hres] at h2
  obtain ⟨rfl,h3⟩:=h2
  have H3:Hid (∃ wa' wc',WS B b (q5r be bf ds.length cap (some ⟨s,o0,none⟩)) (l++u) (.slice wa' v.length wc') w2∧q2h B w2 wa' v∧v.length≤wc'):=h3
  clear h3
  go_wp2
  go_ret
  refine ⟨?_,((HA.out _).trans hb2)⟩
  rw [hres]
  exact ⟨rfl,H3.out⟩
end Go.Proofs.YtchdplceopegoaaGreatDoor
