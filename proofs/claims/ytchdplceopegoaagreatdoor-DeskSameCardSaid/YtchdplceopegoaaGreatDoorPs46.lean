/- Texts as one: PgX. -/
import Derived.Test.YtchdplceopegoaaGreatDoorPs45
namespace Go.Proofs.YtchdplceopegoaaGreatDoor
open Go Go.RowKit
set_option maxRecDepth 100000
set_option maxHeartbeats 8000000
theorem k5b {n:Nat} (h1:10≤n) (h2:n≤100) (w:World):Calls Tryz.prog 17 #[.int .i64 (n:Int)] w fun e w'=>e = .returned .nilIface∧w=w':=by
 have h3:¬ (n:Int)<10:=by omega
 have h4:¬ 100<(n:Int):=by omega
 go_enter Tryz.func17,Tryz.ntmps17
 go_wp2
 go_ret
 exact ⟨rfl,rfl⟩
theorem v0n {wd:Int} (h:wd<10∨100<wd) (w:World):Calls Tryz.prog 17 #[.int .i64 wd] w fun e w'=>e = .returned (.iface 24 (.int .i64 1))∧w=w':=by
 by_cases h1:wd<10
 ·go_enter Tryz.func17,Tryz.ntmps17
  go_wp2
  go_ret
  exact ⟨rfl,rfl⟩
 ·have h2:100<wd:=by omega
  go_enter Tryz.func17,Tryz.ntmps17
  go_wp2
  go_ret
  exact ⟨rfl,rfl⟩
theorem j3x {t:List Td} (h:q0c t=0) (h9:opT t=9) (n:Nat) (hw1:10≤n) (hw2:n≤100) (a:Option Addr) (cap:Nat) (w:World) (hc:t.length≤cap) (hN:Tds w a t) (hsz:z4c t) (ht:q7d w) :
  Calls Tryz.prog 52 #[.slice a t.length cap,.int .i64 (n:Int)] w fun e w'=>e = .returned (.tuple #[.string (wbS (q5b n t)),.nilIface])∧Below w.heap.size w w':=by
 obtain ⟨_,_,e1,e2⟩:=z6n h h9
 have hnf:=j3f h h9
 rw [z9s h h9]
 have HLN:Hid (Calls Tryz.prog 84 #[.slice a t.length cap] w fun e w'=>(∃ A c,e = .returned (.tuple #[.slice A (q0g (btL (txT t))).length c,.nilIface])∧Wds w' A ((q0g (btL (txT t))).map wbS)∧(q0g (btL (txT t))).length≤c)∧Below w.heap.size w w'):=by
  refine (k1r t a cap w ht hc hN hsz).mono ?_
  rintro e w' ⟨⟨A,c,he,hW,hl⟩,hb⟩
  rw [e2] at hW hl
  rw [List.length_map] at hl
  exact ⟨⟨A,c,by rw [he,e1,e2,q0q,List.length_map],hW,hl⟩,hb⟩
 have HFP:Hid (∀ (W:World) (A:Option Addr) (c:Nat),(q0g (btL (txT t))).length≤c→Wds W A ((q0g (btL (txT t))).map wbS)→Calls Tryz.prog 85 #[.slice A (q0g (btL (txT t))).length c,.int .i64 ((n:Int) - 2)] W fun e w'=>(∃ L c,e = .returned (.tuple #[.slice L (q2m (n - 2) ((q0g (btL (txT t))).map wbS)).length c,.nilIface])∧q1x W.heap.size (.slice L (q2m (n - 2) ((q0g (btL (txT t))).map wbS)).length c) (q2m (n - 2) ((q0g (btL (txT t))).map wbS)) w')∧Below W.heap.size W w'):=fun W A c q1 q2=>j0q hnf n hw1 hw2 A c W q1 q2
 have hF:=k4k hnf
 by_cases h0:q0g (btL (txT t))=[]
 ·have HL:Hid (ntL n (txT t)=[35,10]):=(show _=_ by rw [ntL,if_pos h0])
  generalize ntL n (txT t)=L at HL ⊢
  rw [h0] at HLN HFP
  simp only [List.map_nil,q5a,List.length_nil] at HLN HFP
  clear hN hsz ht e1 e2 hnf h h9 hF h0
  go_enter Tryz.func52,Tryz.ntmps52
  go_wp2_with fail
  refine HLN.out.mono ?_
  rintro e w1 ⟨⟨A1,c1,rfl,hW1,hc1⟩,b1⟩
  have HB1:Hid (Below w.heap.size w w1):=b1
  have HF1:Hid (Calls Tryz.prog 85 #[.slice A1 0 c1,.int .i64 ((n:Int) - 2)] w1 fun e w'=>(∃ L c,e = .returned (.tuple #[.slice L 0 c,.nilIface])∧q1x w1.heap.size (.slice L 0 c) [] w')∧Below w1.heap.size w1 w'):=HFP.out w1 A1 c1 hc1 hW1
  clear b1 hW1 hc1 HFP HLN
  go_wp2_with fail
  refine HF1.out.mono ?_
  rintro e w2 ⟨⟨A2,c2,rfl,_⟩,b2⟩
  have HB2:Hid (Below w.heap.size w w2):=q0j HB1.out (Nat.le_refl _) b2
  clear b2
  go_wp2
  go_ret2
  exact ⟨by rw [HL.out];rfl,HB2.out⟩
 ·have hls:=q9e (n - 2) _ ((q0g (btL (txT t))).map wbS) (Nat.le_refl _)
  have hl60:=hF.1
  have hne:q2m (n - 2) ((q0g (btL (txT t))).map wbS)≠[]:=by
   rw [q4z _ (by simpa using h0)]
   simp
  have HL:Hid (wbS (ntL n (txT t))=(⟨#[35,32]⟩:ByteArray)++wbS (Lib.join ((q2m (n - 2) ((q0g (btL (txT t))).map wbS)).map fun x=>x.data.toList) [10,35,32])++(⟨#[10]⟩:ByteArray)):=by
   show _=_
   rw [k4m n h0,←q8m,←q8m]
   rfl
  have hLl:=j3g hnf n
  have hjl:(wbS (Lib.join ((q2m (n - 2) ((q0g (btL (txT t))).map wbS)).map fun x=>x.data.toList) [10,35,32])).size≤100000:=by
   rw [k4m n h0,List.length_append,List.length_append] at hLl
   rw [k0h]
   omega
  have hnl0:0<(q0g (btL (txT t))).length:=List.length_pos_iff.2 h0
  generalize ntL n (txT t)=L at HL ⊢
  generalize q2m (n - 2) ((q0g (btL (txT t))).map wbS)=ls at HFP HL hls hjl hne
  have HJ:Hid (∀ (W:World) (A:Option Addr) (c B:Nat),q1x B (.slice A ls.length c) ls W→Calls Tryz.prog 86 #[.slice A ls.length c,.string ⟨#[10,35,32]⟩] W fun e w'=>e = .returned (.string (wbS (Lib.join (ls.map fun x=>x.data.toList) [10,35,32])))∧Below W.heap.size W w'):=fun W A c B hS=>by
   obtain ⟨_,q2,hA⟩:=z9z hS
   have hlp:=List.length_pos_iff.2 hne
   rcases hA with ⟨_,q,_⟩ | ⟨g,rfl,hg⟩
   ·omega
   ·refine join_sh g 0 c ls ⟨#[10,35,32]⟩ W ?_ hg (by omega) q2 ?_
    ·intro j x hx
     obtain ⟨hj,rfl⟩:=List.getElem?_eq_some_iff.1 hx
     obtain ⟨b',o',e,_,c1⟩:=z3n hS j hj
     simp only [Option.some.injEq,Addr.mk.injEq,and_true] at e
     obtain ⟨rfl,rfl⟩:=e
     exact c1
    ·rw [k0h] at hjl
     show (Lib.join (ls.map fun x=>x.data.toList) [10,35,32]).length≤_
     omega
  generalize wbS (Lib.join (ls.map fun x=>x.data.toList) [10,35,32])=J at HJ HL hjl
  generalize (q0g (btL (txT t))).map wbS=ws at HLN HFP
  generalize (q0g (btL (txT t))).length=nw at HLN HFP hnl0
  have hnl1:((ls.length:Int) == 0)=false:=by
   have:=List.length_pos_iff.2 hne
   simp;omega
  have g1:¬ 9223372036854775807<2+J.size:=by omega
  have g2:¬ 9223372036854775807<2+J.size+1:=by omega
  clear hN hsz ht e1 e2 hnf h h9 hF h0 hLl hls hl60 hne
  go_enter Tryz.func52,Tryz.ntmps52
  go_wp2_with fail
  refine HLN.out.mono ?_
  rintro e w1 ⟨⟨A1,c1,rfl,hW1,hc1⟩,b1⟩
  have HB1:Hid (Below w.heap.size w w1):=b1
  have HF1:Hid (Calls Tryz.prog 85 #[.slice A1 nw c1,.int .i64 ((n:Int) - 2)] w1 fun e w'=>(∃ L c,e = .returned (.tuple #[.slice L ls.length c,.nilIface])∧q1x w1.heap.size (.slice L ls.length c) ls w')∧Below w1.heap.size w1 w'):=HFP.out w1 A1 c1 hc1 hW1
  clear b1 hW1 hc1 HFP HLN
  go_wp2_with fail
  refine HF1.out.mono ?_
  rintro e w2 ⟨⟨A2,c2,rfl,hS2⟩,b2⟩
  have HB2:Hid (Below w.heap.size w w2):=q0j HB1.out (Nat.le_refl _) b2
  have HJ2:Hid (Calls Tryz.prog 86 #[.slice A2 ls.length c2,.string ⟨#[10,35,32]⟩] w2 fun e w'=>e = .returned (.string J)∧Below w2.heap.size w2 w'):=HJ.out w2 A2 c2 _ hS2
  clear b2 hS2 HJ HF1
  generalize ls.length=nl at HJ2 hnl1 ⊢
  go_wp2_with fail
  refine HJ2.out.mono ?_
  rintro e w3 ⟨rfl,b3⟩
  have HB3:Hid (Below w.heap.size w w3):=q0j HB2.out (Nat.le_refl _) b3
  clear b3
  go_wp2
  go_ret2
  exact ⟨by rw [HL.out];rfl,HB3.out⟩
theorem k6y {t:List Td} (h:q0c t=0) (h9:opT t≠9) (n:Nat) (hw2:n≤100) (a:Option Addr) (cap:Nat) (w:World) (hc:t.length≤cap) (hN:Tds w a t) (hsz:z4c t) (ht:q7d w) :
  Calls Tryz.prog 53 #[.slice a t.length cap,.int .i64 (n:Int)] w fun e w'=>e = .returned (.tuple #[.string (if pgE t=0 then wbS (q5b n t) else ⟨#[]⟩),q1f (pgE t)])∧Below w.heap.size w w':=by
 have HLD:Hid (Calls Tryz.prog 87 #[.slice a t.length cap] w fun e w'=>(∃ A c,e = .returned (.tuple #[.slice A (q7k t).length c,q1f (q8r t)])∧q2y w' A (q7k t)∧(q7k t).length≤c)∧Below w.heap.size w w'):=k6o t a cap w ht.pow hc hN hsz
 rw [j3s h h9,k4o h h9]
 by_cases h0:q8r t=0
 ·have HBP:Hid (∀ (W:World) (A:Option Addr) (c:Nat),(q7k t).length≤c→q2y W A (q7k t)→Calls Tryz.prog 88 #[.slice A (q7k t).length c,.int .i64 (n:Int)] W fun e w'=>(∃ s wa wl wc,∃ q1 q2:Int,e = .returned (.tuple #[.string (wbS s),.slice wa wl wc,.agg #[.int .i64 q1,.int .i64 q2],.nilIface])∧dcL n t=s++[10]∧s.length≤20000)∧Below W.heap.size W w'):=fun W A c q1 q2=>k8w h0 n hw2 A c W q1 q2
  rw [if_pos h0,h0,q0q]
  rw [h0,q0q] at HLD
  generalize dcL n t=L at HBP ⊢
  generalize q7k t=xs at HLD HBP
  clear hN hsz ht h h9 h0
  go_enter Tryz.func53,Tryz.ntmps53
  go_wp2_with fail
  refine HLD.out.mono ?_
  rintro e w1 ⟨⟨A1,c1,rfl,hN1,hc1⟩,b1⟩
  have HB1:Hid (Below w.heap.size w w1):=b1
  have HP1:Hid (Calls Tryz.prog 88 #[.slice A1 xs.length c1,.int .i64 (n:Int)] w1 fun e w'=>(∃ s wa wl wc,∃ q1 q2:Int,e = .returned (.tuple #[.string (wbS s),.slice wa wl wc,.agg #[.int .i64 q1,.int .i64 q2],.nilIface])∧L=s++[10]∧s.length≤20000)∧Below w1.heap.size w1 w'):=HBP.out w1 A1 c1 hc1 hN1
  clear b1 hN1 hc1 HBP HLD
  generalize xs.length=nx at HP1 ⊢
  go_wp2_with fail
  refine HP1.out.mono ?_
  rintro e w2 ⟨⟨s,wa,wl,wc,q1,q2,rfl,hL,hsl⟩,b2⟩
  have HB2:Hid (Below w.heap.size w w2):=q0j HB1.out (Nat.le_refl _) b2
  have HLS:Hid (wbS L=wbS s++(⟨#[10]⟩:ByteArray)):=(show _=_ by rw [hL,←q8m];rfl)
  have hss:(wbS s).size≤20000:=by rw [k0h];exact hsl
  clear b2 hL hsl HP1
  generalize wbS s=S at HLS hss ⊢
  have g1:¬ 9223372036854775807<S.size+1:=by omega
  go_wp2
  go_ret2
  exact ⟨by rw [HLS.out];rfl,by first | exact HB2.out | exact q0j HB2.out (Nat.le_refl _) (q1j w2 _)⟩
 ·rw [if_neg h0]
  have HE:=(show Hid (_=_) from q0h h0)
  generalize q1f (q8r t)=E at HLD HE ⊢
  generalize q7k t=xs at HLD
  generalize q8r t=z at HE
  clear hN hsz ht h h9 h0
  go_enter Tryz.func53,Tryz.ntmps53
  go_wp2_with fail
  refine HLD.out.mono ?_
  rintro e w1 ⟨⟨A1,c1,rfl,_,_⟩,b1⟩
  rw [HE.out]
  generalize xs.length=nx
  go_wp2
  go_ret2
  exact ⟨by rw [HE.out];rfl,b1⟩
theorem k2g:y6j:=by
 intro t a cap wd w hc hN hsz ht
 by_cases hw:wd<10∨100<wd
 ·have HW:Hid (Calls Tryz.prog 17 #[.int .i64 wd] w fun e w'=>e = .returned (.iface 24 (.int .i64 1))∧w=w'):=v0n hw w
  have e1:z9r t wd=1:=by rw [z9r,if_pos hw]
  rw [z7f (by rw [e1];decide),e1]
  clear hN hsz ht e1 hw
  go_enter Tryz.func32,Tryz.ntmps32
  go_wp2_with fail
  refine HW.out.mono ?_
  rintro e w1 ⟨rfl,rfl⟩
  go_wp2
  go_ret2
  exact ⟨rfl,Below.refl _ _⟩
 ·obtain ⟨n,rfl⟩:∃ n:Nat,wd=(n:Int):=⟨wd.toNat,by omega⟩
  have hw1:10≤n:=by omega
  have hw2:n≤100:=by omega
  have HW:Hid (Calls Tryz.prog 17 #[.int .i64 (n:Int)] w fun e w'=>e = .returned .nilIface∧w=w'):=k5b hw1 hw2 w
  have HC:Hid (Calls Tryz.prog 51 #[.slice a t.length cap] w fun e w'=>e = .returned (q1f (q0c t))∧Below w.heap.size w w'):=q5u t a cap w hc hN hsz
  by_cases h0:q0c t=0
  ·obtain ⟨hpos,b,o,rfl,hb,c1,c2⟩:=k2i h0 hN
   have HCE:Hid (∀ W:World,Below w.heap.size w W→W.cell? ⟨b,o,none⟩=some (.int .i64 (opT t))):=fun W h=>((q0w h).1 _ _ hb).trans c1
   have hpi:(0:Int)<(t.length:Int):=by omega
   have e1:z9r t (n:Int)=pgE t:=z7e hw h0
   rw [h0] at HC
   by_cases h9:opT t=9
   ·have HPN:Hid (∀ W:World,Below w.heap.size w W→Calls Tryz.prog 52 #[.slice (some ⟨b,o,none⟩) t.length cap,.int .i64 (n:Int)] W fun e w'=>e = .returned (.tuple #[.string (wbS (q5b n t)),.nilIface])∧Below W.heap.size W w'):=fun W h=>j3x h0 h9 n hw1 hw2 _ cap W hc (hN.below h) hsz (ht.below h)
    rw [h9] at HCE
    rw [k2f (by rw [e1];exact k4y h9),e1,k4y h9,q0q]
    clear hN hsz ht e1 hw c1 c2 h0 h9
    generalize wbS (q5b n t)=S at HPN ⊢
    go_enter Tryz.func32,Tryz.ntmps32
    go_wp2_with fail
    refine HW.out.mono ?_
    rintro e w1 ⟨rfl,rfl⟩
    go_wp2_with fail
    refine HC.out.mono ?_
    rintro e w2 ⟨rfl,b2⟩
    rw [q0q]
    have c2:=HCE.out w2 b2
    have HB2:Hid (Below w.heap.size w w2):=b2
    clear b2
    go_wp2_with fail
    refine (HPN.out _ HB2.out).mono ?_
    rintro e w3 ⟨rfl,b3⟩
    have HB3:Hid (Below w.heap.size w w3):=q0j HB2.out (Nat.le_refl _) b3
    clear b3 c2
    go_wp2
    go_ret2
    exact ⟨rfl,HB3.out⟩
   ·have HPN:Hid (∀ W:World,Below w.heap.size w W→Calls Tryz.prog 53 #[.slice (some ⟨b,o,none⟩) t.length cap,.int .i64 (n:Int)] W fun e w'=>e = .returned (.tuple #[.string (j6z t (n:Int)),q1f (z9r t (n:Int))])∧Below W.heap.size W w'):=fun W h=>by
     have h1:=k6y h0 h9 n hw2 (some ⟨b,o,none⟩) cap W hc (hN.below h) hsz (ht.below h)
     have e2:(if pgE t=0 then wbS (q5b n t) else ⟨#[]⟩)=j6z t (n:Int):=by rw [j6z,e1];rfl
     rw [e2,←e1] at h1
     exact h1
    have h9b:(opT t == 9)=false:=by simp [h9]
    clear hN hsz ht e1 hw c1 c2 h0 h9
    generalize opT t=op0 at HCE h9b
    generalize j6z t (n:Int)=S at HPN ⊢
    generalize q1f (z9r t (n:Int))=E at HPN ⊢
    go_enter Tryz.func32,Tryz.ntmps32
    go_wp2_with fail
    refine HW.out.mono ?_
    rintro e w1 ⟨rfl,rfl⟩
    go_wp2_with fail
    refine HC.out.mono ?_
    rintro e w2 ⟨rfl,b2⟩
    rw [q0q]
    have c2:=HCE.out w2 b2
    have HB2:Hid (Below w.heap.size w w2):=b2
    clear b2
    go_wp2_with fail
    refine (HPN.out _ HB2.out).mono ?_
    rintro e w3 ⟨rfl,b3⟩
    have HB3:Hid (Below w.heap.size w w3):=q0j HB2.out (Nat.le_refl _) b3
    clear b3 c2
    go_wp2
    go_ret2
    exact ⟨rfl,HB3.out⟩
  ·have e1:z9r t (n:Int)=q0c t:=by rw [z9r,if_neg hw,if_pos h0]
   rw [z7f (by rw [e1];exact h0),e1]
   have HE:Hid (q1f (q0c t) = .iface 24 (.int .i64 (q0c t))):=q0h h0
   generalize q1f (q0c t)=E at HC HE ⊢
   generalize q0c t=z at HE
   clear hN hsz ht e1 hw h0
   go_enter Tryz.func32,Tryz.ntmps32
   go_wp2_with fail
   refine HW.out.mono ?_
   rintro e w1 ⟨rfl,rfl⟩
   go_wp2_with fail
   refine HC.out.mono ?_
   rintro e w2 ⟨rfl,b2⟩
   rw [HE.out]
   go_wp2
   go_ret2
   exact ⟨by rw [HE.out];rfl,b2⟩
structure j7a (ps:List (List Td)) (n:Nat) (w0:World) (i:Nat) (wr:World):Prop where
 le:i≤ps.length
 z:fmE (ps.drop i)=fmE ps
 x:IsX 83 w0.heap.size w0.heap.size (Lib.byteCells (q7y n (ps.take i))) [] wr
 bl:Below w0.heap.size w0 wr
 ln:(q7y n (ps.take i)).length≤i*2000001
theorem y1i:z0g 83 2:=by unfold z0g;kernel_rfl
theorem y6e:83≠5:=by decide
theorem k5a {s:ByteArray} {ps:List (List Td)} {k:Int} (h:q6i s ps k 0):∀ t∈ps,z4c t:=fun t ht x hx=>Nat.le_trans (j4a (z7h h).2.1 t ht x hx) (by decide)
theorem k4w {ps:List (List Td)} {i:Nat} (h:i<ps.length):ps.drop i=ps[i]::ps.drop (i+1):=List.drop_eq_getElem_cons h
theorem k4x {ps:List (List Td)} {i:Nat} (wd:Nat) (h:i<ps.length):q7y wd (ps.take (i+1))=q7y wd (ps.take i)++q5b wd ps[i]:=by
 rw [q7y,List.take_succ_eq_append_getElem h,List.flatMap_append]
 simp [q7y]
theorem v6b:y6c:=by
 intro s wd w ht
 by_cases hw:wd<10∨100<wd
 ·have HW:Hid (Calls Tryz.prog 17 #[.int .i64 wd] w fun e w'=>e = .returned (.iface 24 (.int .i64 1))∧w=w'):=v0n hw w
  have HR:Hid (z2k s wd w (.returned (.tuple #[.string ⟨#[]⟩,.int .i64 0,q1f 1])) w):=⟨_,_,_,rfl,.range hw,Below.refl _ _⟩
  clear ht hw
  go_enter Tryz.func16,Tryz.ntmps16
  go_wp2_with fail
  refine HW.out.mono ?_
  rintro e w1 ⟨rfl,rfl⟩
  go_wp2
  go_ret3
  exact HR.out
 ·obtain ⟨n,rfl⟩:∃ n:Nat,wd=(n:Int):=⟨wd.toNat,by omega⟩
  have hw1:10≤n:=by omega
  have hw2:n≤100:=by omega
  have HNW:Hid (¬ ((n:Int)<10∨100<(n:Int))):=hw
  have HW:Hid (Calls Tryz.prog 17 #[.int .i64 (n:Int)] w fun e w'=>e = .returned .nilIface∧w=w'):=k5b hw1 hw2 w
  have HSY:Hid (Calls Tryz.prog 30 #[.string s] w fun e w'=>∃ ps k f A c,e = .returned (.tuple #[.slice A ps.length c,.int .i64 k,q1f f])∧q6i s ps k f∧Prg w' A ps∧ps.length≤c∧Below w.heap.size w w'):=z1p s w ht
  have HT:Hid (q7d w):=ht
  clear ht hw
  go_enter Tryz.func16,Tryz.ntmps16
  go_wp2_with fail
  refine HW.out.mono ?_
  rintro e w1 ⟨rfl,rfl⟩
  go_wp2_with fail
  refine HSY.out.mono ?_
  rintro e w2 ⟨ps,k,f,A,c,rfl,hR,hP,_,b2⟩
  have HB2:Hid (Below w.heap.size w w2):=b2
  by_cases hf:f=0
  ·subst hf
   obtain ⟨rfl,_,hl20,hall⟩:=z7h hR
   have HNI:=(show Hid (∀ t∈ps,z4c t) from k5a hR)
   have HALL:Hid (∀ t∈ps,q0c t=0):=hall
   have HRR:Hid (q6i s ps 0 0):=hR
   have HP:Hid (Prg w2 A ps):=hP
   have HT2:Hid (q7d w2):=HT.out.below b2
   have HS0:Hid (j7a ps n w2 0 (w2.alloc (.cells #[.pointer none,.slice none 0 0] 83))):=⟨Nat.zero_le _,rfl,IsX.fresh 83 w2 [],q1j w2 _,by simp [q7y]⟩
   rw [q0q]
   clear hR hP b2 hall
   generalize hnp:ps.length=np at hl20 ⊢
   have HNP:Hid (ps.length=np):=hnp
   clear hnp
   go_wp2_with fail
   go_loopw [31] (fun x wr=>∃ i:Nat,x = .int .i64 (i:Int)∧j7a ps n w2 i wr) (fun x _=>np - (intOf x).toNat)
   case atStart=>exact ⟨0,rfl,HS0.out⟩
   case round=>
    obtain ⟨i,rfl,hV⟩:=hrel
    have hll:=HNP.out
    have hle:=hV.le
    have hln:=hV.ln
    by_cases hlt:i<np
    ·have hii:(i:Int)<(np:Int):=by omega
     have hip:i<ps.length:=by omega
     obtain ⟨b0,o0,A0,c0,rfl,hb0,d0,hc0,hT0⟩:=(HP.out.below hV.bl) i hip
     have ht0:=HALL.out ps[i] (List.getElem_mem _)
     have HO1:Hid (Calls Tryz.prog 32 #[.slice A0 ps[i].length c0,.int .i64 (n:Int)] wr fun e w'=>e = .returned (.tuple #[.string (j6z ps[i] (n:Int)),q1f (z9r ps[i] (n:Int))])∧Below wr.heap.size wr w'):=k2g ps[i] A0 c0 (n:Int) wr hc0 hT0 (HNI.out ps[i] (List.getElem_mem _)) (HT2.out.below hV.bl)
     have e1:z9r ps[i] (n:Int)=pgE ps[i]:=z7e HNW.out ht0
     have hdr:=k4w hip
     have hz0:=hV.z
     rw [hdr] at hz0
     have HZ:=(show Hid (_=_) from hz0)
     have HFO:=(show Hid (_=_) from k4x (ps:=ps) n hip)
     have HV:Hid (j7a ps n w2 i wr):=hV
     by_cases hz:pgE ps[i]=0
     ·have hol:=j3m ht0 hz n
      rw [k2f (by rw [e1];exact hz),e1,hz,q0q] at HO1
      have HNX:Hid (∀ W,Below wr.heap.size wr W→Calls Tryz.prog 33 #[.pointer (some ⟨w2.heap.size,0,none⟩),.string (wbS (q5b n ps[i]))] W fun e w'=>(∃ z,e = .returned (.tuple #[z,.nilIface]))∧j7a ps n w2 (i+1) w'):=fun W hb=>by
       have hsz:=hV.bl.size
       refine (q5z 83 w2.heap.size w2.heap.size (Lib.byteCells (q7y n (ps.take i))) [] (wbS (q5b n ps[i])) W y1i y6e (hV.x.grew hb) (by rw [Lib.byteCells_length,k0h];omega) (by have:=hb.size;omega)).mono ?_
       rintro e w' ⟨rfl,q1,q2,_⟩
       refine ⟨⟨_,rfl⟩,by omega,?_,?_,?_,?_⟩
       ·have:=HZ.out
        rw [q9f hz] at this
        exact this
       ·rw [HFO.out,q2s]
        exact q1
       ·exact (q0j hV.bl (Nat.le_refl _) hb).trans (q2.below (Nat.le_refl _))
       ·rw [HFO.out,List.length_append]
        omega
      clear hV hdr hz0 ht0 hT0 hc0 e1 hz hol HZ HFO
      generalize wbS (q5b n ps[i])=S at HO1 HNX
      generalize ps[i].length=tn at d0 HO1
      go_wp2_with fail
      refine HO1.out.mono ?_
      rintro e w3 ⟨rfl,b3⟩
      have HB3:Hid (Below wr.heap.size wr w3):=b3
      clear b3
      go_wp2_with fail
      refine (HNX.out _ HB3.out).mono ?_
      rintro e w4 ⟨⟨q,rfl⟩,h4⟩
      have HX4:Hid (j7a ps n w2 (i+1) w4):=h4
      clear h4
      go_wp2
      refine ⟨⟨i+1,by go_num,HX4.out⟩,?_⟩
      simp [intOf];omega
     ·have HR:Hid (∀ W,Below wr.heap.size wr W→z2k s (n:Int) w (.returned (.tuple #[.string ⟨#[]⟩,.int .i64 0,q1f (pgE ps[i])])) W):=fun W hb=>by
       have q:=HZ.out
       rw [j1b hz] at q
       have q2:=k3c.full HNW.out HRR.out (by rw [←q];exact hz)
       rw [←q] at q2
       exact ⟨_,_,_,rfl,q2,q0j HB2.out (Nat.le_refl _) (q0j hV.bl (Nat.le_refl _) hb)⟩
      have HE:=(show Hid (_=_) from q0h hz)
      rw [z7f (by rw [e1];exact hz),e1] at HO1
      clear hV hdr hz0 ht0 hT0 hc0 e1 hz HZ HFO
      generalize q1f (pgE ps[i])=E at HO1 HR HE
      generalize pgE ps[i]=z at HE
      generalize ps[i].length=tn at d0 HO1
      go_wp2_with fail
      refine HO1.out.mono ?_
      rintro e w3 ⟨rfl,b3⟩
      have HR3:Hid (z2k s (n:Int) w (.returned (.tuple #[.string ⟨#[]⟩,.int .i64 0,E])) w3):=HR.out w3 b3
      clear b3
      rw [HE.out]
      go_wp2
      go_ret3
      rw [←HE.out]
      exact HR3.out
    ·have hii:¬ (i:Int)<(np:Int):=by omega
     have hie:ps.take i=ps:=List.take_of_length_le (by omega)
     have hid:ps.drop i=[]:=List.drop_eq_nil_of_le (by omega)
     have hz:=hV.z
     rw [hid] at hz
     have hx:=hV.x
     rw [hie] at hx
     have HO:Hid (Calls Tryz.prog 34 #[.pointer (some ⟨w2.heap.size,0,none⟩)] wr fun e w'=>e = .returned (.string (wbS (q7y n ps)))∧Below w2.heap.size wr w'):=z2i _ _ _ _ _ _ hx
     have HR:Hid (∀ W,Below w2.heap.size wr W→z2k s (n:Int) w (.returned (.tuple #[.string (wbS (q7y n ps)),.int .i64 0,q1f 0])) W):=fun W hb=>⟨_,_,_,rfl,.ok HNW.out HRR.out hz.symm,q0j HB2.out (Nat.le_refl _) (hV.bl.trans hb)⟩
     clear hV hie hid hz hx
     generalize wbS (q7y n ps)=S at HO HR
     go_wp2_with fail
     refine HO.out.mono ?_
     rintro e w3 ⟨rfl,b3⟩
     have HR3:Hid (z2k s (n:Int) w (.returned (.tuple #[.string S,.int .i64 0,q1f 0])) w3):=HR.out w3 b3
     clear b3
     go_wp2
     go_ret3
     exact HR3.out
  ·have HR:Hid (z2k s (n:Int) w (.returned (.tuple #[.string ⟨#[]⟩,.int .i64 k,q1f f])) w2):=⟨_,_,_,rfl,.bad HNW.out hR hf,b2⟩
   have HE:=(show Hid (_=_) from q0h hf)
   generalize q1f f=E at HR HE ⊢
   clear hR hP b2 hf
   rw [HE.out]
   generalize ps.length=np
   go_wp2
   go_ret3
   rw [←HE.out]
   exact HR.out
end Go.Proofs.YtchdplceopegoaaGreatDoor
