/- Texts as one: DkS, DkL, LawDeskSame, As, Told, OpenT, OpenS, Laid, LaidS. -/
/- Texts as one: LaidF. -/
import Derived.Test.YtchdplceopegoaaGreatDoorPs49
import Derived.KernelRfl
import Derived.LaidEql
import Derived.Stop.Asserts
import Derived.RowKitTokens
import Derived.Test.YtchdplceopegoaaGreatDoorRows
import Derived.Deep.Slices
import Derived.RowKit
import Derived.SizedLaws
import Derived.ChangeSame
import Derived.ChangeVars
import Derived.JoinedOf
import Derived.LaidLaws
import Derived.LaidHandle
import Derived.Stop.Joined
import Derived.Lay
import Derived.LaidMore
import Derived.LaidSub
import Derived.LaidOnce
namespace Go.Proofs.YtchdplceopegoaaGreatDoor
open Go Go.RowKit Go.Maps
set_option maxRecDepth 100000
set_option maxHeartbeats 4000000
inductive v4n (s:ByteArray) (old:List (List Td)):List (List Td)→Nat→Int→Int→Prop where
 | bad {ps k f} (hp:q6i s ps k f) (hf:f≠0):v4n s old old 0 k f
 | full {ps} (hp:q6i s ps 0 0) (hf:fmE ps≠0):v4n s old old 0 0 (fmE ps)
 | ok {ps} (hp:q6i s ps 0 0) (hf:fmE ps=0):v4n s old ps (frP ps old) 0 0
inductive y4o (n:Nat) (wd:Int):Nat→Int→Prop where
 | no (h:wd<10∨100<wd):y4o n wd n 1
 | ok {m:Nat} (h:wd=(m:Int)) (h1:10≤m) (h2:m≤100):y4o n wd m 0
theorem ShM.fresh (w:World) {n:Nat} (hw1:10≤n) (hw2:n≤100):ShM w (.slice none 0 0) (.map none) [] n:=
 ⟨fun t ht=>by simp at ht,fun t ht=>by simp at ht,fun t ht=>by simp at ht,by simp,hw1,hw2,⟨none,0,rfl,z2p.nil _ _ _⟩,.inl ⟨rfl,rfl⟩⟩
theorem q3o.fresh (T:TypeId) (w:World) {n:Nat} (hw1:10≤n) (hw2:n≤100):q3o T (w.alloc (.cells #[.int .i64 (n:Int),.slice none 0 0,.map none] T)) w.heap.size [] n:=
 ⟨_,_,by show (w.heap.push _)[w.heap.size]? = _;simp,ShM.fresh _ hw1 hw2⟩
theorem j0e {n:Nat} (hw1:10≤n) (hw2:n≤100) (w:World) :
  Calls Tryz.prog 7 #[.int .i64 (n:Int)] w fun e w'=>e = .returned (.tuple #[.pointer (some ⟨w.heap.size,0,none⟩),.nilIface])∧q3o 56 w' w.heap.size [] n∧Below w.heap.size w w':=by
 have HW:Hid (Calls Tryz.prog 17 #[.int .i64 (n:Int)] w fun e w'=>e = .returned .nilIface∧w=w'):=k5b hw1 hw2 w
 go_enter Tryz.func7,Tryz.ntmps7
 go_wp2_with fail
 refine HW.out.mono ?_
 rintro e w1 ⟨rfl,rfl⟩
 go_wp2
 go_ret2
 exact ⟨rfl,q3o.fresh _ w hw1 hw2,q1j w _⟩
theorem v5v {wd:Int} (h:wd<10∨100<wd) (w:World) :
  Calls Tryz.prog 7 #[.int .i64 wd] w fun e w'=>e = .returned (.tuple #[.pointer none,.iface 24 (.int .i64 1)])∧w=w':=by
 have HW:Hid (Calls Tryz.prog 17 #[.int .i64 wd] w fun e w'=>e = .returned (.iface 24 (.int .i64 1))∧w=w'):=v0n h w
 clear h
 go_enter Tryz.func7,Tryz.ntmps7
 go_wp2_with fail
 refine HW.out.mono ?_
 rintro e w1 ⟨rfl,rfl⟩
 go_wp2
 go_ret2
 exact ⟨rfl,rfl⟩
theorem q9b {T:TypeId} {qs:List (List Td)} {n b:Nat} (w:World) (hS:q3o T w b qs n) :
  Calls Tryz.prog 14 #[.pointer (some ⟨b,0,none⟩)] w fun e w'=>e = .returned (.string (wbS (q7y n qs)))∧Below w.heap.size w w':=by
 have HD:Hid (Calls Tryz.prog 31 #[.pointer (some ⟨b,0,none⟩)] w fun e w'=>e = .returned (.string (wbS (q7y n qs)))∧Below w.heap.size w w'):=j0i qs n b w hS
 clear hS
 generalize wbS (q7y n qs)=S at HD ⊢
 go_enter Tryz.func14,Tryz.ntmps14
 go_wp2_with fail
 refine HD.out.mono ?_
 rintro e w1 ⟨rfl,b1⟩
 go_wp2
 go_ret
 exact ⟨rfl,b1⟩
theorem k6a {T:TypeId} {qs:List (List Td)} {n b:Nat} (w:World) (hS:q3o T w b qs n) :
  Calls Tryz.prog 15 #[.pointer (some ⟨b,0,none⟩)] w fun e w'=>e = .returned (.int .i64 (n:Int))∧w=w':=by
 obtain ⟨oA,oc,m,s0,_⟩:=hS.cell
 clear hS
 go_enter Tryz.func15,Tryz.ntmps15
 go_wp2
 go_ret
 exact ⟨rfl,rfl⟩
theorem z2e {T:TypeId} (s:ByteArray) (old:List (List Td)) (n d:Nat) (w:World) (hS:q3o T w d old n) (ht:q7d w) :
  Calls Tryz.prog 13 #[.pointer (some ⟨d,0,none⟩),.string s] w fun e w'=>∃ qs x k f,e = .returned (.tuple #[.int .i64 (x:Nat),.int .i64 k,q1f f])∧v4n s old qs x k f∧q3o T w' d qs n∧q0i w.heap.size d w w':=by
 have HS:Hid (q3o T w d old n):=hS
 have HT:Hid (q7d w):=ht
 have HSY:Hid (Calls Tryz.prog 30 #[.string s] w fun e w'=>∃ ps k f A c,e = .returned (.tuple #[.slice A ps.length c,.int .i64 k,q1f f])∧q6i s ps k f∧Prg w' A ps∧ps.length≤c∧Below w.heap.size w w'):=z1p s w ht
 clear hS ht
 go_enter Tryz.func13,Tryz.ntmps13
 go_wp2_with fail
 refine HSY.out.mono ?_
 rintro e w2 ⟨ps,k,f,A,c,rfl,hR,hP,_,b2⟩
 have HB2:Hid (Below w.heap.size w w2):=b2
 have HS2:Hid (q3o T w2 d old n):=HS.out.below b2
 by_cases hf:f=0
 ·subst hf
  obtain ⟨rfl,_,hl20,hall⟩:=z7h hR
  have HF:Hid (Calls Tryz.prog 20 #[.pointer (some ⟨d,0,none⟩),.slice A ps.length c] w2 fun e w'=>k8d ps old n w2 e w'):=z4q old ps n d A c w2 HS2.out hP hall (k5a hR) hl20 (HT.out.below b2)
  have HR:Hid (q6i s ps 0 0):=hR
  rw [q0q]
  clear hP b2 hall hR HSY
  generalize ps.length=np at HF ⊢
  go_wp2_with fail
  refine HF.out.mono ?_
  rintro e w3 ⟨b3,h3⟩
  have HS3:Hid (q3o T w3 d old n):=HS2.out.below b3
  have HB3:Hid (Below w.heap.size w w3):=q0j HB2.out (Nat.le_refl _) b3
  clear b3
  rcases h3 with ⟨hz,ov,mv,rfl,hM⟩ | ⟨hz,rfl⟩
  ·have HM:Hid (ShM w3 ov mv ps n):=hM
   obtain ⟨A3,c3,rfl,_⟩:=hM.ord
   obtain ⟨m3,rfl⟩:∃ m3,mv = .map m3:=by
    rcases hM.kn with ⟨rfl,_⟩ | ⟨b,rfl,_⟩
    ·exact ⟨_,rfl⟩
    ·exact ⟨_,rfl⟩
   have HS4:Hid (q3o T (w3.alloc (.cells #[.int .i64 (n:Int),.slice A3 ps.length c3,.map m3] 54)) d old n):=HS3.out.below (q1j w3 _)
   have HM4:Hid (ShM (w3.alloc (.cells #[.int .i64 (n:Int),.slice A3 ps.length c3,.map m3] 54)) (.slice A3 ps.length c3) (.map m3) ps n):=hM.below (q1j w3 _)
   have HB4:Hid (Below w.heap.size w (w3.alloc (.cells #[.int .i64 (n:Int),.slice A3 ps.length c3,.map m3] 54))):=HB3.out.trans ((q1j w3 _).mono HB3.out.size)
   have HZ:Hid (fmE ps=0):=hz
   obtain ⟨oA,oc,om,s0,s1,s2,sf,_,_⟩:=HS4.out.cell
   have sf0:=sf 0
   have sf1:=sf 1
   have sf2:=sf 2
   clear hM hz HF sf
   go_wp2
   go_ret3
   obtain ⟨q1,q2⟩:=HS4.out.put HM4.out
   exact ⟨ps,_,0,0,rfl,.ok HR.out HZ.out,q1,(q0i.of HB4.out).trans (q2.mono HB4.out.size)⟩
  ·have HZ:Hid (fmE ps≠0):=hz
   have HE:Hid (q1f (fmE ps) = .iface 24 (.int .i64 (fmE ps))):=q0h hz
   rw [HE.out]
   clear hz HF
   go_wp2
   go_ret3
   exact ⟨old,0,0,fmE ps,by rw [HE.out];rfl,.full HR.out HZ.out,HS3.out.below (q1j w3 _),q0i.of (HB3.out.trans ((q1j w3 _).mono HB3.out.size))⟩
 ·have HE:Hid (q1f f = .iface 24 (.int .i64 f)):=q0h hf
  have HR:Hid (q6i s ps k f∧f≠0):=⟨hR,hf⟩
  rw [HE.out]
  clear hR hP b2 hf HSY
  generalize ps.length=np
  go_wp2
  go_ret3
  exact ⟨old,0,k,f,by rw [HE.out];rfl,.bad HR.out.1 HR.out.2,HS2.out,q0i.of HB2.out⟩
theorem j0j {T:TypeId} (wd:Int) (old:List (List Td)) (n d:Nat) (w:World) (hS:q3o T w d old n) (ht:q7d w) :
  Calls Tryz.prog 10 #[.pointer (some ⟨d,0,none⟩),.int .i64 wd] w fun e w'=>∃ m f,e = .returned (q1f f)∧y4o n wd m f∧q3o T w' d old m∧q0i w.heap.size d w w':=by
 have HS:Hid (q3o T w d old n):=hS
 have HT:Hid (q7d w):=ht
 clear ht
 by_cases hw:wd<10∨100<wd
 ·have HW:Hid (Calls Tryz.prog 17 #[.int .i64 wd] w fun e w'=>e = .returned (.iface 24 (.int .i64 1))∧w=w'):=v0n hw w
  have HWW:Hid (wd<10∨100<wd):=hw
  clear hw hS
  go_enter Tryz.func10,Tryz.ntmps10
  go_wp2_with fail
  refine HW.out.mono ?_
  rintro e w1 ⟨rfl,rfl⟩
  go_wp2
  go_ret
  exact ⟨n,1,rfl,.no HWW.out,HS.out,q0i.refl _ _ _⟩
 ·obtain ⟨m,rfl⟩:∃ m:Nat,wd=(m:Int):=⟨wd.toNat,by omega⟩
  have hw1:10≤m:=by omega
  have hw2:m≤100:=by omega
  obtain ⟨_,_,_,hSM⟩:=hS
  have HOK:Hid (∀ t∈old,q0c t=0):=hSM.ok
  have HNI:Hid (∀ t∈old,z4c t):=hSM.ni
  have HFE:Hid (fmE old=0):=k1l old hSM.pg
  have hl20:=hSM.len
  have HW:Hid (Calls Tryz.prog 17 #[.int .i64 (m:Int)] w fun e w'=>e = .returned .nilIface∧w=w'):=k5b hw1 hw2 w
  have HS1:Hid (q3o T (w.alloc (.cells #[.int .i64 (m:Int),.slice none 0 0,.map none] 54)) d old n):=HS.out.below (q1j w _)
  have HPR:Hid (Calls Tryz.prog 21 #[.pointer (some ⟨d,0,none⟩)] (w.alloc (.cells #[.int .i64 (m:Int),.slice none 0 0,.map none] 54)) fun e w'=>(∃ A c,e = .returned (.slice A old.length c)∧Prg w' A old∧old.length≤c)∧Below (w.alloc (.cells #[.int .i64 (m:Int),.slice none 0 0,.map none] 54)).heap.size (w.alloc (.cells #[.int .i64 (m:Int),.slice none 0 0,.map none] 54)) w'):=z8m old n d _ HS1.out
  have HBK:Hid (q3o 54 (w.alloc (.cells #[.int .i64 (m:Int),.slice none 0 0,.map none] 54)) w.heap.size [] m):=q3o.fresh _ w hw1 hw2
  have HB1:Hid (Below w.heap.size w (w.alloc (.cells #[.int .i64 (m:Int),.slice none 0 0,.map none] 54))):=q1j w _
  clear hSM hw
  go_enter Tryz.func10,Tryz.ntmps10
  go_wp2_with fail
  refine HW.out.mono ?_
  rintro e w1 ⟨rfl,rfl⟩
  go_wp2_with fail
  refine HPR.out.mono ?_
  rintro e w2 ⟨⟨A2,c2,rfl,hP2,_⟩,b2⟩
  have HS2:Hid (q3o T w2 d old n):=HS1.out.below b2
  have HBK2:Hid (q3o 54 w2 w.heap.size [] m):=HBK.out.below b2
  have HB2:Hid (Below w.heap.size w w2):=z1k (Below.refl _ _) (Nat.le_refl _) b2
  have HF:Hid (Calls Tryz.prog 20 #[.pointer (some ⟨w.heap.size,0,none⟩),.slice A2 old.length c2] w2 fun e w'=>k8d old [] m w2 e w'):=z4q [] old m w.heap.size A2 c2 w2 HBK2.out hP2 HOK.out HNI.out hl20 (HT.out.below HB2.out)
  clear b2 hP2 HPR HBK HS1 HB1 HW
  generalize hno:old.length=no at HF ⊢
  have HNO:Hid (old.length=no):=hno
  clear hno
  go_wp2_with fail
  refine HF.out.mono ?_
  rintro e w3 ⟨b3,h3⟩
  have HS3:Hid (q3o T w3 d old n):=HS2.out.below b3
  have HB3:Hid (Below w.heap.size w w3):=q0j HB2.out (Nat.le_refl _) b3
  clear b3
  rcases h3 with ⟨_,ov,mv,rfl,hM⟩ | ⟨hz,rfl⟩
  ·obtain ⟨A3,c3,rfl,_⟩:=hM.ord
   obtain ⟨m3,rfl⟩:∃ m3,mv = .map m3:=by
    rcases hM.kn with ⟨rfl,_⟩ | ⟨b,rfl,_⟩
    ·exact ⟨_,rfl⟩
    ·exact ⟨_,rfl⟩
   rw [HNO.out] at hM
   have HS4:Hid (q3o T (w3.alloc (.cells #[.int .i64 (m:Int),.slice A3 no c3,.map m3] 54)) d old n):=HS3.out.below (q1j w3 _)
   have HM4:Hid (ShM (w3.alloc (.cells #[.int .i64 (m:Int),.slice A3 no c3,.map m3] 54)) (.slice A3 no c3) (.map m3) old m):=hM.below (q1j w3 _)
   have HB4:Hid (Below w.heap.size w (w3.alloc (.cells #[.int .i64 (m:Int),.slice A3 no c3,.map m3] 54))):=HB3.out.trans ((q1j w3 _).mono HB3.out.size)
   obtain ⟨oA,oc,om,s0,s1,s2,sf,_,_⟩:=HS4.out.cell
   have sf0:=sf 0
   have sf1:=sf 1
   have sf2:=sf 2
   rw [HNO.out]
   clear hM HF sf
   go_wp2
   go_ret
   obtain ⟨q1,q2⟩:=HS4.out.put HM4.out
   exact ⟨m,0,rfl,.ok rfl hw1 hw2,q1,(q0i.of HB4.out).trans (q2.mono HB4.out.size)⟩
  ·exact absurd HFE.out hz
end Go.Proofs.YtchdplceopegoaaGreatDoor
namespace Go.Proofs.YtchdplceopegoaaGreatDoor
open Go Go.RowKit
def fxA:List Td:=[⟨8,⟨#[]⟩,0⟩,⟨2,⟨#[97]⟩,0⟩]
def fxB:List Td:=[⟨8,⟨#[]⟩,0⟩,⟨2,⟨#[98]⟩,0⟩]
abbrev y5a:ByteArray:=⟨#[97,59,98,59,97,59]⟩
abbrev y4d:ByteArray:=⟨#[97,59,10,98,59,10,97,59,10]⟩
theorem v2y:(q0p [fxA,fxB,fxA]).2=0:=by decide +kernel
theorem v6d:q6i y5a [fxA,fxB,fxA] 0 0:=by
 refine .ok (by decide +kernel) ?_ v2y
 have h:=z2g [fxA,fxB,fxA] 0 false [] (q8k v2y).2 (fun h=>by cases h)
 have e:[fxA,fxB,fxA].flatMap q6c=q2x (btL y5a):=by decide +kernel
 rw [e] at h
 exact h
theorem y5b:fmE [fxA,fxB,fxA]=0:=by decide +kernel
theorem y5d:frP [fxA,fxB,fxA] []=2:=by decide +kernel
theorem y5c:q7y 40 [fxA,fxB,fxA]=btL y4d:=by decide +kernel
theorem j4j {s:ByteArray} {ps:List (List Td)} (hp:q6i s ps 0 0) (he:fmE ps=0) {old qs:List (List Td)} {x:Nat} {k f:Int} (h:v4n s old qs x k f):qs=ps∧x=frP ps old∧k=0∧f=0:=by
 cases h with
 | bad h1 h2=>exact absurd (q1m h1 hp).2.2 h2
 | full h1 h2=>
  obtain ⟨rfl,_⟩:=q1m h1 hp
  exact absurd he h2
 | ok h1 h2=>
  obtain ⟨rfl,_⟩:=q1m h1 hp
  exact ⟨rfl,rfl,rfl,rfl⟩
theorem j4k {s:ByteArray} {old qs:List (List Td)} {x:Nat} {k:Int} (h:v4n s old qs x k 0):q6i s qs 0 0∧fmE qs=0∧x=frP qs old∧k=0:=by
 generalize hz:(0:Int)=z at h
 cases h with
 | bad h1 h2=>exact absurd hz.symm h2
 | full h1 h2=>exact absurd hz.symm h2
 | ok h1 h2=>exact ⟨hz ▸ h1,h2,rfl,by omega⟩
theorem v0u {s:ByteArray} {old qs:List (List Td)} {x:Nat} {k f:Int} (h:v4n s old qs x k f) (hf:f≠0):qs=old∧x=0:=by
 cases h with
 | bad=>exact ⟨rfl,rfl⟩
 | full=>exact ⟨rfl,rfl⟩
 | ok=>exact absurd rfl hf
theorem j8r {s:ByteArray} {qs:List (List Td)} {n:Nat} (hp:q6i s qs 0 0) (he:fmE qs=0) (h1:10≤n) (h2:n≤100) {T:ByteArray} {k f:Int} (h:k3c s (n:Int) T k f):T=wbS (q7y n qs)∧k=0∧f=0:=
 j8q h (k3c.ok (z7a h1 h2) hp he)
theorem q8u {w0 w w':World} {d:Nat} (h:Below w0.heap.size w0 w) (hx:q0i w.heap.size d w w') (hd:w0.heap.size≤d):Below w0.heap.size w0 w':=h.trans ((hx.mono h.size).below hd)
set_option maxRecDepth 100000
set_option maxHeartbeats 8000000
theorem z8k (hF:y6c) (wd:Int) (l:List Td) (a:Option Addr) (cap:Nat) (s:ByteArray) (w:World) (hN:Tds w a l) (ht:q7d w) :
  Calls Tryz.prog 4 #[.int .i64 wd,.slice a l.length cap,.string s] w fun e w'=>e = .returned (.bool true)∧Below w.heap.size w w':=by
 have HT:Hid (∀ W,Below w.heap.size w W→q7d W):=fun W h=>ht.below h
 have HFM:Hid (∀ (W:World) (s:ByteArray) (wd:Int),Below w.heap.size w W→Calls Tryz.prog 16 #[.string s,.int .i64 wd] W fun e w'=>∃ T k f,e = .returned (.tuple #[.string T,.int .i64 k,q1f f])∧k3c s wd T k f∧Below W.heap.size W w'):=fun W s wd h=>hF s wd W (ht.below h)
 have HNN:Hid (Tds w a l):=hN
 have hxo:(y4d.toList != y4d.toList)=false:=by simp
 clear hF ht hN
 generalize hnl:l.length=nl
 have HNL:Hid (l.length=nl):=hnl
 clear hnl
 go_enter Tryz.func4,Tryz.ntmps4
 go_wp2_with fail
 refine (j0e (n:=40) (by decide) (by decide) w).mono ?_
 rintro e w1 ⟨rfl,hS1,b1⟩
 have HS1:Hid (q3o 56 w1 w.heap.size [] 40):=hS1
 have HB1:Hid (Below w.heap.size w w1):=b1
 clear hS1 b1
 go_wp2_with fail
 refine (z2e y5a [] 40 w.heap.size w1 HS1.out (HT.out _ HB1.out)).mono ?_
 rintro e w2 ⟨qs,x,k,f,rfl,hR,hS2,b2⟩
 obtain ⟨rfl,rfl,rfl,rfl⟩:=j4j v6d y5b hR
 have HS2:Hid (q3o 56 w2 w.heap.size [fxA,fxB,fxA] 40):=hS2
 have HB2:Hid (Below w.heap.size w w2):=q8u HB1.out b2 (Nat.le_refl _)
 rw [q0q,y5d]
 clear hS2 b2 hR HS1 HB1
 have HTX2:Hid (Calls Tryz.prog 14 #[.pointer (some ⟨w.heap.size,0,none⟩)] w2 fun e w'=>e = .returned (.string y4d)∧Below w2.heap.size w2 w'):=by
  have h1:=q9b w2 HS2.out
  rw [y5c] at h1
  exact h1
 go_wp2_with fail
 refine HTX2.out.mono ?_
 rintro e w3 ⟨rfl,b3⟩
 have HB3:Hid (Below w.heap.size w w3):=q0j HB2.out (Nat.le_refl _) b3
 clear b3 HB2 HTX2 HS2
 by_cases hw:wd<10∨100<wd
 ·have HN:Hid (Calls Tryz.prog 7 #[.int .i64 wd] w3 fun e w'=>e = .returned (.tuple #[.pointer none,.iface 24 (.int .i64 1)])∧w3=w'):=v5v hw w3
  by_cases hw1:wd<10
  ·clear hw
   go_wp2_with fail
   refine HN.out.mono ?_
   rintro e w4 ⟨rfl,rfl⟩
   go_wp2
   go_ret
   exact ⟨rfl,HB3.out⟩
  ·have hw2:100<wd:=by omega
   clear hw
   go_wp2_with fail
   refine HN.out.mono ?_
   rintro e w4 ⟨rfl,rfl⟩
   go_wp2
   go_ret
   exact ⟨rfl,HB3.out⟩
 ·obtain ⟨n0,rfl⟩:∃ n:Nat,wd=(n:Int):=⟨wd.toNat,by omega⟩
  have hw1:10≤n0:=by omega
  have hw2:n0≤100:=by omega
  clear hw
  go_wp2_with fail
  refine (j0e hw1 hw2 w3).mono ?_
  rintro e w4 ⟨rfl,hS4,b4⟩
  have HS4:Hid (q3o 56 w4 w3.heap.size [] n0):=hS4
  have HB4:Hid (Below w.heap.size w w4):=q0j HB3.out (Nat.le_refl _) b4
  generalize hd:w3.heap.size=d at HS4 ⊢
  have HD:Hid (w.heap.size≤d):=(show w.heap.size≤d by rw [←hd];exact HB3.out.size)
  clear hS4 b4 hd HB3
  go_wp2_with fail
  go_loopw [13] (fun x wr=>∃ (i:Nat) (qs:List (List Td)) (n:Nat),x = .int .i64 (i:Int)∧i≤12∧q3o 56 wr d qs n∧Below w.heap.size w wr) (fun x _=>12 - (intOf x).toNat)
  case atStart=>exact ⟨0,[],n0,rfl,by omega,HS4.out,HB4.out⟩
  case round=>
   clear HS4 HB4
   obtain ⟨i,qs,n,rfl,hi12,hS,hB⟩:=hrel
   have HS:Hid (q3o 56 wr d qs n):=hS
   have HB:Hid (Below w.heap.size w wr):=hB
   have hll:=HNL.out
   by_cases hgo:i<nl∧i<12
   ·have hi1:(i:Int)<(nl:Int):=by omega
    have hi2:(i:Int)<12:=by omega
    have hil:i<l.length:=by omega
    obtain ⟨b0,o0,rfl,hb0,d0,d1,d2⟩:=HNN.out.below hB i hil
    by_cases h0:l[i].op=0
    ·rw [h0] at d0
     clear hS hB h0
     generalize l[i].n=N at d2
     go_wp2_with fail
     refine (j0j N qs n d wr HS.out (HT.out _ HB.out)).mono ?_
     rintro e w5 ⟨m,g,rfl,_,hS5,b5⟩
     have HS5:Hid (q3o 56 w5 d qs m):=hS5
     have HB5:Hid (Below w.heap.size w w5):=q8u HB.out b5 HD.out
     generalize q1f g=G
     clear hS5 b5
     go_wp2
     refine ⟨⟨i+1,qs,m,by go_num,by omega,HS5.out,HB5.out⟩,?_⟩
     simp [intOf];omega
    ·have h0b:(l[i].op == 0)=false:=by simp [h0]
     clear hS hB h0
     generalize l[i].op=P at d0 h0b
     generalize l[i].tx=X at d1
     go_wp2_with fail
     refine (z2e X qs n d wr HS.out (HT.out _ HB.out)).mono ?_
     rintro e w5 ⟨ps,x,k,f,rfl,_,hS5,b5⟩
     have HS5:Hid (q3o 56 w5 d ps n):=hS5
     have HB5:Hid (Below w.heap.size w w5):=q8u HB.out b5 HD.out
     generalize q1f f=G
     clear hS5 b5
     go_wp2
     refine ⟨⟨i+1,ps,n,by go_num,by omega,HS5.out,HB5.out⟩,?_⟩
     simp [intOf];omega
   ·have HTX:Hid (Calls Tryz.prog 14 #[.pointer (some ⟨d,0,none⟩)] wr fun e w'=>e = .returned (.string (wbS (q7y n qs)))∧Below wr.heap.size wr w'):=q9b wr hS
    have hn1:=(show 10≤n from (by obtain ⟨_,_,_,h⟩:=hS;exact h.w1))
    have hn2:=(show n≤100 from (by obtain ⟨_,_,_,h⟩:=hS;exact h.w2))
    clear hS hB
    generalize hU:wbS (q7y n qs)=U at HTX
    have HU:Hid (wbS (q7y n qs)=U):=hU
    have huu:(U.toList == U.toList)=true:=by simp
    clear hU
    have hcs:¬ (i:Int)<(nl:Int)∨((i:Int)<(nl:Int)∧¬ (i:Int)<12):=by omega
    clear hgo
    rcases hcs with hi1 | ⟨hi1,hi2⟩
    all_goals
     go_wp2_with fail
     refine HTX.out.mono ?_
     rintro e w5 ⟨rfl,b5⟩
     have HS5:Hid (q3o 56 w5 d qs n):=HS.out.below b5
     have HB5:Hid (Below w.heap.size w w5):=q0j HB.out (Nat.le_refl _) b5
     clear b5 HTX
     go_wp2_with fail
     refine (z2e s qs n d w5 HS5.out (HT.out _ HB5.out)).mono ?_
     rintro e w6 ⟨ps,x,k,f,rfl,hR,hS6,b6⟩
     have HS6:Hid (q3o 56 w6 d ps n):=hS6
     have HB6:Hid (Below w.heap.size w w6):=q8u HB5.out b6 HD.out
     clear hS6 b6
     by_cases hf:f=0
     ·subst hf
      obtain ⟨hp,he,rfl,rfl⟩:=j4k hR
      have HFT:Hid (∀ {T:ByteArray} {k f:Int},k3c s (n:Int) T k f→T=wbS (q7y n ps)∧k=0∧f=0):=fun h=>j8r hp he hn1 hn2 h
      have HP2:Hid (q6i (wbS (q7y n ps)) ps 0 0∧fmE ps=0):=⟨(j8t hp n).2,he⟩
      rw [q0q]
      clear hR hp he
      generalize (frP ps qs:Nat)=x
      have hxx:¬ (x:Int)<0:=by omega
      go_wp2_with fail
      refine (k6a w6 HS6.out).mono ?_
      rintro e w7 ⟨rfl,rfl⟩
      go_wp2_with fail
      refine (HFM.out _ _ _ HB6.out).mono ?_
      rintro e w8 ⟨T,k8,f8,rfl,hR8,b8⟩
      obtain ⟨rfl,rfl,rfl⟩:=HFT.out hR8
      rw [q0q]
      have HS8:Hid (q3o 56 w8 d ps n):=HS6.out.below b8
      have HB8:Hid (Below w.heap.size w w8):=q0j HB6.out (Nat.le_refl _) b8
      have HTX8:Hid (∀ W,q3o 56 W d ps n→Calls Tryz.prog 14 #[.pointer (some ⟨d,0,none⟩)] W fun e w'=>e = .returned (.string (wbS (q7y n ps)))∧Below W.heap.size W w'):=fun W h=>q9b W h
      clear b8 hR8 HS6 HB6 HFT
      generalize wbS (q7y n ps)=V at HTX8 HP2 ⊢
      have hvv:(V.toList != V.toList)=false:=by simp
      have hve:(V.toList == V.toList)=true:=by simp
      go_wp2_with fail
      refine (HTX8.out _ HS8.out).mono ?_
      rintro e w9 ⟨rfl,b9⟩
      have HS9:Hid (q3o 56 w9 d ps n):=HS8.out.below b9
      have HB9:Hid (Below w.heap.size w w9):=q0j HB8.out (Nat.le_refl _) b9
      clear b9 HS8 HB8
      go_wp2_with fail
      refine (z2e V ps n d w9 HS9.out (HT.out _ HB9.out)).mono ?_
      rintro e wa ⟨ps2,x2,k2,f2,rfl,hR2,hSa,ba⟩
      obtain ⟨rfl,rfl,rfl,rfl⟩:=j4j HP2.out.1 HP2.out.2 hR2
      have HSa:Hid (q3o 56 wa d ps2 n):=hSa
      have HBa:Hid (Below w.heap.size w wa):=q8u HB9.out ba HD.out
      rw [q0q,j8u]
      clear hSa ba HS9 HB9 hR2
      go_wp2_with fail
      refine (HTX8.out _ HSa.out).mono ?_
      rintro e wb ⟨rfl,bb⟩
      have HBb:Hid (Below w.heap.size w wb):=q0j HBa.out (Nat.le_refl _) bb
      clear bb
      go_wp2
      go_ret
      exact ⟨rfl,HBb.out⟩
     ·obtain ⟨rfl,rfl⟩:=v0u hR hf
      rw [q0h hf]
      have HTX6:Hid (Calls Tryz.prog 14 #[.pointer (some ⟨d,0,none⟩)] w6 fun e w'=>e = .returned (.string U)∧Below w6.heap.size w6 w'):=by
       have h9:=q9b w6 HS6.out
       rw [HU.out] at h9
       exact h9
      clear hR hf
      go_wp2_with fail
      refine HTX6.out.mono ?_
      rintro e w7 ⟨rfl,b7⟩
      have HB7:Hid (Below w.heap.size w w7):=q0j HB6.out (Nat.le_refl _) b7
      clear b7
      go_wp2
      go_ret
      exact ⟨rfl,HB7.out⟩
end Go.Proofs.YtchdplceopegoaaGreatDoor
namespace Go.Proofs.YtchdplceopegoaaGreatDoor
open Go Go.ChangeShapes Go.WideShapes Go.RowKit
theorem j8y:laidOutB Tryz.prog=true:=by kernel_rfl
theorem v5m:Tryz.prog.cellsOf 3=1:=by kernel_rfl
theorem v5n:Tryz.prog.cellsOf 9=1:=by kernel_rfl
theorem k8j (b o n:Nat):(⟨b,o,none⟩:Addr).add n=⟨b,o+n,none⟩:=by
 unfold Addr.add
 split
 ·rename_i h;subst h;rfl
 ·rfl
theorem v4b {α:Type} {l:List α} (h:l.length=3):∃ a b c,l=[a,b,c]:=by
 match l,h with
 | [a,b,c],_=>exact ⟨a,b,c,rfl⟩
section
variable {H:Type} {enc:TypeId × Value→H} {W:World}
end
end Go.Proofs.YtchdplceopegoaaGreatDoor
namespace Go.Proofs.YtchdplceopegoaaGreatDoor
open Go Go.ChangeShapes Go.WideShapes Go.RowKit
theorem k9l:Tryz.prog.cellsOf 35=3:=by kernel_rfl
section
variable {H:Type} {enc:TypeId × Value→H} {W:World}
theorem k2j {fuel:Nat} {a0:Option Addr} {l0 c0:Nat} {d:DataW H} {p:List MemPlace} (hf:DataW.trod enc Tryz.prog W 0 (fun _=>true) true fuel 22 [.slice a0 l0 c0]=some (d,p)) :
  ∃ ds:List Td,l0=ds.length∧Tds W a0 ds:=by
 rcases Deep.open_slice Tryz.underlying22 hf with ⟨h1,_⟩ | ⟨a,len,cap,m,n,D,Pl,h1,_,hl,_,hm,hd,hx⟩
 ·simp only [List.cons.injEq,and_true,Value.slice.injEq] at h1
  obtain ⟨rfl,rfl,rfl⟩:=h1
  exact ⟨[],rfl,fun i hi=>by simp at hi⟩
 ·simp only [List.cons.injEq,and_true,Value.slice.injEq] at h1
  obtain ⟨rfl,rfl,rfl⟩:=h1
  have hlm:l0≤m:=by rw [hm];simp only [if_true];exact hl
  have each:∀ i,i<l0→∃ x:Td,W.cell? ((a.add (i*3)).add 0)=some (.int .i64 x.op)∧W.cell? ((a.add (i*3)).add 1)=some (.string x.tx)∧W.cell? ((a.add (i*3)).add 2)=some (.int .i64 x.n):=by
   intro i hi
   obtain ⟨cs',g1,g2⟩:=hx i (by omega)
   rw [k9l] at g1
   obtain ⟨_,hlen,hcell⟩:=World.cells?_some g1
   obtain ⟨xs,k,_,_,_,hxl,hfl⟩:=DataW.trod_struct Tryz.underlying35 g2
   have hfl0:=hfl 0 _ rfl
   have hfl1:=hfl 1 _ rfl
   have hfl2:=hfl 2 _ rfl
   obtain ⟨y0,y1,y2,rfl⟩:=v4b hxl
   obtain ⟨v0,v1,v2,rfl⟩:=v4b hlen
   clear hxl hlen
   simp [v5m,v5n] at hfl0 hfl1 hfl2
   obtain ⟨z0,e0,_,_⟩:=DataW.trod_int Tryz.underlying3 hfl0
   obtain ⟨s1,e1,_,_⟩:=DataW.trod_string Tryz.underlying9 hfl1
   obtain ⟨z2,e2,_,_⟩:=DataW.trod_int Tryz.underlying3 hfl2
   simp only [List.cons.injEq,and_true] at e0 e1 e2
   subst e0 e1 e2
   exact ⟨⟨z0,s1,z2⟩,hcell 0 (by omega),hcell 1 (by omega),hcell 2 (by omega)⟩
  have inh:Inhabited Td:=⟨⟨0,⟨#[]⟩,0⟩⟩
  obtain ⟨q,hq⟩:=Deep.choose_lt each
  refine ⟨(List.range l0).map q,by simp,?_⟩
  intro i hi
  have hi':i<l0:=by simpa using hi
  obtain ⟨c0,c1,c2⟩:=hq i hi'
  obtain ⟨c00,_,_⟩:=hq 0 (by omega)
  have hs:a.spot=none:=by
   have:=World.cell?_spot c00
   simpa [Addr.add] using this
  obtain ⟨b,o,sp⟩:=a
  simp only at hs
  subst hs
  simp only [k8j,Nat.add_zero] at c0 c1 c2
  have hb:b<W.heap.size:=by
   rcases Nat.lt_or_ge b W.heap.size with h' | h'
   ·exact h'
   ·simp [World.cell?,Array.getElem?_eq_none h'] at c0
  refine ⟨b,o,rfl,hb,?_,?_,?_⟩
  ·simpa using c0
  ·simpa using c1
  ·simpa using c2
theorem k6w {a0:Option Addr} {l0 c0:Nat} {d:DataW H} {p:List MemPlace} (h:DataW.Trod enc Tryz.prog W 0 (fun _=>true) true 22 (.slice a0 l0 c0) d p) :
  ∃ ds:List Td,l0=ds.length∧Tds W a0 ds:=by
 obtain ⟨fuel,hf⟩:=h
 exact k2j hf
end
end Go.Proofs.YtchdplceopegoaaGreatDoor
namespace Go.Proofs.YtchdplceopegoaaGreatDoor
open Go.ChangeShapes Go.WideShapes Go.RowKit
theorem Tryz.own:ownKnob Tryz.prog.godebug=none:=by kernel_rfl
def z8y (P:Program) (os:Os):World:=
 let w0:=World.holding P os ⟨#[],#[],[]⟩
 { w0 with heap:=w0.heap.modify 0 fun
   | .cells _ t frozen=>.cells #[.iface 172 (.agg #[.pointer (some ⟨12,27,none⟩)])] t frozen
   | o=>o }
set_option maxRecDepth 100000
def v1c : List (String × DataW Unit) := [("math/bits.deBruijn32tab", Rows.laid_math_bits_deBruijn32tab), ("math/bits.deBruijn64tab", Rows.laid_math_bits_deBruijn64tab), ("internal/strconv.uint64pow10", Rows.laid_internal_strconv_uint64pow10), ("unicode/utf8.acceptRanges", Rows.laid_unicode_utf8_acceptRanges), ("strconv.ErrRange", Rows.laid_strconv_ErrRange), ("strconv.ErrSyntax", Rows.laid_strconv_ErrSyntax), ("unicode.White_Space", Rows.laid_unicode_White_Space), ("strings.asciiSpace", Rows.laid_strings_asciiSpace), ("unicode/utf8.first", Rows.laid_unicode_utf8_first)]
abbrev y6g : List (String × DataW Unit) := [("math/bits.deBruijn32tab", Rows.laid_math_bits_deBruijn32tab), ("math/bits.deBruijn64tab", Rows.laid_math_bits_deBruijn64tab), ("internal/strconv.uint64pow10", Rows.laid_internal_strconv_uint64pow10), ("unicode/utf8.acceptRanges", Rows.laid_unicode_utf8_acceptRanges), ("errors.errorType", Rows.laid_errors_errorType), ("strconv.ErrRange", Rows.laid_strconv_ErrRange), ("strconv.ErrSyntax", Rows.laid_strconv_ErrSyntax), ("unicode.White_Space", Rows.laid_unicode_White_Space), ("strings.asciiSpace", Rows.laid_strings_asciiSpace), ("unicode/utf8.first", Rows.laid_unicode_utf8_first)]
def q7s (P:Program) (os:Os):World:=(z8y P os).layVars P v1c
theorem v1d (os:Os) (args:Array Value):laidMet Tryz.prog v1c ((q7s Tryz.prog os).forCall (fun _ _=>0) ⟨#[],args,[]⟩).memory:=by
 have e1:(v1c.filter fun x=>(v1c.map (·.1)).contains x.1)=v1c:=List.filter_eq_self.2 fun x hx=>List.contains_iff_mem.2 (List.mem_map.2 ⟨x,hx,rfl⟩)
 have e2:(v1c.filter fun x=>!(v1c.map (·.1)).contains x.1)=[]:=List.filter_eq_nil_iff.2 fun x hx=>by rw [List.contains_iff_mem.2 (List.mem_map.2 ⟨x,hx,rfl⟩)];simp
 have h:laidMet Tryz.prog v1c (q7s Tryz.prog os):=laidMet_layVars (w0:=z8y Tryz.prog os) (v1c.map (·.1)) [] (by rw [e1];rfl) (by rw [e1];kernel_rfl) (by rw [e1];kernel_rfl) (by rw [e2];exact LaidIn.none)
 exact h.of_heap (by simp [World.memory,World.forCall,Input.heap])
theorem j4v (os:Os) (args:Array Value):((q7s Tryz.prog os).forCall (fun _ _=>0) ⟨#[],args,[]⟩).Shaped Tryz.prog:=World.shaped_of_ZipB (by kernel_rfl) (by kernel_rfl)
theorem v8w (os:Os) (args:Array Value):laidMetH Tryz.prog y6g ((q7s Tryz.prog os).forCall (fun _ _=>0) ⟨#[],args,[]⟩).memory:=
 laidMetH_of_parts (v1d os args) (by kernel_rfl)
end Go.Proofs.YtchdplceopegoaaGreatDoor
namespace Go.Proofs.YtchdplceopegoaaGreatDoor
open Go.ChangeShapes Go.WideShapes Go.RowKit
set_option maxRecDepth 100000
abbrev y4q : List (String × DataW Unit) := [("math/bits.deBruijn32tab", Rows.laid_math_bits_deBruijn32tab), ("math/bits.deBruijn64tab", Rows.laid_math_bits_deBruijn64tab), ("internal/strconv.uint64pow10", Rows.laid_internal_strconv_uint64pow10), ("unicode/utf8.acceptRanges", Rows.laid_unicode_utf8_acceptRanges), ("strconv.ErrRange", Rows.laid_strconv_ErrRange), ("strconv.ErrSyntax", Rows.laid_strconv_ErrSyntax), ("unicode.White_Space", Rows.laid_unicode_White_Space), ("strings.asciiSpace", Rows.laid_strings_asciiSpace), ("unicode/utf8.first", Rows.laid_unicode_utf8_first)]
theorem v4s (os:Os) (args:Array Value):laidMetH Tryz.prog y4q ((q7s Tryz.prog os).forCall (fun _ _=>0) ⟨#[],args,[]⟩).memory:=by
 have h := (v8w os args).filter (fun x => x.1 != "errors.errorType")
 have e : (y6g.filter fun x => x.1 != "errors.errorType") = y4q := by rfl
 rw [e] at h
 exact h
theorem v1f {l : List (String × DataW Unit)} {W : World} (h : laidMetH Tryz.prog l W) (e1 : ((l.filter fun x => x.2.handleName?.isNone).filter fun x => x.1 == "internal/strconv.uint64pow10") = [("internal/strconv.uint64pow10", Lib.tabData .u64 Lib.pow10Tab)]) (e2 : ((l.filter fun x => x.2.handleName?.isNone).filter fun x => x.1 == "strings.asciiSpace") = [("strings.asciiSpace", Lib.tabData .u8 Lib.asciiSpaceTab)]) : q7d W := by
 have h0:=(laidMetH_iff.1 h).1
 refine ⟨?_,?_⟩
 ·have h1 := h0.filter (fun x => x.1 == "internal/strconv.uint64pow10")
  rw [e1] at h1
  exact Lib.tabIs_of_head (g:=6) (t:=356) (e:=336) (n:=20) (by kernel_rfl) (by kernel_rfl) (by kernel_rfl) (by kernel_rfl) (by kernel_rfl) (by kernel_rfl) h1
 ·have h1 := h0.filter (fun x => x.1 == "strings.asciiSpace")
  rw [e2] at h1
  exact Lib.tabIs_of_head (g:=1) (t:=237) (e:=5) (n:=256) (by kernel_rfl) (by kernel_rfl) (by kernel_rfl) (by kernel_rfl) (by kernel_rfl) (by kernel_rfl) h1
theorem j7g {W:World} (h:laidMetH Tryz.prog y4q W):q7d W:=v1f h (by kernel_rfl) (by kernel_rfl)
end Go.Proofs.YtchdplceopegoaaGreatDoor
