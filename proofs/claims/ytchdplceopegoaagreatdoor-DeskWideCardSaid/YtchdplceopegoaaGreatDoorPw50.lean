/- Texts as one: DkS, DkL, LawDeskWide, As, Told, OpenT, Laid, LaidS, LaidF. -/
import Derived.Test.YtchdplceopegoaaGreatDoorPw49
import Derived.KernelRfl
import Derived.LaidEql
import Derived.Stop.Asserts
import Derived.RowKitTokens
import Derived.Test.YtchdplceopegoaaGreatDoorRows
import Derived.Deep.Slices
import Derived.RowKit
import Derived.SizedLaws
import Derived.ChangeSame
import Derived.ChangeVars
import Derived.JoinedOf
import Derived.LaidLaws
import Derived.LaidHandle
import Derived.Stop.Joined
import Derived.Lay
import Derived.LaidMore
import Derived.LaidSub
import Derived.LaidOnce
namespace Go.Proofs.YtchdplceopegoaaGreatDoor
open Go Go.RowKit Go.Maps
set_option maxRecDepth 100000
set_option maxHeartbeats 4000000
inductive v1s (s:ByteArray) (old:List (List Td)):List (List Td)→Nat→Int→Int→Prop where
 | bad {ps k f} (hp:q7c s ps k f) (hf:f≠0):v1s s old old 0 k f
 | full {ps} (hp:q7c s ps 0 0) (hf:fmE ps≠0):v1s s old old 0 0 (fmE ps)
 | ok {ps} (hp:q7c s ps 0 0) (hf:fmE ps=0):v1s s old ps (frP ps old) 0 0
inductive y0w (n:Nat) (wd:Int):Nat→Int→Prop where
 | no (h:wd<10∨100<wd):y0w n wd n 1
 | ok {m:Nat} (h:wd=(m:Int)) (h1:10≤m) (h2:m≤100):y0w n wd m 0
theorem ShM.fresh (w:World) {n:Nat} (hw1:10≤n) (hw2:n≤100):ShM w (.slice none 0 0) (.map none) [] n:=
 ⟨fun t ht=>by simp at ht,fun t ht=>by simp at ht,fun t ht=>by simp at ht,by simp,hw1,hw2,⟨none,0,rfl,z1n.nil _ _ _⟩,.inl ⟨rfl,rfl⟩⟩
theorem q3u.fresh (T:TypeId) (w:World) {n:Nat} (hw1:10≤n) (hw2:n≤100):q3u T (w.alloc (.cells #[.int .i64 (n:Int),.slice none 0 0,.map none] T)) w.heap.size [] n:=
 ⟨_,_,by show (w.heap.push _)[w.heap.size]? = _;simp,ShM.fresh _ hw1 hw2⟩
theorem k8t {n:Nat} (hw1:10≤n) (hw2:n≤100) (w:World) :
  Calls Tryz.prog 7 #[.int .i64 (n:Int)] w fun e w'=>e = .returned (.tuple #[.pointer (some ⟨w.heap.size,0,none⟩),.nilIface])∧q3u 56 w' w.heap.size [] n∧Below w.heap.size w w':=by
 have HW:Hid (Calls Tryz.prog 17 #[.int .i64 (n:Int)] w fun e w'=>e = .returned .nilIface∧w=w'):=k3u hw1 hw2 w
 go_enter Tryz.func7,Tryz.ntmps7
 go_wp2_with fail
 refine HW.out.mono ?_
 rintro e w1 ⟨rfl,rfl⟩
 go_wp2
 go_ret2
 exact ⟨rfl,q3u.fresh _ w hw1 hw2,q1j w _⟩
theorem v2x {wd:Int} (h:wd<10∨100<wd) (w:World) :
  Calls Tryz.prog 7 #[.int .i64 wd] w fun e w'=>e = .returned (.tuple #[.pointer none,.iface 24 (.int .i64 1)])∧w=w':=by
 have HW:Hid (Calls Tryz.prog 17 #[.int .i64 wd] w fun e w'=>e = .returned (.iface 24 (.int .i64 1))∧w=w'):=j8b h w
 clear h
 go_enter Tryz.func7,Tryz.ntmps7
 go_wp2_with fail
 refine HW.out.mono ?_
 rintro e w1 ⟨rfl,rfl⟩
 go_wp2
 go_ret2
 exact ⟨rfl,rfl⟩
theorem q4p {T:TypeId} {qs:List (List Td)} {n b:Nat} (w:World) (hS:q3u T w b qs n) :
  Calls Tryz.prog 14 #[.pointer (some ⟨b,0,none⟩)] w fun e w'=>e = .returned (.string (wbS (q8h n qs)))∧Below w.heap.size w w':=by
 have HD:Hid (Calls Tryz.prog 31 #[.pointer (some ⟨b,0,none⟩)] w fun e w'=>e = .returned (.string (wbS (q8h n qs)))∧Below w.heap.size w w'):=k8x qs n b w hS
 clear hS
 generalize wbS (q8h n qs)=S at HD ⊢
 go_enter Tryz.func14,Tryz.ntmps14
 go_wp2_with fail
 refine HD.out.mono ?_
 rintro e w1 ⟨rfl,b1⟩
 go_wp2
 go_ret
 exact ⟨rfl,b1⟩
theorem z3o {T:TypeId} {qs:List (List Td)} {n b:Nat} (w:World) (hS:q3u T w b qs n) :
  Calls Tryz.prog 15 #[.pointer (some ⟨b,0,none⟩)] w fun e w'=>e = .returned (.int .i64 (n:Int))∧w=w':=by
 obtain ⟨oA,oc,m,s0,_⟩:=hS.cell
 clear hS
 go_enter Tryz.func15,Tryz.ntmps15
 go_wp2
 go_ret
 exact ⟨rfl,rfl⟩
theorem k2n {T:TypeId} (s:ByteArray) (old:List (List Td)) (n d:Nat) (w:World) (hS:q3u T w d old n) (ht:q6n w) :
  Calls Tryz.prog 13 #[.pointer (some ⟨d,0,none⟩),.string s] w fun e w'=>∃ qs x k f,e = .returned (.tuple #[.int .i64 (x:Nat),.int .i64 k,q1e f])∧v1s s old qs x k f∧q3u T w' d qs n∧q0i w.heap.size d w w':=by
 have HS:Hid (q3u T w d old n):=hS
 have HT:Hid (q6n w):=ht
 have HSY:Hid (Calls Tryz.prog 30 #[.string s] w fun e w'=>∃ ps k f A c,e = .returned (.tuple #[.slice A ps.length c,.int .i64 k,q1e f])∧q7c s ps k f∧Prg w' A ps∧ps.length≤c∧Below w.heap.size w w'):=z0n s w ht
 clear hS ht
 go_enter Tryz.func13,Tryz.ntmps13
 go_wp2_with fail
 refine HSY.out.mono ?_
 rintro e w2 ⟨ps,k,f,A,c,rfl,hR,hP,_,b2⟩
 have HB2:Hid (Below w.heap.size w w2):=b2
 have HS2:Hid (q3u T w2 d old n):=HS.out.below b2
 by_cases hf:f=0
 ·subst hf
  obtain ⟨rfl,_,hl20,hall⟩:=z6f hR
  have HF:Hid (Calls Tryz.prog 20 #[.pointer (some ⟨d,0,none⟩),.slice A ps.length c] w2 fun e w'=>k6w ps old n w2 e w'):=z3s old ps n d A c w2 HS2.out hP hall (k3t hR) hl20 (HT.out.below b2)
  have HR:Hid (q7c s ps 0 0):=hR
  rw [q0n]
  clear hP b2 hall hR HSY
  generalize ps.length=np at HF ⊢
  go_wp2_with fail
  refine HF.out.mono ?_
  rintro e w3 ⟨b3,h3⟩
  have HS3:Hid (q3u T w3 d old n):=HS2.out.below b3
  have HB3:Hid (Below w.heap.size w w3):=q0h HB2.out (Nat.le_refl _) b3
  clear b3
  rcases h3 with ⟨hz,ov,mv,rfl,hM⟩ | ⟨hz,rfl⟩
  ·have HM:Hid (ShM w3 ov mv ps n):=hM
   obtain ⟨A3,c3,rfl,_⟩:=hM.ord
   obtain ⟨m3,rfl⟩:∃ m3,mv = .map m3:=by
    rcases hM.kn with ⟨rfl,_⟩ | ⟨b,rfl,_⟩
    ·exact ⟨_,rfl⟩
    ·exact ⟨_,rfl⟩
   have HS4:Hid (q3u T (w3.alloc (.cells #[.int .i64 (n:Int),.slice A3 ps.length c3,.map m3] 54)) d old n):=HS3.out.below (q1j w3 _)
   have HM4:Hid (ShM (w3.alloc (.cells #[.int .i64 (n:Int),.slice A3 ps.length c3,.map m3] 54)) (.slice A3 ps.length c3) (.map m3) ps n):=hM.below (q1j w3 _)
   have HB4:Hid (Below w.heap.size w (w3.alloc (.cells #[.int .i64 (n:Int),.slice A3 ps.length c3,.map m3] 54))):=HB3.out.trans ((q1j w3 _).mono HB3.out.size)
   have HZ:Hid (fmE ps=0):=hz
   obtain ⟨oA,oc,om,s0,s1,s2,sf,_,_⟩:=HS4.out.cell
   have sf0:=sf 0
   have sf1:=sf 1
   have sf2:=sf 2
   clear hM hz HF sf
   go_wp2
   go_ret3
   obtain ⟨q1,q2⟩:=HS4.out.put HM4.out
   exact ⟨ps,_,0,0,rfl,.ok HR.out HZ.out,q1,(q0i.of HB4.out).trans (q2.mono HB4.out.size)⟩
  ·have HZ:Hid (fmE ps≠0):=hz
   have HE:Hid (q1e (fmE ps) = .iface 24 (.int .i64 (fmE ps))):=q0g hz
   rw [HE.out]
   clear hz HF
   go_wp2
   go_ret3
   exact ⟨old,0,0,fmE ps,by rw [HE.out];rfl,.full HR.out HZ.out,HS3.out.below (q1j w3 _),q0i.of (HB3.out.trans ((q1j w3 _).mono HB3.out.size))⟩
 ·have HE:Hid (q1e f = .iface 24 (.int .i64 f)):=q0g hf
  have HR:Hid (q7c s ps k f∧f≠0):=⟨hR,hf⟩
  rw [HE.out]
  clear hR hP b2 hf HSY
  generalize ps.length=np
  go_wp2
  go_ret3
  exact ⟨old,0,k,f,by rw [HE.out];rfl,.bad HR.out.1 HR.out.2,HS2.out,q0i.of HB2.out⟩
theorem z7n {T:TypeId} (wd:Int) (old:List (List Td)) (n d:Nat) (w:World) (hS:q3u T w d old n) (ht:q6n w) :
  Calls Tryz.prog 10 #[.pointer (some ⟨d,0,none⟩),.int .i64 wd] w fun e w'=>∃ m f,e = .returned (q1e f)∧y0w n wd m f∧q3u T w' d old m∧q0i w.heap.size d w w':=by
 have HS:Hid (q3u T w d old n):=hS
 have HT:Hid (q6n w):=ht
 clear ht
 by_cases hw:wd<10∨100<wd
 ·have HW:Hid (Calls Tryz.prog 17 #[.int .i64 wd] w fun e w'=>e = .returned (.iface 24 (.int .i64 1))∧w=w'):=j8b hw w
  have HWW:Hid (wd<10∨100<wd):=hw
  clear hw hS
  go_enter Tryz.func10,Tryz.ntmps10
  go_wp2_with fail
  refine HW.out.mono ?_
  rintro e w1 ⟨rfl,rfl⟩
  go_wp2
  go_ret
  exact ⟨n,1,rfl,.no HWW.out,HS.out,q0i.refl _ _ _⟩
 ·obtain ⟨m,rfl⟩:∃ m:Nat,wd=(m:Int):=⟨wd.toNat,by omega⟩
  have hw1:10≤m:=by omega
  have hw2:m≤100:=by omega
  obtain ⟨_,_,_,hSM⟩:=hS
  have HOK:Hid (∀ t∈old,q0c t=0):=hSM.ok
  have HNI:Hid (∀ t∈old,z3d t):=hSM.ni
  have HFE:Hid (fmE old=0):=k0k old hSM.pg
  have hl20:=hSM.len
  have HW:Hid (Calls Tryz.prog 17 #[.int .i64 (m:Int)] w fun e w'=>e = .returned .nilIface∧w=w'):=k3u hw1 hw2 w
  have HS1:Hid (q3u T (w.alloc (.cells #[.int .i64 (m:Int),.slice none 0 0,.map none] 54)) d old n):=HS.out.below (q1j w _)
  have HPR:Hid (Calls Tryz.prog 21 #[.pointer (some ⟨d,0,none⟩)] (w.alloc (.cells #[.int .i64 (m:Int),.slice none 0 0,.map none] 54)) fun e w'=>(∃ A c,e = .returned (.slice A old.length c)∧Prg w' A old∧old.length≤c)∧Below (w.alloc (.cells #[.int .i64 (m:Int),.slice none 0 0,.map none] 54)).heap.size (w.alloc (.cells #[.int .i64 (m:Int),.slice none 0 0,.map none] 54)) w'):=z7m old n d _ HS1.out
  have HBK:Hid (q3u 54 (w.alloc (.cells #[.int .i64 (m:Int),.slice none 0 0,.map none] 54)) w.heap.size [] m):=q3u.fresh _ w hw1 hw2
  have HB1:Hid (Below w.heap.size w (w.alloc (.cells #[.int .i64 (m:Int),.slice none 0 0,.map none] 54))):=q1j w _
  clear hSM hw
  go_enter Tryz.func10,Tryz.ntmps10
  go_wp2_with fail
  refine HW.out.mono ?_
  rintro e w1 ⟨rfl,rfl⟩
  go_wp2_with fail
  refine HPR.out.mono ?_
  rintro e w2 ⟨⟨A2,c2,rfl,hP2,_⟩,b2⟩
  have HS2:Hid (q3u T w2 d old n):=HS1.out.below b2
  have HBK2:Hid (q3u 54 w2 w.heap.size [] m):=HBK.out.below b2
  have HB2:Hid (Below w.heap.size w w2):=z0i (Below.refl _ _) (Nat.le_refl _) b2
  have HF:Hid (Calls Tryz.prog 20 #[.pointer (some ⟨w.heap.size,0,none⟩),.slice A2 old.length c2] w2 fun e w'=>k6w old [] m w2 e w'):=z3s [] old m w.heap.size A2 c2 w2 HBK2.out hP2 HOK.out HNI.out hl20 (HT.out.below HB2.out)
  clear b2 hP2 HPR HBK HS1 HB1 HW
  generalize hno:old.length=no at HF ⊢
  have HNO:Hid (old.length=no):=hno
  clear hno
  go_wp2_with fail
  refine HF.out.mono ?_
  rintro e w3 ⟨b3,h3⟩
  have HS3:Hid (q3u T w3 d old n):=HS2.out.below b3
  have HB3:Hid (Below w.heap.size w w3):=q0h HB2.out (Nat.le_refl _) b3
  clear b3
  rcases h3 with ⟨_,ov,mv,rfl,hM⟩ | ⟨hz,rfl⟩
  ·obtain ⟨A3,c3,rfl,_⟩:=hM.ord
   obtain ⟨m3,rfl⟩:∃ m3,mv = .map m3:=by
    rcases hM.kn with ⟨rfl,_⟩ | ⟨b,rfl,_⟩
    ·exact ⟨_,rfl⟩
    ·exact ⟨_,rfl⟩
   rw [HNO.out] at hM
   have HS4:Hid (q3u T (w3.alloc (.cells #[.int .i64 (m:Int),.slice A3 no c3,.map m3] 54)) d old n):=HS3.out.below (q1j w3 _)
   have HM4:Hid (ShM (w3.alloc (.cells #[.int .i64 (m:Int),.slice A3 no c3,.map m3] 54)) (.slice A3 no c3) (.map m3) old m):=hM.below (q1j w3 _)
   have HB4:Hid (Below w.heap.size w (w3.alloc (.cells #[.int .i64 (m:Int),.slice A3 no c3,.map m3] 54))):=HB3.out.trans ((q1j w3 _).mono HB3.out.size)
   obtain ⟨oA,oc,om,s0,s1,s2,sf,_,_⟩:=HS4.out.cell
   have sf0:=sf 0
   have sf1:=sf 1
   have sf2:=sf 2
   rw [HNO.out]
   clear hM HF sf
   go_wp2
   go_ret
   obtain ⟨q1,q2⟩:=HS4.out.put HM4.out
   exact ⟨m,0,rfl,.ok rfl hw1 hw2,q1,(q0i.of HB4.out).trans (q2.mono HB4.out.size)⟩
  ·exact absurd HFE.out hz
end Go.Proofs.YtchdplceopegoaaGreatDoor
namespace Go.Proofs.YtchdplceopegoaaGreatDoor
open Go Go.RowKit
def fxW:List Td:=[⟨8,⟨#[]⟩,0⟩,⟨5,⟨#[]⟩,0⟩,⟨2,⟨#[97,97,97,97]⟩,0⟩,⟨2,⟨#[98,98,98,98]⟩,0⟩]
abbrev y1h:ByteArray:=⟨#[97,97,97,97,43,98,98,98,98,59]⟩
abbrev y0k:ByteArray:=⟨#[97,97,97,97,10,32,32,43,32,98,98,98,98,59,10]⟩
theorem v0j:(q0q [fxW]).2=0:=by decide +kernel
theorem v3d:q7c y1h [fxW] 0 0:=by
 refine .ok (by decide +kernel) ?_ v0j
 have h:=z1e [fxW] 0 false [] (z2j v0j).2 (fun h=>by cases h)
 have e:[fxW].flatMap z6w=q2u (btL y1h):=by decide +kernel
 rw [e] at h
 exact h
theorem y1i:fmE [fxW]=0:=by decide +kernel
theorem y1k:frP [fxW] []=1:=by decide +kernel
theorem y1j:q8h 10 [fxW]=btL y0k:=by decide +kernel
theorem v5o {s:ByteArray} {ps:List (List Td)} (hp:q7c s ps 0 0) (he:fmE ps=0) {old qs:List (List Td)} {x:Nat} {k f:Int} (h:v1s s old qs x k f):qs=ps∧x=frP ps old∧k=0∧f=0:=by
 cases h with
 | bad h1 h2=>exact absurd (q1m h1 hp).2.2 h2
 | full h1 h2=>
  obtain ⟨rfl,_⟩:=q1m h1 hp
  exact absurd he h2
 | ok h1 h2=>
  obtain ⟨rfl,_⟩:=q1m h1 hp
  exact ⟨rfl,rfl,rfl,rfl⟩
theorem j2o {s:ByteArray} {old qs:List (List Td)} {x:Nat} {k:Int} (h:v1s s old qs x k 0):q7c s qs 0 0∧fmE qs=0∧x=frP qs old∧k=0:=by
 generalize hz:(0:Int)=z at h
 cases h with
 | bad h1 h2=>exact absurd hz.symm h2
 | full h1 h2=>exact absurd hz.symm h2
 | ok h1 h2=>exact ⟨hz ▸ h1,h2,rfl,by omega⟩
theorem j8i {s:ByteArray} {old qs:List (List Td)} {x:Nat} {k f:Int} (h:v1s s old qs x k f) (hf:f≠0):qs=old∧x=0:=by
 cases h with
 | bad=>exact ⟨rfl,rfl⟩
 | full=>exact ⟨rfl,rfl⟩
 | ok=>exact absurd rfl hf
theorem j6m {s:ByteArray} {qs:List (List Td)} {n:Nat} (hp:q7c s qs 0 0) (he:fmE qs=0) (h1:10≤n) (h2:n≤100) {T:ByteArray} {k f:Int} (h:k1y s (n:Int) T k f):T=wbS (q8h n qs)∧k=0∧f=0:=
 j6l h (k1y.ok (z5y h1 h2) hp he)
theorem z0x {w0 w w':World} {d:Nat} (h:Below w0.heap.size w0 w) (hx:q0i w.heap.size d w w') (hd:w0.heap.size≤d):Below w0.heap.size w0 w':=h.trans ((hx.mono h.size).below hd)
set_option maxRecDepth 100000
set_option maxHeartbeats 8000000
theorem z7k (hF:y2g) (wd:Int) (s:ByteArray) (other:Int) (w:World) (ht:q6n w) :
  Calls Tryz.prog 5 #[.int .i64 wd,.string s,.int .i64 other] w fun e w'=>e = .returned (.bool true)∧Below w.heap.size w w':=by
 have HT:Hid (∀ W,Below w.heap.size w W→q6n W):=fun W h=>ht.below h
 have HFM:Hid (∀ (W:World) (s:ByteArray) (wd:Int),Below w.heap.size w W→Calls Tryz.prog 16 #[.string s,.int .i64 wd] W fun e w'=>∃ T k f,e = .returned (.tuple #[.string T,.int .i64 k,q1e f])∧k1y s wd T k f∧Below W.heap.size W w'):=fun W s wd h=>hF s wd W (ht.below h)
 have hxo:(y0k.toList != y0k.toList)=false:=by simp
 clear hF ht
 go_enter Tryz.func5,Tryz.ntmps5
 go_wp2_with fail
 refine (k8t (n:=10) (by decide) (by decide) w).mono ?_
 rintro e w1 ⟨rfl,hS1,b1⟩
 have HS1:Hid (q3u 56 w1 w.heap.size [] 10):=hS1
 have HB1:Hid (Below w.heap.size w w1):=b1
 clear hS1 b1
 go_wp2_with fail
 refine (k2n y1h [] 10 w.heap.size w1 HS1.out (HT.out _ HB1.out)).mono ?_
 rintro e w2 ⟨qs,x,k,f,rfl,hR,hS2,b2⟩
 obtain ⟨rfl,rfl,rfl,rfl⟩:=v5o v3d y1i hR
 have HS2:Hid (q3u 56 w2 w.heap.size [fxW] 10):=hS2
 have HB2:Hid (Below w.heap.size w w2):=z0x HB1.out b2 (Nat.le_refl _)
 rw [q0n,y1k]
 clear hS2 b2 hR HS1 HB1
 have HTX2:Hid (Calls Tryz.prog 14 #[.pointer (some ⟨w.heap.size,0,none⟩)] w2 fun e w'=>e = .returned (.string y0k)∧Below w2.heap.size w2 w'):=by
  have h1:=q4p w2 HS2.out
  rw [y1j] at h1
  exact h1
 go_wp2_with fail
 refine HTX2.out.mono ?_
 rintro e w3 ⟨rfl,b3⟩
 have HB3:Hid (Below w.heap.size w w3):=q0h HB2.out (Nat.le_refl _) b3
 clear b3 HB2 HTX2 HS2
 by_cases hw:wd<10∨100<wd
 ·have HN:Hid (Calls Tryz.prog 7 #[.int .i64 wd] w3 fun e w'=>e = .returned (.tuple #[.pointer none,.iface 24 (.int .i64 1)])∧w3=w'):=v2x hw w3
  clear hw
  go_wp2_with fail
  refine HN.out.mono ?_
  rintro e w4 ⟨rfl,rfl⟩
  go_wp2
  go_ret
  exact ⟨rfl,HB3.out⟩
 ·obtain ⟨n,rfl⟩:∃ n:Nat,wd=(n:Int):=⟨wd.toNat,by omega⟩
  have hw1:10≤n:=by omega
  have hw2:n≤100:=by omega
  clear hw
  go_wp2_with fail
  refine (k8t hw1 hw2 w3).mono ?_
  rintro e w4 ⟨rfl,hS4,b4⟩
  have HS4:Hid (q3u 56 w4 w3.heap.size [] n):=hS4
  have HB4:Hid (Below w.heap.size w w4):=q0h HB3.out (Nat.le_refl _) b4
  generalize hd:w3.heap.size=d at HS4 ⊢
  have HD:Hid (w.heap.size≤d):=(show w.heap.size≤d by rw [←hd];exact HB3.out.size)
  clear hS4 b4 hd HB3
  go_wp2_with fail
  refine (k2n s [] n d w4 HS4.out (HT.out _ HB4.out)).mono ?_
  rintro e w5 ⟨qs,x,k,f,rfl,hR,hS5,b5⟩
  have HS5:Hid (q3u 56 w5 d qs n):=hS5
  have HB5:Hid (Below w.heap.size w w5):=z0x HB4.out b5 HD.out
  clear hS5 b5 HS4 HB4
  by_cases hf:f=0
  ·subst hf
   obtain ⟨hp,he,rfl,rfl⟩:=j2o hR
   have HP:Hid (q7c s qs 0 0):=hp
   have HE:Hid (fmE qs=0):=he
   have HFT:Hid (∀ {m:Nat} {T:ByteArray} {k f:Int},10≤m→m≤100→k1y s (m:Int) T k f→T=wbS (q8h m qs)∧k=0∧f=0):=fun h1 h2 h=>j6m hp he h1 h2 h
   rw [q0n]
   clear hR hp he
   generalize (frP qs []:Nat)=x
   go_wp2_with fail
   refine (q4p w5 HS5.out).mono ?_
   rintro e w6 ⟨rfl,b6⟩
   have HS6:Hid (q3u 56 w6 d qs n):=HS5.out.below b6
   have HB6:Hid (Below w.heap.size w w6):=q0h HB5.out (Nat.le_refl _) b6
   clear b6 HS5 HB5
   generalize hU:wbS (q8h n qs)=U
   have HU:Hid (wbS (q8h n qs)=U):=hU
   have huu:(U.toList == U.toList)=true:=by simp
   clear hU
   go_wp2_with fail
   refine (z7n other qs n d w6 HS6.out (HT.out _ HB6.out)).mono ?_
   rintro e w7 ⟨m,g,rfl,hWR,hS7,b7⟩
   have HS7:Hid (q3u 56 w7 d qs m):=hS7
   have HB7:Hid (Below w.heap.size w w7):=z0x HB6.out b7 HD.out
   clear b7 HS6 HB6 hS7
   have HTX7:Hid (Calls Tryz.prog 14 #[.pointer (some ⟨d,0,none⟩)] w7 fun e w'=>e = .returned (.string (wbS (q8h m qs)))∧Below w7.heap.size w7 w'):=q4p w7 HS7.out
   cases hWR with
   | no hno=>
    have hg:q1e 1 = .iface 24 (.int .i64 1):=rfl
    rw [hg]
    rw [HU.out] at HTX7
    clear hno hg
    go_wp2_with fail
    refine HTX7.out.mono ?_
    rintro e w8 ⟨rfl,b8⟩
    have HS8:Hid (q3u 56 w8 d qs n):=HS7.out.below b8
    have HB8:Hid (Below w.heap.size w w8):=q0h HB7.out (Nat.le_refl _) b8
    clear b8 HTX7
    go_wp2_with fail
    refine (z3o w8 HS8.out).mono ?_
    rintro e w9 ⟨rfl,rfl⟩
    go_wp2
    go_ret
    exact ⟨rfl,HB8.out⟩
   | ok hm h1 h2=>
    subst hm
    rw [q0n]
    go_wp2_with fail
    refine (HFM.out _ _ _ HB7.out).mono ?_
    rintro e w8 ⟨T,k8,f8,rfl,hR8,b8⟩
    obtain ⟨rfl,rfl,rfl⟩:=HFT.out h1 h2 hR8
    rw [q0n]
    have HS8:Hid (q3u 56 w8 d qs m):=HS7.out.below b8
    have HB8:Hid (Below w.heap.size w w8):=q0h HB7.out (Nat.le_refl _) b8
    have HTX8:Hid (Calls Tryz.prog 14 #[.pointer (some ⟨d,0,none⟩)] w8 fun e w'=>e = .returned (.string (wbS (q8h m qs)))∧Below w8.heap.size w8 w'):=q4p w8 HS8.out
    clear b8 hR8 HTX7 HS7 HB7 HFT
    generalize wbS (q8h m qs)=V at HTX8 ⊢
    have hvv:(V.toList != V.toList)=false:=by simp
    go_wp2_with fail
    refine HTX8.out.mono ?_
    rintro e w9 ⟨rfl,b9⟩
    have HS9:Hid (q3u 56 w9 d qs m):=HS8.out.below b9
    have HB9:Hid (Below w.heap.size w w9):=q0h HB8.out (Nat.le_refl _) b9
    clear b9 HTX8 HS8 HB8
    go_wp2_with fail
    refine (z3o w9 HS9.out).mono ?_
    rintro e wx ⟨rfl,rfl⟩
    go_wp2_with fail
    refine (z7n (n:Int) qs m d w9 HS9.out (HT.out _ HB9.out)).mono ?_
    rintro e wa ⟨m2,g,rfl,hWR,hSa,ba⟩
    have HBa:Hid (Below w.heap.size w wa):=z0x HB9.out ba HD.out
    obtain ⟨rfl,rfl⟩:m2=n∧g=0:=by
     cases hWR with
     | no h=>omega
     | ok h _ _=>exact ⟨by omega,rfl⟩
    have HTXa:Hid (Calls Tryz.prog 14 #[.pointer (some ⟨d,0,none⟩)] wa fun e w'=>e = .returned (.string U)∧Below wa.heap.size wa w'):=by
     have h9:=q4p wa hSa
     rw [HU.out] at h9
     exact h9
    rw [q0n]
    clear hWR hSa ba HS9 HB9
    go_wp2_with fail
    refine HTXa.out.mono ?_
    rintro e wb ⟨rfl,bb⟩
    have HBb:Hid (Below w.heap.size w wb):=q0h HBa.out (Nat.le_refl _) bb
    clear bb
    go_wp2
    go_ret
    exact ⟨rfl,HBb.out⟩
  ·obtain ⟨rfl,rfl⟩:=j8i hR hf
   rw [q0g hf]
   have HTX5:Hid (Calls Tryz.prog 14 #[.pointer (some ⟨d,0,none⟩)] w5 fun e w'=>e = .returned (.string ⟨#[]⟩)∧Below w5.heap.size w5 w'):=q4p w5 HS5.out
   clear hR hf
   go_wp2_with fail
   refine HTX5.out.mono ?_
   rintro e w6 ⟨rfl,b6⟩
   have HB6:Hid (Below w.heap.size w w6):=q0h HB5.out (Nat.le_refl _) b6
   clear b6
   go_wp2
   go_ret
   exact ⟨rfl,HB6.out⟩
end Go.Proofs.YtchdplceopegoaaGreatDoor
namespace Go.Proofs.YtchdplceopegoaaGreatDoor
open Go.ChangeShapes Go.WideShapes Go.RowKit
theorem Tryz.own:ownKnob Tryz.prog.godebug=none:=by kernel_rfl
def z7x (P:Program) (os:Os):World:=
 let w0:=World.holding P os ⟨#[],#[],[]⟩
 { w0 with heap:=w0.heap.modify 0 fun
   | .cells _ t frozen=>.cells #[.iface 172 (.agg #[.pointer (some ⟨12,27,none⟩)])] t frozen
   | o=>o }
set_option maxRecDepth 100000
def j8s : List (String × DataW Unit) := [("math/bits.deBruijn32tab", Rows.laid_math_bits_deBruijn32tab), ("math/bits.deBruijn64tab", Rows.laid_math_bits_deBruijn64tab), ("internal/strconv.uint64pow10", Rows.laid_internal_strconv_uint64pow10), ("unicode/utf8.acceptRanges", Rows.laid_unicode_utf8_acceptRanges), ("strconv.ErrRange", Rows.laid_strconv_ErrRange), ("strconv.ErrSyntax", Rows.laid_strconv_ErrSyntax), ("unicode.White_Space", Rows.laid_unicode_White_Space), ("strings.asciiSpace", Rows.laid_strings_asciiSpace), ("unicode/utf8.first", Rows.laid_unicode_utf8_first)]
abbrev y2l : List (String × DataW Unit) := [("math/bits.deBruijn32tab", Rows.laid_math_bits_deBruijn32tab), ("math/bits.deBruijn64tab", Rows.laid_math_bits_deBruijn64tab), ("internal/strconv.uint64pow10", Rows.laid_internal_strconv_uint64pow10), ("unicode/utf8.acceptRanges", Rows.laid_unicode_utf8_acceptRanges), ("errors.errorType", Rows.laid_errors_errorType), ("strconv.ErrRange", Rows.laid_strconv_ErrRange), ("strconv.ErrSyntax", Rows.laid_strconv_ErrSyntax), ("unicode.White_Space", Rows.laid_unicode_White_Space), ("strings.asciiSpace", Rows.laid_strings_asciiSpace), ("unicode/utf8.first", Rows.laid_unicode_utf8_first)]
def q6z (P:Program) (os:Os):World:=(z7x P os).layVars P j8s
theorem j8t (os:Os) (args:Array Value):laidMet Tryz.prog j8s ((q6z Tryz.prog os).forCall (fun _ _=>0) ⟨#[],args,[]⟩).memory:=by
 have e1:(j8s.filter fun x=>(j8s.map (·.1)).contains x.1)=j8s:=List.filter_eq_self.2 fun x hx=>List.contains_iff_mem.2 (List.mem_map.2 ⟨x,hx,rfl⟩)
 have e2:(j8s.filter fun x=>!(j8s.map (·.1)).contains x.1)=[]:=List.filter_eq_nil_iff.2 fun x hx=>by rw [List.contains_iff_mem.2 (List.mem_map.2 ⟨x,hx,rfl⟩)];simp
 have h:laidMet Tryz.prog j8s (q6z Tryz.prog os):=laidMet_layVars (w0:=z7x Tryz.prog os) (j8s.map (·.1)) [] (by rw [e1];rfl) (by rw [e1];kernel_rfl) (by rw [e1];kernel_rfl) (by rw [e2];exact LaidIn.none)
 exact h.of_heap (by simp [World.memory,World.forCall,Input.heap])
theorem j2y (os:Os) (args:Array Value):((q6z Tryz.prog os).forCall (fun _ _=>0) ⟨#[],args,[]⟩).Shaped Tryz.prog:=World.shaped_of_ZipB (by kernel_rfl) (by kernel_rfl)
theorem v5r (os:Os) (args:Array Value):laidMetH Tryz.prog y2l ((q6z Tryz.prog os).forCall (fun _ _=>0) ⟨#[],args,[]⟩).memory:=
 laidMetH_of_parts (j8t os args) (by kernel_rfl)
abbrev y0y : List (String × DataW Unit) := [("math/bits.deBruijn32tab", Rows.laid_math_bits_deBruijn32tab), ("math/bits.deBruijn64tab", Rows.laid_math_bits_deBruijn64tab), ("internal/strconv.uint64pow10", Rows.laid_internal_strconv_uint64pow10), ("unicode/utf8.acceptRanges", Rows.laid_unicode_utf8_acceptRanges), ("strconv.ErrRange", Rows.laid_strconv_ErrRange), ("strconv.ErrSyntax", Rows.laid_strconv_ErrSyntax), ("unicode.White_Space", Rows.laid_unicode_White_Space), ("strings.asciiSpace", Rows.laid_strings_asciiSpace), ("unicode/utf8.first", Rows.laid_unicode_utf8_first)]
theorem v1y (os:Os) (args:Array Value):laidMetH Tryz.prog y0y ((q6z Tryz.prog os).forCall (fun _ _=>0) ⟨#[],args,[]⟩).memory:=by
 have h := (v5r os args).filter (fun x => x.1 != "errors.errorType")
 have e : (y2l.filter fun x => x.1 != "errors.errorType") = y0y := by rfl
 rw [e] at h
 exact h
theorem j8v {l : List (String × DataW Unit)} {W : World} (h : laidMetH Tryz.prog l W) (e1 : ((l.filter fun x => x.2.handleName?.isNone).filter fun x => x.1 == "internal/strconv.uint64pow10") = [("internal/strconv.uint64pow10", Lib.tabData .u64 Lib.pow10Tab)]) (e2 : ((l.filter fun x => x.2.handleName?.isNone).filter fun x => x.1 == "strings.asciiSpace") = [("strings.asciiSpace", Lib.tabData .u8 Lib.asciiSpaceTab)]) : q6n W := by
 have h0:=(laidMetH_iff.1 h).1
 refine ⟨?_,?_⟩
 ·have h1 := h0.filter (fun x => x.1 == "internal/strconv.uint64pow10")
  rw [e1] at h1
  exact Lib.tabIs_of_head (g:=6) (t:=356) (e:=336) (n:=20) (by kernel_rfl) (by kernel_rfl) (by kernel_rfl) (by kernel_rfl) (by kernel_rfl) (by kernel_rfl) h1
 ·have h1 := h0.filter (fun x => x.1 == "strings.asciiSpace")
  rw [e2] at h1
  exact Lib.tabIs_of_head (g:=1) (t:=237) (e:=5) (n:=256) (by kernel_rfl) (by kernel_rfl) (by kernel_rfl) (by kernel_rfl) (by kernel_rfl) (by kernel_rfl) h1
theorem j5f {W:World} (h:laidMetH Tryz.prog y0y W):q6n W:=j8v h (by kernel_rfl) (by kernel_rfl)
end Go.Proofs.YtchdplceopegoaaGreatDoor
