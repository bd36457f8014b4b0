/- Texts as one: LawFormBack, As, Told, Laid, LaidS, LaidF, OpenT, TwP, TopP, PgB, SynF. -/
import Derived.Test.YthjapabokcajhaaGreatDoorPb12
import Derived.Test.YthjapabokcajhaaGreatDoorPb38
import Derived.Test.YthjapabokcajhaaGreatDoorPb43
import Derived.Deep.QuietTactic
import Derived.BigQuiet
import Derived.Test.YthjapabokcajhaaGreatDoorProg
import Derived.WalkKit
import Derived.LaidEql
import Derived.Stop.Asserts
import Derived.RowKitTokens
import Derived.Test.YthjapabokcajhaaGreatDoorPb06
import Derived.Test.YthjapabokcajhaaGreatDoorRows
import Derived.ChangeSame
import Derived.ChangeVars
import Derived.JoinedOf
import Derived.RowKit
import Derived.LaidLaws
import Derived.LaidHandle
import Derived.Stop.Joined
import Derived.Test.YthjapabokcajhaaGreatDoorPb09
import Derived.Lay
import Derived.LaidMore
import Derived.LaidSub
import Derived.LaidOnce
import Derived.Test.YthjapabokcajhaaGreatDoorPb08
import Derived.Deep.Slices
import Derived.Carry
import Derived.SizedLaws
import Derived.Test.YthjapabokcajhaaGreatDoorPb04
import Derived.Test.YthjapabokcajhaaGreatDoorPb34
import Derived.Test.YthjapabokcajhaaGreatDoorPb26
namespace Go.Proofs.YthjapabokcajhaaGreatDoor
open Go Go.RowKit
set_option maxRecDepth 100000
set_option maxHeartbeats 8000000
def fxF:List Td:=[⟨7,⟨#[97]⟩,0⟩,⟨3,⟨#[102]⟩,2⟩,⟨1,⟨#[]⟩,1⟩,⟨1,⟨#[]⟩,2⟩]
abbrev y2z:ByteArray:=⟨#[108,101,116,32,97,61,102,40,49,44,50,41,59]⟩
abbrev y3a:ByteArray:=⟨#[108,101,116,32,97,32,61,32,102,40,49,44,32,50,41,59,10]⟩
theorem j0v:(q1f [fxF]).2=0:=by decide +kernel
theorem v1x:z7p fxF=[108,101,116,32,97,32,61,32,102,40,49,44,32,50,41,59]:=by decide +kernel
theorem y3v:fmE [fxF]=0:=by decide +kernel
theorem v4z:q7q y2z [fxF] 0 0:=by
 refine .ok (by decide +kernel) ?_ j0v
 have h:=k4j [fxF] 0 false [] (q6t j0v).2 (fun h=>by cases h)
 have e:[fxF].flatMap q6w=q2w (btL y2z):=by decide +kernel
 rw [e] at h
 exact h
theorem v4y {T:ByteArray} {k f:Int} (h:z7r y2z 40 T k f):T=y3a∧k=0∧f=0:=by
 have h1:=z7r.ok (s:=y2z) (wd:=40) (by decide) v4z y3v
 have h2:wbS (z8o (40:Int).toNat [fxF])=y3a:=by
  have e1:z8o (40:Int).toNat [fxF]=z1j 40 fxF:=by simp [z8o]
  rw [e1,j9g (z3b _ _ (q6t j0v).2 fxF (by simp)) (by rw [v1x];decide),v1x]
  rfl
 rw [h2] at h1
 exact j7t h h1
theorem j7u {s:ByteArray} {wd:Int} {T:ByteArray} {k f:Int} (h:z7r s wd T k f) (hf:f≠0) {ps:List (List Td)} {k':Int} (hp:q7q s ps k' 0):¬ (fmE ps=0∧¬ (wd<10∨100<wd)):=by
 rintro ⟨h1,h2⟩
 cases h with
 | range h3=>exact h2 h3
 | bad _ hq hg=>exact hg (q1l hq hp).2.2
 | full _ hq hg=>
  obtain ⟨rfl,_⟩:=q1l hq hp
  exact hg h1
 | ok=>exact hf rfl
theorem j0p {s:ByteArray} {wd:Int} {T:ByteArray} {k:Int} (h:z7r s wd T k 0):∃ ps,q7q s ps 0 0∧q7q T ps 0 0:=by
 generalize hz:(0:Int)=z at h
 cases h with
 | range=>cases hz
 | bad _ _ hg=>exact absurd hz.symm hg
 | full _ _ hg=>exact absurd hz.symm hg
 | ok _ hp _=>exact ⟨_,hp,(j7v hp _).2⟩
theorem z8q (hF:y4w) (s:ByteArray) (wd other:Int) (w:World) (ht:z2a w) :
  Calls Tryz.prog 4 #[.string s,.int .i64 wd,.int .i64 other] w fun e w'=>e = .returned (.bool true)∧Below w.heap.size w w':=by
 have HFM:Hid (∀ (W:World) (s:ByteArray) (wd:Int),Below w.heap.size w W→Calls Tryz.prog 13 #[.string s,.int .i64 wd] W fun e w'=>∃ T k f,e = .returned (.tuple #[.string T,.int .i64 k,q1o f])∧z7r s wd T k f∧Below W.heap.size W w'):=fun W s wd h=>hF s wd W (ht.below h)
 have HSY:Hid (∀ (W:World) (s:ByteArray),Below w.heap.size w W→Calls Tryz.prog 14 #[.string s] W fun e w'=>∃ ps k f A c,e = .returned (.tuple #[.slice A ps.length c,.int .i64 k,q1o f])∧q7q s ps k f∧Prg w' A ps∧ps.length≤c∧Below W.heap.size W w'):=fun W s h=>z1d s W (ht.below h)
 have hxo:(y3a.toList == y3a.toList)=true:=by simp
 clear hF ht
 go_enter Tryz.func4,Tryz.ntmps4
 go_wp2_with fail
 refine (HFM.out _ _ _ (Below.refl _ _)).mono ?_
 rintro e w1 ⟨T0,k0,f0,rfl,hR0,b1⟩
 obtain ⟨rfl,rfl,rfl⟩:=v4y hR0
 rw [q0r]
 have HB1:Hid (Below w.heap.size w w1):=b1
 clear b1 hR0
 go_wp2_with fail
 refine (HFM.out _ _ _ HB1.out).mono ?_
 rintro e w2 ⟨T,k,f,rfl,hR,b2⟩
 have HB2:Hid (Below w.heap.size w w2):=q0i HB1.out (Nat.le_refl _) b2
 clear b2 HB1
 by_cases hf:f=0
 ·subst hf
  obtain ⟨ps,hp1,hp2⟩:=j0p hR
  obtain ⟨_,_,hl20,_⟩:=z1s hp1
  have hl40:=(j9l hp1).2
  have HP1:Hid (q7q s ps 0 0):=hp1
  have HP2:Hid (q7q T ps 0 0):=hp2
  have HRT:Hid (z7r s wd T k 0):=hR
  have HSM:Hid (∀ (W:World) (A A2:Option Addr) (c c2:Nat),Prg W A ps→Prg W A2 ps→Calls Tryz.prog 16 #[.slice A ps.length c,.slice A2 ps.length c2] W fun e w'=>e = .returned (.bool true)∧∃ q,w'=W.drewN q):=fun W A A2 c c2 h1 h2=>k6x ps ps A A2 c c2 (by omega) (fun t ht=>by have:=hl40 t ht;omega) true (by simp) W h1 h2
  rw [q0r]
  clear hp1 hp2 hR hl40
  go_wp2_with fail
  refine (HSY.out _ _ HB2.out).mono ?_
  rintro e w3 ⟨qs,k3,f3,A3,c3,rfl,hR3,hQ3,_,b3⟩
  obtain ⟨rfl,rfl,rfl⟩:=q1l HP1.out hR3
  rw [q0r]
  have HB3:Hid (Below w.heap.size w w3):=q0i HB2.out (Nat.le_refl _) b3
  have HQ3:Hid (Prg w3 A3 ps):=hQ3
  clear b3 HB2 hR3 hQ3
  go_wp2_with fail
  refine (HSY.out _ _ HB3.out).mono ?_
  rintro e w4 ⟨qs,k4,f4,A4,c4,rfl,hR4,hQ4,_,b4⟩
  obtain ⟨rfl,rfl,rfl⟩:=q1l HP2.out hR4
  rw [q0r]
  have HB4:Hid (Below w.heap.size w w4):=q0i HB3.out (Nat.le_refl _) b4
  have HS4:Hid (Calls Tryz.prog 16 #[.slice A3 ps.length c3,.slice A4 ps.length c4] w4 fun e w'=>e = .returned (.bool true)∧∃ q,w'=w4.drewN q):=HSM.out w4 A3 A4 c3 c4 (HQ3.out.below b4) hQ4
  clear b4 HB3 hR4 hQ4 HQ3 HSM
  generalize ps.length=np at HS4 ⊢
  go_wp2_with fail
  refine HS4.out.mono ?_
  rintro e w5 ⟨rfl,q5,rfl⟩
  have HB5:Hid (Below w.heap.size w (w4.drewN q5)):=q7x HB4.out q5
  clear HS4 HB4
  go_wp2_with fail
  refine (HFM.out _ _ _ HB5.out).mono ?_
  rintro e w6 ⟨U,k6,f6,rfl,hR6,b6⟩
  obtain ⟨rfl,_,rfl⟩:=z6k HP1.out HP2.out HRT.out hR6
  rw [q0r]
  have HB6:Hid (Below w.heap.size w w6):=q0i HB5.out (Nat.le_refl _) b6
  have htt:(T.toList == T.toList)=true:=by simp
  have htn:(T.toList != T.toList)=false:=by simp
  clear b6 HB5 hR6 HRT
  go_wp2_with fail
  refine (HFM.out _ _ _ HB6.out).mono ?_
  rintro e w7 ⟨U7,k7,f7,rfl,hR7,b7⟩
  have HR7:Hid (z7r s other U7 k7 f7):=hR7
  have HB7:Hid (Below w.heap.size w w7):=q0i HB6.out (Nat.le_refl _) b7
  clear b7 HB6 hR7
  go_wp2_with fail
  refine (HFM.out _ _ _ HB7.out).mono ?_
  rintro e w8 ⟨U8,k8,f8,rfl,hR8,b8⟩
  obtain ⟨rfl,rfl,rfl⟩:=z6k HP1.out HP2.out HR7.out hR8
  have HB8:Hid (Below w.heap.size w w8):=q0i HB7.out (Nat.le_refl _) b8
  have huu:(U7.toList == U7.toList)=true:=by simp
  clear b8 HB7 hR8 HR7 HP1 HP2
  by_cases h7:f7=0
  ·subst h7
   rw [q0r]
   go_wp2
   go_quiet (fail)
   go_wp2
   go_ret
   exact ⟨rfl,q7x HB8.out _⟩
  ·rw [q0l h7]
   clear h7
   go_wp2
   go_quiet (fail)
   go_wp2
   go_ret
   exact ⟨rfl,q7x HB8.out _⟩
 ·have HER:Hid (∀ ps k',q7q s ps k' 0→¬ (fmE ps=0∧¬ (wd<10∨100<wd))):=fun ps k' hp=>j7u hR hf hp
  rw [q0l hf]
  clear hf hR
  go_wp2_with fail
  refine (HSY.out _ _ HB2.out).mono ?_
  rintro e w3 ⟨qs,k3,f3,A3,c3,rfl,hR3,hQ3,_,b3⟩
  have HB3:Hid (Below w.heap.size w w3):=q0i HB2.out (Nat.le_refl _) b3
  by_cases h3:f3=0
  ·subst h3
   obtain ⟨_,_,hl20,hall⟩:=z1s hR3
   have hno:=HER.out qs k3 hR3
   have HLD:Hid (Calls Tryz.prog 15 #[.slice A3 qs.length c3,.int .i64 wd] w3 fun e w'=>e = .returned (.bool false)∧Below w3.heap.size w3 w'):=by
    have h9:=k1k hall (by omega) wd A3 c3 w3 hQ3
    rw [decide_eq_false hno] at h9
    exact h9
   rw [q0r]
   clear hR3 hQ3 b3 hall hno HER
   generalize qs.length=nq at HLD ⊢
   go_wp2_with fail
   refine HLD.out.mono ?_
   rintro e w4 ⟨rfl,b4⟩
   have HB4:Hid (Below w.heap.size w w4):=q0i HB3.out (Nat.le_refl _) b4
   clear b4
   go_wp2
   go_ret
   exact ⟨rfl,HB4.out⟩
  ·rw [q0l h3]
   clear h3 hR3 hQ3 b3 HER
   generalize qs.length=nq
   go_wp2
   go_ret
   exact ⟨rfl,HB3.out⟩
end Go.Proofs.YthjapabokcajhaaGreatDoor
namespace Go.Proofs.YthjapabokcajhaaGreatDoor
open Go.ChangeShapes Go.WideShapes Go.RowKit
theorem Tryz.own:ownKnob Tryz.prog.godebug=none:=by kernel_rfl
def z8x (P:Program) (os:Os):World:=
 let w0:=World.holding P os ⟨#[],#[],[]⟩
 { w0 with heap:=w0.heap.modify 0 fun
   | .cells _ t frozen=>.cells #[.iface 227 (.agg #[.pointer (some ⟨12,29,none⟩)])] t frozen
   | o=>o }
end Go.Proofs.YthjapabokcajhaaGreatDoor
namespace Go.Proofs.YthjapabokcajhaaGreatDoor
open Go.ChangeShapes Go.WideShapes Go.RowKit
set_option maxRecDepth 100000
def v0e : List (String × DataW Unit) := [("math/bits.deBruijn32tab", Rows.laid_math_bits_deBruijn32tab), ("math/bits.deBruijn64tab", Rows.laid_math_bits_deBruijn64tab), ("internal/strconv.uint64pow10", Rows.laid_internal_strconv_uint64pow10), ("unicode/utf8.acceptRanges", Rows.laid_unicode_utf8_acceptRanges), ("strconv.ErrRange", Rows.laid_strconv_ErrRange), ("strconv.ErrSyntax", Rows.laid_strconv_ErrSyntax), ("unicode.White_Space", Rows.laid_unicode_White_Space), ("strings.asciiSpace", Rows.laid_strings_asciiSpace), ("unicode/utf8.first", Rows.laid_unicode_utf8_first)]
abbrev y4z : List (String × DataW Unit) := [("math/bits.deBruijn32tab", Rows.laid_math_bits_deBruijn32tab), ("math/bits.deBruijn64tab", Rows.laid_math_bits_deBruijn64tab), ("internal/strconv.uint64pow10", Rows.laid_internal_strconv_uint64pow10), ("unicode/utf8.acceptRanges", Rows.laid_unicode_utf8_acceptRanges), ("errors.errorType", Rows.laid_errors_errorType), ("strconv.ErrRange", Rows.laid_strconv_ErrRange), ("strconv.ErrSyntax", Rows.laid_strconv_ErrSyntax), ("unicode.White_Space", Rows.laid_unicode_White_Space), ("strings.asciiSpace", Rows.laid_strings_asciiSpace), ("unicode/utf8.first", Rows.laid_unicode_utf8_first)]
def q7m (P:Program) (os:Os):World:=(z8x P os).layVars P v0e
theorem v0f (os:Os) (args:Array Value):laidMet Tryz.prog v0e ((q7m Tryz.prog os).forCall (fun _ _=>0) ⟨#[],args,[]⟩).memory:=by
 have e1:(v0e.filter fun x=>(v0e.map (·.1)).contains x.1)=v0e:=List.filter_eq_self.2 fun x hx=>List.contains_iff_mem.2 (List.mem_map.2 ⟨x,hx,rfl⟩)
 have e2:(v0e.filter fun x=>!(v0e.map (·.1)).contains x.1)=[]:=List.filter_eq_nil_iff.2 fun x hx=>by rw [List.contains_iff_mem.2 (List.mem_map.2 ⟨x,hx,rfl⟩)];simp
 have h:laidMet Tryz.prog v0e (q7m Tryz.prog os):=laidMet_layVars (w0:=z8x Tryz.prog os) (v0e.map (·.1)) [] (by rw [e1];rfl) (by rw [e1];kernel_rfl) (by rw [e1];kernel_rfl) (by rw [e2];exact LaidIn.none)
 exact h.of_heap (by simp [World.memory,World.forCall,Input.heap])
theorem j4d (os:Os) (args:Array Value):((q7m Tryz.prog os).forCall (fun _ _=>0) ⟨#[],args,[]⟩).Shaped Tryz.prog:=World.shaped_of_ZipB (by kernel_rfl) (by kernel_rfl)
theorem v8a (os:Os) (args:Array Value):laidMetH Tryz.prog y4z ((q7m Tryz.prog os).forCall (fun _ _=>0) ⟨#[],args,[]⟩).memory:=
 laidMetH_of_parts (v0f os args) (by kernel_rfl)
end Go.Proofs.YthjapabokcajhaaGreatDoor
namespace Go.Proofs.YthjapabokcajhaaGreatDoor
open Go.ChangeShapes Go.WideShapes Go.RowKit
set_option maxRecDepth 100000
abbrev y3l : List (String × DataW Unit) := [("math/bits.deBruijn32tab", Rows.laid_math_bits_deBruijn32tab), ("math/bits.deBruijn64tab", Rows.laid_math_bits_deBruijn64tab), ("internal/strconv.uint64pow10", Rows.laid_internal_strconv_uint64pow10), ("unicode/utf8.acceptRanges", Rows.laid_unicode_utf8_acceptRanges), ("strconv.ErrRange", Rows.laid_strconv_ErrRange), ("strconv.ErrSyntax", Rows.laid_strconv_ErrSyntax), ("unicode.White_Space", Rows.laid_unicode_White_Space), ("strings.asciiSpace", Rows.laid_strings_asciiSpace), ("unicode/utf8.first", Rows.laid_unicode_utf8_first)]
theorem v3q (os:Os) (args:Array Value):laidMetH Tryz.prog y3l ((q7m Tryz.prog os).forCall (fun _ _=>0) ⟨#[],args,[]⟩).memory:=by
 have h := (v8a os args).filter (fun x => x.1 != "errors.errorType")
 have e : (y4z.filter fun x => x.1 != "errors.errorType") = y3l := by rfl
 rw [e] at h
 exact h
theorem v0h {l : List (String × DataW Unit)} {W : World} (h : laidMetH Tryz.prog l W) (e1 : ((l.filter fun x => x.2.handleName?.isNone).filter fun x => x.1 == "internal/strconv.uint64pow10") = [("internal/strconv.uint64pow10", Lib.tabData .u64 Lib.pow10Tab)]) (e2 : ((l.filter fun x => x.2.handleName?.isNone).filter fun x => x.1 == "strings.asciiSpace") = [("strings.asciiSpace", Lib.tabData .u8 Lib.asciiSpaceTab)]) : z2a W := by
 have h0:=(laidMetH_iff.1 h).1
 refine ⟨?_,?_⟩
 ·have h1 := h0.filter (fun x => x.1 == "internal/strconv.uint64pow10")
  rw [e1] at h1
  exact Lib.tabIs_of_head (g:=4) (t:=321) (e:=255) (n:=20) (by kernel_rfl) (by kernel_rfl) (by kernel_rfl) (by kernel_rfl) (by kernel_rfl) (by kernel_rfl) h1
 ·have h1 := h0.filter (fun x => x.1 == "strings.asciiSpace")
  rw [e2] at h1
  exact Lib.tabIs_of_head (g:=1) (t:=216) (e:=5) (n:=256) (by kernel_rfl) (by kernel_rfl) (by kernel_rfl) (by kernel_rfl) (by kernel_rfl) (by kernel_rfl) h1
theorem j6i {W:World} (h:laidMetH Tryz.prog y3l W):z2a W:=v0h h (by kernel_rfl) (by kernel_rfl)
end Go.Proofs.YthjapabokcajhaaGreatDoor
namespace Go.Proofs.YthjapabokcajhaaGreatDoor
open Go
def v3a (ts:List Tn):Nat:=(ts.map fun t=>t.tk.length+2).sum
theorem q6y (t:Tn) (r:List Tn):v3a (t::r)=t.tk.length+2+v3a r:=by simp [v3a]
theorem z5w (l:Nat) (t:Tn):(brk l t).length≤t.tk.length+2:=by
 unfold brk
 split
 ·simp
 ·omega
theorem k9c:∀ ts:List Tn,(cmk ts).length≤v3a ts
 | []=>Nat.zero_le _
 | t::r=>by
  have ih:=k9c r
  rw [z1n,q6y,List.length_append]
  cases r with
  | nil=>simp [cmt];omega
  | cons u z=>
   simp only [cmt,List.length_cons]
   omega
theorem j4y (f:Tn→Tn→List Wd) (hf:∀ a b,(f a b).length≤a.tk.length+b.tk.length+5):∀ ts:List Tn,(two2 f ts).length≤v3a ts+1
 | []=>by simp [two2]
 | [_]=>by simp [two2]
 | [a,b]=>by
  have:=hf a b
  rw [q6y,q6y]
  show (f a b).length≤_
  omega
 | _::_::_::_=>by simp [two2]
theorem y1w (x:Td) (ts:List Tn):(q3h x ts).length≤3+v3a ts:=by
 have hc:=k9c ts
 unfold q3h
 split
 ·simp;omega
 ·split
  ·simp;omega
  ·split
   ·simp;omega
   ·split
    ·simp;omega
    ·split
     ·have:=j4y (fun a b=>brk 0 a++[43]::brk 1 b) (fun a b=>by
       have h1:=z5w 0 a
       have h2:=z5w 1 b
       simp;omega) ts
      omega
     ·have:=j4y (fun a b=>brk 1 a++[42]::brk 2 b) (fun a b=>by
       have h1:=z5w 1 a
       have h2:=z5w 2 b
       simp;omega) ts
      omega
theorem k2i:∀ F:Fo,v3a F.trs≤5*F.nodes.length
 | .nil=>by simp [Fo.trs,v3a]
 | .cons x k n=>by
  have h1:=k2i k
  have h2:=k2i n
  have h3:=y1w x k.trs
  rw [Fo.trs,q6y,Fo.nodes]
  simp only [q1u,List.length_cons,List.length_append]
  omega
theorem y1t {t:List Td} (h:q0f t=0) (h9:opT t≠9):(q6w t).length≤205:=by
 have h40:=(q2e h).1
 obtain ⟨x,y,k,rfl,hok,_,hk,hx⟩:=q4q h h9
 rw [(z1k hok hk).2]
 have h1:=k2i (.cons y k .nil)
 rw [Fo.trs,q6y] at h1
 simp only [List.length_cons] at h40
 have h2:(hdK (Fo.cons y k .nil).trs).length≤200:=by
  show (q1u y k.trs).tk.length≤200
  omega
 unfold stK
 split
 ·simp only [List.length_cons,List.length_append,List.length_nil];omega
 ·split
  ·simp only [List.length_cons,List.length_append,List.length_nil];omega
  ·simp
theorem j9y {t:List Td} (h:q0f t=0) (h9:opT t≠9) {u:List Int} {r:List UInt8} (hs:(q0n t).show u = .ok r):r.length≤20000:=by
 have h1:=v1s h h9 (k4m hs)
 have h2:=y1t h h9
 have h3:90*(q6w t).length≤90*205:=Nat.mul_le_mul_left _ h2
 omega
end Go.Proofs.YthjapabokcajhaaGreatDoor
namespace Go.Proofs.YthjapabokcajhaaGreatDoor
open Go Go.RowKit
theorem k8i {t:List Td} (h:q8k t=0) (n:Nat) (hn:n≤100) (A:Option Addr) (c:Nat) (w:World) (hc:(q7g t).length≤c) (hN:q2i w A (q7g t)) :
  Calls Tryz.prog 71 #[.slice A (q7g t).length c,.int .i64 (n:Int)] w fun e w'=>(∃ s wa wl wc,∃ q1 q2:Int,e = .returned (.tuple #[.string (wbS s),.slice wa wl wc,.agg #[.int .i64 q1,.int .i64 q2],.nilIface])∧dcL n t=s++[10]∧s.length≤20000)∧Below w.heap.size w w':=by
 obtain ⟨h0,h9,hd,hl⟩:=j1j h
 obtain ⟨e1,e2⟩:=k8b (wd:=n) (q7s h0 h9).w hd (by rw [hd];exact hl) hn
 have hb:(q0n t).best n=some (bs n 0 [(0,q0n t)]):=by rw [q8p,q2r]
 obtain ⟨_,b2,_⟩:=q7b hb
 have e3:bT (q7g t) (n:Int)=wbS ((q0n t).txt (bs n 0 [(0,q0n t)]).2):=by
  rw [bT,if_pos e1,e2,j8e h,b2]
  rfl
 refine (k8d (q7g t) (n:Int) A c hc w hN).mono ?_
 rintro e w' ⟨⟨wa,wc,rfl,_⟩,hbl⟩
 refine ⟨⟨_,wa,_,wc,_,_,by rw [e3,e1,q0r],rfl,?_⟩,hbl⟩
 exact j9y h0 h9 b2
theorem k9z {tx:ByteArray} (h:q2t tx=0) (n:Nat) (h1:10≤n) (h2:n≤100) (A:Option Addr) (c:Nat) (w:World) (hc:(q0h (btL tx)).length≤c) (hW:Wds w A ((q0h (btL tx)).map wbS)) :
  Calls Tryz.prog 69 #[.slice A (q0h (btL tx)).length c,.int .i64 ((n:Int) - 2)] w fun e w'=>(∃ L c,e = .returned (.tuple #[.slice L (q2m (n - 2) ((q0h (btL tx)).map wbS)).length c,.nilIface])∧q2p w.heap.size (.slice L (q2m (n - 2) ((q0h (btL tx)).map wbS)).length c) (q2m (n - 2) ((q0h (btL tx)).map wbS)) w')∧Below w.heap.size w w':=by
 have e:((n:Int) - 2)=((n - 2:Nat):Int):=by omega
 have e0:q5o ((q0h (btL tx)).map wbS) ((n - 2:Nat):Int)=0:=by
  have hf:q1e ((q0h (btL tx)).map wbS)=0:=h
  rw [q5o,if_neg (by simp [hf]),if_neg (by omega)]
 have h3:=v0w ((q0h (btL tx)).map wbS) A c (n - 2) w (by rw [List.length_map];exact hc) hW e0
 rw [List.length_map] at h3
 rw [e]
 exact h3
theorem j2t:∀ (ls:List ByteArray),ls≠[]→[35,32]++Lib.join (ls.map fun x=>x.data.toList) [10,35,32]++[10]=ls.flatMap ntF
 | [],h=>absurd rfl h
 | [l],_=>by simp [Lib.join_one,ntF,btL]
 | l::u::r,_=>by
  have ih:=j2t (u::r) (by simp)
  rw [List.flatMap_cons,←ih]
  simp [Lib.join_cons,Lib.joinTail,ntF,btL]
theorem k3x {tx:ByteArray} (n:Nat) (h0:q0h (btL tx)≠[]):ntL n tx=[35,32]++Lib.join ((q2m (n - 2) ((q0h (btL tx)).map wbS)).map fun x=>x.data.toList) [10,35,32]++[10]:=by
 have hne:q2m (n - 2) ((q0h (btL tx)).map wbS)≠[]:=by
  rw [q5c _ (by simpa using h0)]
  simp
 rw [j2t _ hne,ntL,if_neg h0]
 rfl
end Go.Proofs.YthjapabokcajhaaGreatDoor
namespace Go.Proofs.YthjapabokcajhaaGreatDoor
open Go
theorem v0o {x:Td} (h:q0o x=0):x.tx.size≤1300:=by
 unfold q0o at h
 split at h
 ·cases h
 ·split at h
  ·cases h
  ·split at h
   ·cases h
   ·rename_i h3
    split at h
    ·exact j8y h
    ·rename_i h4
     split at h
     ·cases h
     ·rename_i h5
      cases ht:q2f x.op with
      | false=>
       have:¬ 0<x.tx.size:=fun h6=>h3 (.inr ⟨ht,h6⟩)
       omega
      | true=>
       cases hn:q0z x.tx with
       | false=>exact absurd ⟨ht,hn⟩ h5
       | true=>
        have:=q2c hn
        rw [q0b] at this
        omega
theorem j3m {ps:List (List Td)} (h:(q1f ps).2=0):∀ t∈ps,∀ x∈t,x.tx.size≤1300:=by
 intro t ht x hx
 have h1:=z3b ps 0 (q6t h).2 t ht
 exact v0o ((q2e h1).2.1 x hx)
end Go.Proofs.YthjapabokcajhaaGreatDoor
