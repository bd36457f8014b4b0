/- Texts as one: TreZ, PgC, FilG, BstT, NodS. -/
import Derived.Test.YthjapabokcajhaaGreatDoorPb11
import Derived.Test.YthjapabokcajhaaGreatDoorPb08
import Derived.Test.YthjapabokcajhaaGreatDoorPb09
import Derived.Test.YthjapabokcajhaaGreatDoorPb06
namespace Go.Proofs.YthjapabokcajhaaGreatDoor
open Go Go.RowKit
set_option maxRecDepth 100000
set_option maxHeartbeats 4000000
def k7o (ds:List Td):Prop:=∀ x∈ds,x.tx.size≤140737488351232
theorem j4j (x:Td) (w:World):Calls Tryz.prog 154 #[tdV x] w fun e w'=>e = .returned (.int .i64 (kdZ x))∧Below w.heap.size w w':=by
 obtain ⟨op,tx,n⟩:=x
 have hb:∀ O:Obj,Below w.heap.size w (w.alloc O):=fun O=>(Below.refl _ w).alloc (Nat.le_refl _) O
 by_cases h3:op=3
 ·subst h3
  go_enter Tryz.func154,Tryz.ntmps154
  go_wp2
  go_ret
  exact ⟨by simp [kdZ],hb _⟩
 by_cases h4:op=4
 ·subst h4
  go_enter Tryz.func154,Tryz.ntmps154
  go_wp2
  go_ret
  exact ⟨by simp [kdZ],hb _⟩
 by_cases h5:op=5
 ·subst h5
  go_enter Tryz.func154,Tryz.ntmps154
  go_wp2
  go_ret
  exact ⟨by simp [kdZ,kdT],hb _⟩
 by_cases h6:op=6
 ·subst h6
  go_enter Tryz.func154,Tryz.ntmps154
  go_wp2
  go_ret
  exact ⟨by simp [kdZ,kdT],hb _⟩
 by_cases h7:op=7
 ·subst h7
  go_enter Tryz.func154,Tryz.ntmps154
  go_wp2
  go_ret
  exact ⟨by simp [kdZ,kdT],hb _⟩
 by_cases h8:op=8
 ·subst h8
  go_enter Tryz.func154,Tryz.ntmps154
  go_wp2
  go_ret
  exact ⟨by simp [kdZ,kdT],hb _⟩
 have HE:Hid (kdZ ⟨op,tx,n⟩=0):=by show kdZ ⟨op,tx,n⟩=0;simp [kdZ,kdT,h3,h4,h5,h6,h7,h8]
 have g3:(op == 3)=false:=by simp [h3]
 have g4:(op == 4)=false:=by simp [h4]
 have g5:(op == 5)=false:=by simp [h5]
 have g6:(op == 6)=false:=by simp [h6]
 have g7:(op == 7)=false:=by simp [h7]
 have g8:(op == 8)=false:=by simp [h8]
 clear h3 h4 h5 h6 h7 h8
 go_enter Tryz.func154,Tryz.ntmps154
 go_wp2
 go_ret
 exact ⟨by rw [HE.out];rfl,hb _⟩
theorem v0g (x:Td) (h:q0o x=0) (w:World):Calls Tryz.prog 154 #[.agg #[.int .i64 x.op,.string x.tx,.int .i64 x.n]] w fun e w'=>e = .returned (.int .i64 (kdT x:Int))∧Below w.heap.size w w':=by
 have:=j4j x w
 rw [v2c h] at this
 exact this
def v3j (o:Option Nat) (j:Nat) (b:Bool):Prop:=o=if b=true then some j else none
def v1f (ds:List Td) (i:Nat) (e:Ending):Prop:=∃ (j:Nat) (b:Bool),e = .returned (.tuple #[.int .i64 (j:Int),.bool b])∧v3j (q3n ds i 1) j b
theorem v3j.yes {o:Option Nat} {j:Nat} (h:o=some j):v3j o j true:=h
theorem v3j.no {o:Option Nat} {j:Nat} (h:o=none):v3j o j false:=h
theorem k6z (ds:List Td) (a:Option Addr) (cap:Nat) (hl:ds.length≤40) (hk:∀ x∈ds,q0o x=0) (i:Nat) (hi:i≤ds.length) (w:World) (hN:Tds w a ds) :
  Calls Tryz.prog 102 #[.slice a ds.length cap,.int .i64 i] w fun e w'=>v1f ds i e∧Below w.heap.size w w':=by
 have HN:Hid (Tds w a ds):=hN
 have HK:Hid (∀ x∈ds,q0o x=0):=hk
 clear hN hk
 go_enter Tryz.func102,Tryz.ntmps102
 go_wp2
 go_loopw [1,6] (fun z m wr=>Below w.heap.size w wr∧∃ k q:Nat,k≤ds.length∧q≤1+6*k∧z = .int .i64 (k:Int)∧m = .int .i64 (q:Int)∧q3n ds i 1=q3n ds k q) (fun z _ _=>ds.length - (intOf z).toNat)
 case atStart=>exact ⟨Below.refl _ _,i,1,hi,by omega,rfl,rfl,rfl⟩
 case round=>
  obtain ⟨hbr,k,q,hk1,hq,rfl,rfl,he⟩:=hrel
  have HE:Hid (q3n ds i 1=q3n ds k q):=he
  have HBR:Hid (Below w.heap.size w wr):=hbr
  clear he hbr
  by_cases h0:q=0
  ·subst h0
   have HZ:Hid (q3n ds i 1=some k):=by
    show _=_
    rw [HE.out,z8i]
   go_wp2
   go_ret2
   exact ⟨⟨k,true,rfl,v3j.yes HZ.out⟩,HBR.out⟩
  ·obtain ⟨p,rfl⟩:∃ p,q=p+1:=⟨q - 1,by omega⟩
   have hpc:((p+1:Nat):Int)=(p:Int)+1:=by omega
   have hpi:(0:Int)<(p:Int)+1:=by omega
   have hpe:((p:Int)+1 == 0)=false:=beq_false_of_ne (by omega)
   by_cases hlt:k<ds.length
   ·have hki:(k:Int)<(ds.length:Int):=by omega
    obtain ⟨b,o,ea,hb,c1,c2,c3⟩:=(HN.out.below HBR.out) k hlt
    subst ea
    have hkd:=v2b (HK.out _ (List.getElem_mem hlt))
    have HM:Hid (∀ W:World,Calls Tryz.prog 154 #[.agg #[.int .i64 ds[k].op,.string ds[k].tx,.int .i64 ds[k].n]] W fun e w'=>e = .returned (.int .i64 (kdT ds[k]:Int))∧Below W.heap.size W w'):=fun W=>v0g _ (HK.out _ (List.getElem_mem hlt)) W
    have HS:Hid (q3n ds i 1=q3n ds (k+1) (kdT ds[k]+p)):=by
     show _=_
     rw [HE.out,z2j ds k p hlt]
    generalize kdT ds[k]=d at hkd HM HS
    generalize ds[k].op=xo at c1 HM
    generalize ds[k].tx=xt at c2 HM
    generalize ds[k].n=xn at c3 HM
    rw [hpc]
    clear h0 hpe hpc
    go_wp2_with fail
    refine (HM.out _).mono ?_
    rintro e w2 ⟨rfl,b2⟩
    have HB2:Hid (Below w.heap.size w w2):=q0i HBR.out (Nat.le_refl _) b2
    clear b2 c1 c2 c3
    go_wp2
    go_roundw
    case rel=>exact ⟨HB2.out,k+1,d+p,by omega,by omega,by go_num,by go_num,HS.out⟩
    case measure=>simp [intOf];omega
   ·have hki:¬ (k:Int)<(ds.length:Int):=by omega
    have HZ:Hid (q3n ds i 1=none):=by
     show _=_
     rw [HE.out,q8v ds k p (by omega)]
    rw [hpc]
    clear h0 hpc
    go_wp2
    go_ret2
    exact ⟨⟨k,false,rfl,v3j.no HZ.out⟩,HBR.out⟩
theorem v0l {w:World} {a:Option Addr} {c:Nat} {x:Td} {r:List Td} (h:Tds w a (x::r)) (hc:r.length+1≤c) :
  ∃ A,(∀ W:World,(Instr.slice 22 (.slice a (r.length+1) c) (some (.int .i64 1)) none none).run Tryz.prog W = .ok (.slice A r.length (c - 1)) W)∧Tds w A r:=by
 obtain ⟨b,o,rfl,hb,_,_,_⟩:=h 0 (by simp)
 refine ⟨if c=1 then some ⟨b,o,none⟩ else some ⟨b,o+3,none⟩,fun W=>?_,?_⟩
 ·have h1:=run_slice_l (P:=Tryz.prog) W 22 (some ⟨b,o,none⟩) (r.length+1) c Tryz.underlying22 .i64 1 (by omega) (by omega)
  rw [h1]
  have hz:(sizeOf (Tryz.prog.elem 22)).run Tryz.prog W = .ok 3 W:=by kernel_rfl
  rw [hz]
  have ha:(⟨b,o,none⟩:Addr).add 3=⟨b,o+3,none⟩:=rfl
  simp [Result.andThen,sliced,ha]
 ·by_cases e:c=1
  ·have:r=[]:=List.eq_nil_of_length_eq_zero (by omega)
   subst this
   exact fun i hi=>by simp at hi
  ·rw [if_neg e]
   intro i hi
   obtain ⟨b',o',e1,hb',d1,d2,d3⟩:=h (i+1) (by simp;omega)
   cases e1
   rw [show o+(i+1)*3=o+3+i*3 by omega] at d1 d2 d3
   exact ⟨b,o+3,rfl,hb,d1,d2,d3⟩
theorem y1j {x:Td} (h:q0o x=0):1≤x.op∧x.op≤9:=by
 unfold q0o at h
 split at h
 ·cases h
 ·omega
def q6k (ds:List Td):Bool:=decide (q3n ds 0 1=some ds.length) && j4p ds
theorem j4b:q6k []=false:=by
 have:q3n [] 0 1=none:=q8v _ _ _ (Nat.le_refl _)
 simp [q6k,this]
theorem k7e {ds:List Td} (hl:ds.length≤40) (ha:∀ x∈ds,q0o x=0):q0f ds=if q6k ds=true then 0 else 2:=by
 rw [j4q hl ha]
 simp only [q6k,Bool.and_eq_true,decide_eq_true_eq]
theorem j4k (ds:List Td) (a:Option Addr) (cap:Nat) (hl:ds.length≤40) (hk:∀ x∈ds,q0o x=0) (w:World) (hc:ds.length≤cap) (hN:Tds w a ds) :
  Calls Tryz.prog 67 #[.slice a ds.length cap] w fun e w'=>e = .returned (.bool (q6k ds))∧Below w.heap.size w w':=by
 cases ds with
 | nil=>
  rw [j4b]
  clear hk hN hl hc
  go_enter Tryz.func67,Tryz.ntmps67
  go_wp2
  go_ret
  exact ⟨rfl,Below.refl _ _⟩
 | cons x r=>
  have HN:Hid (Tds w a (x::r)):=hN
  have HK:Hid (∀ y∈x::r,q0o y=0):=hk
  obtain ⟨b,o,ea,hb,c1,_,_⟩:=hN 0 (by simp)
  have hx:=y1j (hk x (by simp))
  have hlen:(x::r).length=r.length+1:=rfl
  rw [hlen] at hl hc ⊢
  have hp:¬ (r.length:Int)+1=0:=by omega
  have hpb:((r.length:Int)+1 == 0)=false:=beq_false_of_ne hp
  have hp0:(0:Int)<(r.length:Int)+1:=by omega
  have c1':w.cell? ⟨b,o,none⟩=some (.int .i64 x.op):=by simpa using c1
  clear c1 hN
  subst ea
  by_cases h7:7≤x.op
  ·have HX:Hid (exB x.op=false):=by show exB x.op=false;simp [exB];omega
   obtain ⟨A,hsl,hT⟩:=v0l HN.out hc
   have HT:Hid (Tds w A r):=hT
   clear hT
   generalize hxo:x.op=xo at c1' HX
   go_enter Tryz.func67,Tryz.ntmps67
   go_wp2_with fail
   refine (q9p xo _).mono ?_
   rintro e w2 ⟨rfl,rfl⟩
   rw [HX.out]
   go_wp2_with fail
   go_loopw [20] (fun i wr=>Below w.heap.size w wr∧∃ k:Nat,k≤r.length∧i = .int .i64 (k:Int)∧∀ y∈r.take k,y.op<7) (fun i _=>r.length - (intOf i).toNat)
   case atStart=>exact ⟨Below.refl _ _,0,Nat.zero_le _,rfl,by simp⟩
   case round=>
    obtain ⟨hbr,k,hk1,rfl,hall⟩:=hrel
    have HBR:Hid (Below w.heap.size w wr):=hbr
    have HAL:Hid (∀ O:Obj,Below w.heap.size w (wr.alloc O)):=fun O=>hbr.alloc hbr.size O
    clear hbr
    have HA:Hid (∀ y∈r.take k,y.op<7):=hall
    clear hall hsl
    by_cases hlt:k<r.length
    ·have hki:(k:Int)<(r.length:Int):=by omega
     obtain ⟨b1,o1,e1,hb1,d1,d2,d3⟩:=(HT.out.below HBR.out) k hlt
     subst e1
     have hy:=y1j (HK.out r[k] (by simp))
     by_cases hyt:r[k].op<7
     ·have HY:Hid (exB r[k].op=true):=by show exB r[k].op=true;simp [exB];omega
      have HA2:Hid (∀ y∈r.take (k+1),y.op<7):=by
       intro y hyy
       rw [List.take_succ_eq_append_getElem hlt] at hyy
       rcases List.mem_append.1 hyy with hyy | hyy
       ·exact HA.out y hyy
       ·simp at hyy;subst hyy;exact hyt
      clear hyt hy
      generalize r[k].op=yo at d1 HY
      generalize r[k].tx=yt at d2
      generalize r[k].n=yn at d3
      go_wp2_with fail
      refine (q9p yo _).mono ?_
      rintro e w2 ⟨rfl,rfl⟩
      rw [HY.out]
      go_wp2
      go_roundw
      case rel=>exact ⟨HAL.out _,k+1,by omega,by go_num,HA2.out⟩
      case measure=>simp [intOf];omega
     ·have HY:Hid (exB r[k].op=false):=by show exB r[k].op=false;simp [exB];omega
      have HF:Hid (q6k (x::r)=false):=by
       show _=_
       have:j4p (x::r)=false:=by
        simp only [j4p,Bool.and_eq_false_iff,List.all_eq_false]
        exact .inr ⟨r[k],List.getElem_mem hlt,by simp [hyt]⟩
       simp [q6k,this]
      clear hyt hy
      generalize r[k].op=yo at d1 HY
      generalize r[k].tx=yt at d2
      generalize r[k].n=yn at d3
      go_wp2_with fail
      refine (q9p yo _).mono ?_
      rintro e w2 ⟨rfl,rfl⟩
      rw [HY.out]
      go_wp2
      go_ret
      exact ⟨by rw [HF.out];rfl,HAL.out _⟩
    ·have hki:¬ (k:Int)<(r.length:Int):=by omega
     have HTOP:Hid (j4p (x::r)=true):=by
      show _=_
      simp only [j4p,Bool.and_eq_true,decide_eq_true_eq,List.all_eq_true]
      refine ⟨by omega,fun y hy=>HA.out y ?_⟩
      rw [List.take_of_length_le (by omega)]
      exact hy
     have HEO:Hid (Calls Tryz.prog 102 #[.slice (some ⟨b,o,none⟩) (r.length+1) cap,.int .i64 0] wr fun e w'=>v1f (x::r) 0 e∧Below wr.heap.size wr w'):=k6z (x::r) _ cap hl HK.out 0 (Nat.zero_le _) wr (HN.out.below HBR.out)
     go_wp2_with fail
     refine HEO.out.mono ?_
     rintro e w2 ⟨⟨j,bb,rfl,he⟩,b2'⟩
     have b2:=q0i HBR.out (Nat.le_refl _) b2'
     clear b2'
     cases bb with
     | false=>
      have he:q3n (x::r) 0 1=none:=he
      have HF:Hid (q6k (x::r)=false):=by
       show _=_
       simp [q6k,he]
      clear he
      go_wp2
      go_ret
      exact ⟨by rw [HF.out];rfl,b2⟩
     | true=>
      have he:q3n (x::r) 0 1=some j:=he
      by_cases hj:(j:Int)=(r.length:Int)+1
      ·have HF:Hid (q6k (x::r)=true):=by
        show _=_
        have:j=r.length+1:=by omega
        simp [q6k,he,this,HTOP.out]
       have hjb:((j:Int) == (r.length:Int)+1)=true:=beq_iff_eq.2 hj
       clear he hj
       go_wp2
       go_ret
       exact ⟨by rw [HF.out];rfl,b2⟩
      ·have HF:Hid (q6k (x::r)=false):=by
        show _=_
        have:¬ j=r.length+1:=by omega
        simp [q6k,he,this]
       have hjb:((j:Int) == (r.length:Int)+1)=false:=beq_false_of_ne hj
       clear he hj
       go_wp2
       go_ret
       exact ⟨by rw [HF.out];rfl,b2⟩
  ·have HX:Hid (exB x.op=true):=by show exB x.op=true;simp [exB];omega
   have HF:Hid (q6k (x::r)=false):=by
    show _=_
    have:j4p (x::r)=false:=by simp [j4p,h7]
    simp [q6k,this]
   generalize x.op=xo at c1' HX
   go_enter Tryz.func67,Tryz.ntmps67
   go_wp2_with fail
   refine (q9p xo _).mono ?_
   rintro e w2 ⟨rfl,rfl⟩
   rw [HX.out]
   go_wp2
   go_ret
   exact ⟨by rw [HF.out];rfl,Below.refl _ _⟩
theorem q5z (ds:List Td) (a:Option Addr) (cap:Nat) (w:World) (hc:ds.length≤cap) (hN:Tds w a ds) (hsz:k7o ds):Calls Tryz.prog 29 #[.slice a ds.length cap] w fun e w'=>e = .returned (q1o (q0f ds))∧Below w.heap.size w w':=by
 have HN:Hid (Tds w a ds):=hN
 have HSZ:Hid (k7o ds):=hsz
 clear hN hsz
 by_cases h4:40<(ds.length:Int)
 ·rw [k7c (by omega),k3h]
  go_enter Tryz.func29,Tryz.ntmps29
  go_wp2
  go_ret
  exact ⟨rfl,Below.refl _ _⟩
 ·have hl:ds.length≤40:=by omega
  go_enter Tryz.func29,Tryz.ntmps29
  go_wp2
  go_loopw [12] (fun i wr=>Below w.heap.size w wr∧∃ k:Nat,k≤ds.length∧i = .int .i64 k∧∀ x∈ds.take k,q0o x=0) (fun i _=>ds.length - (intOf i).toNat)
  case atStart=>exact ⟨Below.refl _ _,0,Nat.zero_le _,rfl,by simp⟩
  case round=>
   obtain ⟨hB,k,hk,rfl,hall⟩:=hrel
   have HA:Hid (∀ x∈ds.take k,q0o x=0):=hall
   have HM:Hid (Tds wr a ds):=HN.out.below hB
   clear hall
   by_cases hlt:k<ds.length
   ·obtain ⟨b,o,ea,hb,c1,c2,c3⟩:=HM.out k hlt
    have htx:=HSZ.out _ (List.getElem_mem hlt)
    subst ea
    by_cases h0:q0o ds[k]=0
    ·have H0:Hid (q0o ds[k]=0):=h0
     clear h0
     go_wp2_with fail
     refine (k0b ds[k] _ htx).mono ?_
     rintro e w2 ⟨rfl,hb2⟩
     rw [H0.out,q0r]
     have hB2:=z7y hB (Nat.le_refl _) hb2
     clear hb2
     go_wp2
     go_roundw
     case rel=>exact ⟨hB2,k+1,by omega,by go_num,k7b hlt HA.out H0.out⟩
     case measure=>simp [intOf];omega
    ·have H0:Hid (q0o ds[k]≠0):=h0
     clear h0
     go_wp2_with fail
     refine (k0b ds[k] _ htx).mono ?_
     rintro e w2 ⟨rfl,hb2⟩
     rw [q0l H0.out]
     have hB2:=z7y hB (Nat.le_refl _) hb2
     clear hb2
     go_wp2
     go_ret
     refine ⟨?_,hB2⟩
     rw [k7d hl hlt HA.out H0.out,q0l H0.out]
     rfl
   ·have HK:Hid (∀ x∈ds,q0o x=0):=by
     have:=HA.out
     rw [List.take_of_length_le (by omega)] at this
     exact this
    have HF:Hid (q0f ds=if q6k ds=true then 0 else 2):=k7e hl HK.out
    have HS:Hid (Calls Tryz.prog 67 #[.slice a ds.length cap] wr fun e w'=>e = .returned (.bool (q6k ds))∧Below wr.heap.size wr w'):=j4k ds a cap hl HK.out wr hc HM.out
    generalize q6k ds=sb at HF HS
    go_wp2_with fail
    refine HS.out.mono ?_
    rintro e w2 ⟨rfl,b2⟩
    have B2:=q0i hB (Nat.le_refl _) b2
    clear b2
    cases sb with
    | true=>
     go_wp2
     go_ret
     exact ⟨by rw [HF.out];rfl,B2⟩
    | false=>
     go_wp2
     go_ret
     exact ⟨by rw [HF.out];rfl,B2⟩
end Go.Proofs.YthjapabokcajhaaGreatDoor
namespace Go.Proofs.YthjapabokcajhaaGreatDoor
open Go Go.RowKit
abbrev y5c:Prop:=∀ (t:List Td) (a:Option Addr) (cap:Nat) (wd:Int) (w:World),t.length≤cap→Tds w a t→k7o t→z2a w→
 Calls Tryz.prog 9 #[.slice a t.length cap,.int .i64 wd] w fun e w'=>e = .returned (.tuple #[.string (j6c t wd),q1o (k1w t wd)])∧Below w.heap.size w w'
def z1w (s:ByteArray) (wd:Int) (w:World) (e:Ending) (w':World):Prop:=∃ T k f,e = .returned (.tuple #[.string T,.int .i64 k,q1o f])∧z7r s wd T k f∧Below w.heap.size w w'
abbrev y4w:Prop:=∀ (s:ByteArray) (wd:Int) (w:World),z2a w→Calls Tryz.prog 13 #[.string s,.int .i64 wd] w fun e w'=>z1w s wd w e w'
theorem k1x {t:List Td} {wd:Int} (h:k1w t wd≠0):j6c t wd=⟨#[]⟩:=by rw [j6c,if_neg h]
theorem j2z {t:List Td} {n:Nat} (h:k1w t (n:Int)=0):j6c t (n:Int)=wbS (z1j n t):=by rw [j6c,if_pos h];rfl
end Go.Proofs.YthjapabokcajhaaGreatDoor
namespace Go.Proofs.YthjapabokcajhaaGreatDoor
structure Pl where
 nd:Nd
 en:Nat
 nx:Nat
 dp:Nat
 lg:Int
 t:Tr
 ks:List (Nat × Tr)
def Tr.root:Tr→Nd
 | .leaf x=>x
 | .one x _=>x
 | .two x _ _=>x
def lgF:Option (List UInt8)→Int
 | none=>-1
 | some s=>(s.length:Int)
def Tr.lg:Tr→Int
 | .one x a=>if x.op=8 then lgF a.flat else 0
 | _=>0
def Tr.sz (t:Tr):Nat:=t.nodes.length
theorem j4g (x:Nd):(Tr.leaf x).sz=1:=rfl
theorem k0a (x:Nd) (a:Tr):(Tr.one x a).sz=1+a.sz:=by simp [Tr.sz,Tr.nodes];omega
theorem z3g (x:Nd) (a b:Tr):(Tr.two x a b).sz=1+a.sz+b.sz:=by simp [Tr.sz,Tr.nodes];omega
theorem k4r (t:Tr):0<t.sz:=t.pos
def z5b (t:Tr) (i nx dp:Nat) (ks:List (Nat × Tr)):Pl:=⟨t.root,i+t.sz,nx,dp,t.lg,t,ks⟩
def z9u:Tr→Nat→Nat→Nat→List (Nat × Tr)→List Pl
 | .leaf x,i,nx,dp,ks=>[z5b (.leaf x) i nx dp ks]
 | .one x a,i,nx,dp,ks=>z5b (.one x a) i nx dp ks::z9u a (i+1) nx (dp+x.n.toNat) ks
 | .two x a b,i,nx,dp,ks=>z5b (.two x a b) i nx dp ks::((if x.op=6 then z9u a (i+1) (i+1+a.sz) dp ((dp,b)::ks) else z9u a (i+1) nx dp ks)++z9u b (i+1+a.sz) nx dp ks)
theorem q9i:∀ (t:Tr) (i nx dp:Nat) (ks:List (Nat × Tr)),(z9u t i nx dp ks).length=t.sz
 | .leaf x,i,nx,dp,ks=>rfl
 | .one x a,i,nx,dp,ks=>by rw [z9u,List.length_cons,q9i a,k0a];omega
 | .two x a b,i,nx,dp,ks=>by
  rw [z9u,List.length_cons,List.length_append,q9i b,z3g]
  split<;>rw [q9i a]<;>omega
theorem j3j (t:Tr) (i nx dp:Nat) (ks:List (Nat × Tr)):∃ r,z9u t i nx dp ks=z5b t i nx dp ks::r:=by
 cases t<;>exact ⟨_,rfl⟩
theorem z0r:∀ (t:Tr) (i nx dp:Nat) (ks:List (Nat × Tr)),(z9u t i nx dp ks).map (·.nd)=t.nodes
 | .leaf x,i,nx,dp,ks=>rfl
 | .one x a,i,nx,dp,ks=>by rw [z9u,List.map_cons,z0r a];rfl
 | .two x a b,i,nx,dp,ks=>by
  rw [z9u,List.map_cons,List.map_append,z0r b]
  split<;>rw [z0r a]<;>rfl
def kont (R:List Pl) (i:Nat):List (Nat × Tr):=match R[i]? with | some r=>(r.dp,r.t)::r.ks | none=>[]
theorem k3o {R:List Pl} {i:Nat} (h:R.length≤i):kont R i=[]:=by rw [kont,List.getElem?_eq_none h]
structure Sp (R:List Pl) (L M:Nat) (i:Nat) (t:Tr) (nx dp:Nat) (ks:List (Nat × Tr)):Prop where
 pl:∃ post,R.drop i=z9u t i nx dp ks++post
 kx:kont R nx=ks
 lo:i+t.sz≤nx
 hi:nx≤R.length
 wf:t.Wf
 bl:t.lf+lfK ks≤L
 bd:dp+t.dsum≤M
 bk:KB M ks
section
variable {R:List Pl} {L M i nx dp:Nat} {ks:List (Nat × Tr)} {t a b:Tr} {x:Nd}
theorem q8u {l:List Pl} {i:Nat} {r:Pl} {q:List Pl} (h:l.drop i=r::q):l[i]? = some r∧l.drop (i+1)=q:=by
 have hi:i<l.length:=by
  rcases Nat.lt_or_ge i l.length with h' | h'
  ·exact h'
  ·rw [List.drop_eq_nil_of_le h'] at h;cases h
 rw [List.drop_eq_getElem_cons hi,List.cons.injEq] at h
 exact ⟨by rw [List.getElem?_eq_getElem hi,h.1],h.2⟩
theorem v4s {l p q:List Pl} {i:Nat} (h:l.drop i=p++q):l.drop (i+p.length)=q:=by rw [←List.drop_drop,h,List.drop_left]
theorem Sp.get (h:Sp R L M i t nx dp ks):R[i]? = some (z5b t i nx dp ks):=by
 obtain ⟨post,h⟩:=h.pl
 obtain ⟨r,e⟩:=j3j t i nx dp ks
 rw [e] at h
 exact (q8u h).1
theorem Sp.kont (h:Sp R L M i t nx dp ks):kont R i=(dp,t)::ks:=by rw [Proofs.YthjapabokcajhaaGreatDoor.kont,h.get];rfl
theorem Sp.lt (h:Sp R L M i t nx dp ks):i<R.length:=by have:=k4r t;have:=h.lo;have:=h.hi;omega
theorem Sp.one (h:Sp R L M i (.one x a) nx dp ks):Sp R L M (i+1) a nx (dp+x.n.toNat) ks where
 pl:=by
  obtain ⟨post,e⟩:=h.pl
  rw [z9u] at e
  exact ⟨post,(q8u e).2⟩
 kx:=h.kx
 lo:=by have:=h.lo;rw [k0a] at this;omega
 hi:=h.hi
 wf:=h.wf.2.2
 bl:=h.bl
 bd:=by
  have:=h.bd
  have h0:=q1w h.wf.1
  simp only [Tr.dsum] at this
  omega
 bk:=h.bk
theorem Sp.two2 (h:Sp R L M i (.two x a b) nx dp ks):Sp R L M (i+1+a.sz) b nx dp ks where
 pl:=by
  obtain ⟨post,e⟩:=h.pl
  rw [z9u] at e
  have e2:=(q8u (q:=_++post) e).2
  rw [List.append_assoc] at e2
  have e3:=v4s e2
  refine ⟨post,?_⟩
  rw [←e3]
  congr 1
  split<;>rw [q9i]
 kx:=h.kx
 lo:=by have:=h.lo;rw [z3g] at this;omega
 hi:=h.hi
 wf:=h.wf.2.2.2
 bl:=by have:=h.bl;simp only [Tr.lf] at this;omega
 bd:=by have:=h.bd;simp only [Tr.dsum] at this;omega
 bk:=h.bk
theorem Sp.both1 (h:Sp R L M i (.two x a b) nx dp ks) (h6:x.op=6):Sp R L M (i+1) a (i+1+a.sz) dp ((dp,b)::ks) where
 pl:=by
  obtain ⟨post,e⟩:=h.pl
  rw [z9u,if_pos h6,List.cons_append,List.append_assoc] at e
  exact ⟨_,(q8u e).2⟩
 kx:=h.two2.kont
 lo:=Nat.le_refl _
 hi:=by have:=h.lo;have:=h.hi;rw [z3g] at *;omega
 wf:=h.wf.2.2.1
 bl:=by have:=h.bl;simp only [Tr.lf,lfK] at this ⊢;omega
 bd:=by have:=h.bd;simp only [Tr.dsum] at this;omega
 bk:=by
  intro p hp
  rcases List.mem_cons.1 hp with rfl | hp
  ·exact ⟨by have:=h.bd;simp only [Tr.dsum] at this;dsimp only;omega,h.wf.2.2.2⟩
  ·exact h.bk p hp
theorem Sp.either1 (h:Sp R L M i (.two x a b) nx dp ks) (h6:x.op≠6):Sp R L M (i+1) a nx dp ks where
 pl:=by
  obtain ⟨post,e⟩:=h.pl
  rw [z9u,if_neg h6,List.cons_append,List.append_assoc] at e
  exact ⟨_,(q8u e).2⟩
 kx:=h.kx
 lo:=by have:=h.lo;rw [z3g] at this;omega
 hi:=h.hi
 wf:=h.wf.2.2.1
 bl:=by have:=h.bl;simp only [Tr.lf] at this ⊢;omega
 bd:=by have:=h.bd;simp only [Tr.dsum] at this;omega
 bk:=h.bk
theorem Sp.two1 (h:Sp R L M i (.two x a b) nx dp ks):∃ nx' ks',Sp R L M (i+1) a nx' dp ks':=by
 by_cases h6:x.op=6
 ·exact ⟨_,_,h.both1 h6⟩
 ·exact ⟨_,_,h.either1 h6⟩
end
theorem k4n {R:List Pl} {L M:Nat}:∀ (t:Tr) (i nx dp:Nat) (ks:List (Nat × Tr)),Sp R L M i t nx dp ks→∀ j,i≤j→j<i+t.sz→∃ t' nx' dp' ks',Sp R L M j t' nx' dp' ks'
 | .leaf x,i,nx,dp,ks,h,j,h1,h2=>by
  rw [j4g] at h2
  obtain rfl:j=i:=by omega
  exact ⟨_,_,_,_,h⟩
 | .one x a,i,nx,dp,ks,h,j,h1,h2=>by
  rw [k0a] at h2
  by_cases e:j=i
  ·subst e;exact ⟨_,_,_,_,h⟩
  ·exact k4n a _ _ _ _ h.one j (by omega) (by omega)
 | .two x a b,i,nx,dp,ks,h,j,h1,h2=>by
  rw [z3g] at h2
  by_cases e:j=i
  ·subst e;exact ⟨_,_,_,_,h⟩
  ·by_cases e2:j<i+1+a.sz
   ·obtain ⟨_,_,h'⟩:=h.two1
    exact k4n a _ _ _ _ h' j (by omega) (by omega)
   ·exact k4n b _ _ _ _ h.two2 j (by omega) (by omega)
def k7p (R:List Pl) (L M:Nat) (p j:Nat):Prop:=(∃ x a nx dp ks,Sp R L M p (.one x a) nx dp ks∧j=p+1)∨∃ x a b nx dp ks,Sp R L M p (.two x a b) nx dp ks∧(j=p+1∨j=p+1+a.sz)
theorem k4i {R:List Pl} {L M:Nat}:∀ (t:Tr) (i nx dp:Nat) (ks:List (Nat × Tr)),Sp R L M i t nx dp ks→∀ j,i<j→j<i+t.sz→∃ p,p<j∧k7p R L M p j
 | .leaf x,i,nx,dp,ks,h,j,h1,h2=>by rw [j4g] at h2;omega
 | .one x a,i,nx,dp,ks,h,j,h1,h2=>by
  rw [k0a] at h2
  by_cases e:j=i+1
  ·exact ⟨i,h1,.inl ⟨_,_,_,_,_,h,e⟩⟩
  ·exact k4i a _ _ _ _ h.one j (by omega) (by omega)
 | .two x a b,i,nx,dp,ks,h,j,h1,h2=>by
  rw [z3g] at h2
  by_cases e:j=i+1
  ·exact ⟨i,h1,.inr ⟨_,_,_,_,_,_,h,.inl e⟩⟩
  ·by_cases e3:j=i+1+a.sz
   ·exact ⟨i,h1,.inr ⟨_,_,_,_,_,_,h,.inr e3⟩⟩
   ·by_cases e2:j<i+1+a.sz
    ·obtain ⟨_,_,h'⟩:=h.two1
     exact k4i a _ _ _ _ h' j (by omega) (by omega)
    ·exact k4i b _ _ _ _ h.two2 j (by omega) (by omega)
def q0a (t:Tr):List Pl:=z9u t 0 t.sz 0 []
theorem q2g (t:Tr):(q0a t).length=t.sz:=q9i t _ _ _ _
theorem z7f {t:Tr} (h:t.Wf):Sp (q0a t) t.lf t.dsum 0 t t.sz 0 [] where
 pl:=⟨[],by simp [q0a]⟩
 kx:=k3o (Nat.le_of_eq (q2g t))
 lo:=by omega
 hi:=Nat.le_of_eq (q2g t).symm
 wf:=h
 bl:=by simp [lfK]
 bd:=by simp
 bk:=by intro p hp;simp at hp
theorem j3z {t:Tr} (h:t.Wf) {j:Nat} (hj:j<(q0a t).length):∃ t' nx dp ks,Sp (q0a t) t.lf t.dsum j t' nx dp ks:=
 k4n t 0 _ _ _ (z7f h) j (Nat.zero_le _) (by rw [q2g] at hj;omega)
theorem z9t {t:Tr} (h:t.Wf) {j:Nat} (h0:0<j) (hj:j<(q0a t).length):∃ p,p<j∧k7p (q0a t) t.lf t.dsum p j:=
 k4i t 0 _ _ _ (z7f h) j h0 (by rw [q2g] at hj;omega)
/-! ### Moves and courses -/
def vv (R:List Pl) (wd i c:Nat):Crs:=bs wd c (kont R i)
theorem v3f {R:List Pl} {wd i c:Nat} (h:R.length≤i):vv R wd i c=((0,0),[]):=by rw [vv,k3o h,v9f]
theorem y4s {R:List Pl} {wd L M i c nx dp:Nat} {ks:List (Nat × Tr)} {t:Tr} (h:Sp R L M i t nx dp ks) (hm:L*(21+M)≤400000):(vv R wd i c).1.1≤400000∧(vv R wd i c).1.2≤400000:=by
 have h1:=y3n wd c M (kont R i) (by rw [h.kont];intro p hp;rcases List.mem_cons.1 hp with rfl | hp;exact ⟨h.bd,h.wf⟩;exact h.bk p hp)
 have h2:lfK (kont R i)*(21+M)≤L*(21+M):=Nat.mul_le_mul_right _ (by rw [h.kont];exact h.bl)
 rw [vv]
 omega
structure Mv where
 np:Nat
 nc:Nat
 o:Nat
 l:Nat
def mvP (wd:Nat) (op:Int) (k nx dp lg e i c ch:Nat):Mv:=
 if op=1 then ⟨nx,min (c+k) wd,c+k - wd,0⟩
 else if op=2∨op=3∨op=4 then ⟨nx,min dp wd,dp - wd,1⟩
 else if op=5 then ⟨nx,c,0,0⟩
 else if op=8∧ch=0 then ⟨nx,min (c+lg) wd,c+lg - wd,0⟩
 else if op=9∧ch=1 then ⟨e,c,0,0⟩
 else ⟨i+1,c,0,0⟩
section
variable {wd k nx dp lg e i c ch:Nat} {op:Int}
theorem z6y (h:op=1):mvP wd op k nx dp lg e i c ch=⟨nx,min (c+k) wd,c+k - wd,0⟩:=by rw [mvP,if_pos h]
theorem q9e (h:op=2∨op=3∨op=4):mvP wd op k nx dp lg e i c ch=⟨nx,min dp wd,dp - wd,1⟩:=by rw [mvP,if_neg (by omega),if_pos h]
theorem z6z (h:op=5):mvP wd op k nx dp lg e i c ch=⟨nx,c,0,0⟩:=by rw [mvP,if_neg (by omega),if_neg (by omega),if_pos h]
theorem z6x (h:op=8) (h0:ch=0):mvP wd op k nx dp lg e i c ch=⟨nx,min (c+lg) wd,c+lg - wd,0⟩:=by rw [mvP,if_neg (by omega),if_neg (by omega),if_neg (by omega),if_pos ⟨h,h0⟩]
theorem z0o (h:op=9) (h0:ch=1):mvP wd op k nx dp lg e i c ch=⟨e,c,0,0⟩:=by rw [mvP,if_neg (by omega),if_neg (by omega),if_neg (by omega),if_neg (by omega),if_pos ⟨h,h0⟩]
theorem q9d (h:op=6∨op=7∨(op=8∧ch≠0)∨(op=9∧ch≠1)):mvP wd op k nx dp lg e i c ch=⟨i+1,c,0,0⟩:=by rw [mvP,if_neg (by omega),if_neg (by omega),if_neg (by omega),if_neg (by omega),if_neg (by omega)]
end
def mv (wd:Nat) (r:Pl) (e i c ch:Nat):Mv:=mvP wd r.nd.op r.nd.tx.size r.nx r.dp r.lg.toNat e i c ch
def q9y (op:Int):Bool:=decide (op=8) || decide (op=9)
structure Cv where
 o:Nat
 l:Nat
 ch:Nat
 np:Nat
 nc:Nat
def k9k (R:List Pl) (wd ch:Nat) (m:Mv):Cv:=⟨m.o+(vv R wd m.np m.nc).1.1,m.l+(vv R wd m.np m.nc).1.2,ch,m.np,m.nc⟩
def q1a (R:List Pl) (i:Nat):Pl:=R.getD i ⟨⟨0,⟨#[]⟩,0⟩,0,0,0,0,.leaf ⟨0,⟨#[]⟩,0⟩,[]⟩
theorem Sp.at {R:List Pl} {L M i nx dp:Nat} {ks:List (Nat × Tr)} {t:Tr} (h:Sp R L M i t nx dp ks):q1a R i=z5b t i nx dp ks:=by rw [q1a,List.getD,h.get];rfl
def q2o (R:List Pl) (wd i c ch:Nat):Mv:=mv wd (q1a R i) (q1a R (i+1)).en i c ch
def tkC (R:List Pl) (wd i c ch:Nat):Cv:=k9k R wd ch (q2o R wd i c ch)
def crs (R:List Pl) (wd i c:Nat):Cv:=
 if (q1a R i).lg = -1 then tkC R wd i c 1
 else if q9y (q1a R i).nd.op=false then tkC R wd i c 0
 else if q2z ((tkC R wd i c 1).o,(tkC R wd i c 1).l) ((tkC R wd i c 0).o,(tkC R wd i c 0).l) then tkC R wd i c 1 else tkC R wd i c 0
structure y4x (R:List Pl) (wd i:Nat) (m:Mv):Prop where
 lo:i<m.np
 hi:m.np≤R.length
 cl:m.nc≤wd
 bo:m.o≤20000
 bl:m.l≤1
section
variable {R:List Pl} {L M i nx dp wd c ch:Nat} {ks:List (Nat × Tr)} {t:Tr}
theorem y0g {a:Tr} (h:a.Wf) (hn:a.lf≤400):(lgF a.flat).toNat≤8000:=by
 cases hf:a.flat with
 | none=>simp [lgF]
 | some s=>have:=q8a a s h hf;simp [lgF];omega
theorem q4h {x:Nd} (h:Sp R L M i (.leaf x) nx dp ks):q2o R wd i c ch=mvP wd x.op x.tx.size nx dp 0 (q1a R (i+1)).en i c ch:=by rw [q2o,h.at];rfl
theorem q5r {x:Nd} {a:Tr} (h:Sp R L M i (.one x a) nx dp ks):q2o R wd i c ch=mvP wd x.op x.tx.size nx dp (Tr.lg (.one x a)).toNat (q1a R (i+1)).en i c ch:=by rw [q2o,h.at];rfl
theorem q7h {x:Nd} {a b:Tr} (h:Sp R L M i (.two x a b) nx dp ks):q2o R wd i c ch=mvP wd x.op x.tx.size nx dp 0 (i+1+a.sz) i c ch:=by
 obtain ⟨nx',ks',hs⟩:=h.two1
 rw [q2o,h.at,hs.at];rfl
theorem j2g (h:Sp R L M i t nx dp ks) (hc:c≤wd) (hw:wd≤100) (hL:L≤400) (hM:M≤3200):y4x R wd i (q2o R wd i c ch):=by
 have h1:=h.lo
 have h2:=h.hi
 have h3:=k4r t
 have hbd:=h.bd
 have hbl:=h.bl
 cases t with
 | leaf x=>
  have hn:=q1w h.wf.1
  rw [q4h h]
  rcases q4u h.wf.1 h.wf.2 with e | e | e | e | e
  ·rw [z6y e]
   have:=q3y (hn.2.2.2.2.1 e)
   exact ⟨by dsimp only;omega,h2,Nat.min_le_right _ _,by dsimp only;omega,by simp⟩
  all_goals first
   | (rw [q9e (by omega)];exact ⟨by dsimp only;omega,h2,Nat.min_le_right _ _,by dsimp only;omega,by simp⟩)
   | (rw [z6z (by omega)];exact ⟨by dsimp only;omega,h2,hc,by simp,by simp⟩)
 | one x a=>
  have hs:=h.one
  have hlt:=hs.lt
  have h78:=z1b h.wf.2.1
  rw [q5r h]
  by_cases h8:x.op=8∧ch=0
  ·rw [z6x h8.1 h8.2]
   have hlg:(Tr.lg (.one x a)).toNat≤8000:=by rw [Tr.lg,if_pos h8.1];exact y0g h.wf.2.2 (by simp only [Tr.lf] at hbl;omega)
   exact ⟨by dsimp only;omega,h2,Nat.min_le_right _ _,by dsimp only;omega,by simp⟩
  ·rw [q9d (by omega)]
   exact ⟨by simp,by dsimp only;omega,hc,by simp,by simp⟩
 | two x a b=>
  obtain ⟨nx',ks',hs⟩:=h.two1
  have hlt:=hs.lt
  have hlt2:=h.two2.lt
  have h69:=q9u h.wf.2.1
  rw [q7h h]
  by_cases h9:x.op=9∧ch=1
  ·rw [z0o h9.1 h9.2]
   exact ⟨by dsimp only;omega,by dsimp only;omega,hc,by simp,by simp⟩
  ·rw [q9d (by omega)]
   exact ⟨by simp,by dsimp only;omega,hc,by simp,by simp⟩
theorem y1m (o l:Nat) (u:List Int) (a:Crs):q4v o l u a=((o+a.1.1,l+a.1.2),u++a.2):=rfl
theorem k9h (h:Sp R L M i t nx dp ks) (hc:c≤wd) :
  vv R wd i c=(((crs R wd i c).o,(crs R wd i c).l),(if q9y t.root.op=true then [((crs R wd i c).ch:Int)] else [])++(vv R wd (crs R wd i c).np (crs R wd i c).nc).2)∧∃ ch,(ch=0∨ch=1)∧crs R wd i c=tkC R wd i c ch:=by
 have hp:=h.at
 have hk:=h.kont
 have hx:=h.kx
 refine ⟨?_,?_⟩
 ·cases t with
  | leaf x=>
   have hlg:(q1a R i).lg≠-1:=by rw [hp];simp [z5b,Tr.lg]
   have hop:(q1a R i).nd.op=x.op:=by rw [hp];rfl
   have hch:q9y x.op=false:=by rcases q4u h.wf.1 h.wf.2 with e | e | e | e | e<;>simp [q9y,e]
   rw [crs,if_neg hlg,hop,if_pos hch,tkC,k9k,Tr.root,hch]
   dsimp only
   have hv:vv R wd i c=q4v (q2o R wd i c 0).o (q2o R wd i c 0).l [] (vv R wd (q2o R wd i c 0).np (q2o R wd i c 0).nc):=by
    rw [q4h h,vv,hk]
    rcases q4u h.wf.1 h.wf.2 with e | e | e | e | e
    ·rw [z6y e,v4d h.wf.1 e hc]
     dsimp only
     rw [vv,hx]
    all_goals first
     | (rw [q9e (by omega),v4c (by omega)];dsimp only;rw [vv,hx])
     | (rw [z6z (by omega),v4e e];dsimp only;rw [vv,hx])
   rw [hv]
   rfl
  | one x a=>
   have h78:=z1b h.wf.2.1
   have hop:(q1a R i).nd.op=x.op:=by rw [hp];rfl
   have hs:=h.one
   have m1:q2o R wd i c 1=⟨i+1,c,0,0⟩:=by rw [q5r h,q9d (by omega)]
   rcases h78 with e | e
   ·have hlg:(q1a R i).lg≠-1:=by rw [hp];simp [z5b,Tr.lg,e]
    have hch:q9y x.op=false:=by simp [q9y,e]
    have m0:q2o R wd i c 0=⟨i+1,c,0,0⟩:=by rw [q5r h,q9d (by omega)]
    rw [crs,if_neg hlg,hop,if_pos hch,tkC,k9k,Tr.root,hch,m0]
    dsimp only
    rw [vv,hk,v3z e,vv,hs.kont]
    simp
   ·have hch:q9y x.op=true:=by simp [q9y,e]
    have hlg:(q1a R i).lg=lgF a.flat:=by rw [hp];simp [z5b,Tr.lg,e]
    have hn0:x.n.toNat=0:=by have:=q1w h.wf.1;omega
    have ek:kont R (i+1)=(dp,a)::ks:=by rw [hs.kont,hn0];rfl
    cases hf:a.flat with
    | none=>
     rw [hf] at hlg
     rw [crs,if_pos (show (q1a R i).lg = -1 from hlg),tkC,k9k,Tr.root,hch,m1]
     dsimp only
     rw [vv,hk,v4b (by omega) hf,y1m,vv,ek]
     simp
    | some s=>
     rw [hf] at hlg
     have hlg':(q1a R i).lg≠-1:=by rw [hlg,lgF];omega
     have m0:q2o R wd i c 0=⟨nx,min (c+s.length) wd,c+s.length - wd,0⟩:=by
      rw [q5r h,z6x e rfl,Tr.lg,if_pos e,hf]
      rfl
     rw [crs,if_neg hlg',hop,if_neg (by rw [hch];simp),Tr.root,hch]
     rw [vv,hk,j6s (by omega) h.wf.2.2 hf hc]
     have e0:tkC R wd i c 0=⟨(q4v (c+s.length - wd) 0 [0] (bs wd (min (c+s.length) wd) ks)).1.1,(q4v (c+s.length - wd) 0 [0] (bs wd (min (c+s.length) wd) ks)).1.2,0,nx,min (c+s.length) wd⟩:=by
      rw [tkC,k9k,m0];simp only [vv,hx,q4v]
     have e1:tkC R wd i c 1=⟨(q4v 0 0 [1] (bs wd c ((dp,a)::ks))).1.1,(q4v 0 0 [1] (bs wd c ((dp,a)::ks))).1.2,1,i+1,c⟩:=by
      rw [tkC,k9k,m1];simp only [vv,ek,q4v]
     rw [e0,e1]
     unfold k4k
     dsimp only
     split
     ·simp only [if_true,vv,ek,q4v];rfl
     ·simp only [if_true,vv,hx,q4v];rfl
  | two x a b=>
   have h69:=q9u h.wf.2.1
   have hop:(q1a R i).nd.op=x.op:=by rw [hp];rfl
   have hlg:(q1a R i).lg≠-1:=by rw [hp];simp [z5b,Tr.lg]
   have m0:q2o R wd i c 0=⟨i+1,c,0,0⟩:=by rw [q7h h,q9d (by omega)]
   rcases h69 with e | e
   ·have hch:q9y x.op=false:=by simp [q9y,e]
    rw [crs,if_neg hlg,hop,if_pos hch,tkC,k9k,Tr.root,hch,m0]
    dsimp only
    rw [vv,hk,v3y e,vv,(h.both1 e).kont]
    simp
   ·have hch:q9y x.op=true:=by simp [q9y,e]
    have hs:=h.either1 (by omega)
    have hs2:=h.two2
    have m1:q2o R wd i c 1=⟨i+1+a.sz,c,0,0⟩:=by rw [q7h h,z0o e rfl]
    rw [crs,if_neg hlg,hop,if_neg (by rw [hch];simp),Tr.root,hch]
    rw [vv,hk,k8t (by omega)]
    have e0:tkC R wd i c 0=⟨(q4v 0 0 [0] (bs wd c ((dp,a)::ks))).1.1,(q4v 0 0 [0] (bs wd c ((dp,a)::ks))).1.2,0,i+1,c⟩:=by
     rw [tkC,k9k,m0];simp only [vv,hs.kont,q4v]
    have e1:tkC R wd i c 1=⟨(q4v 0 0 [1] (bs wd c ((dp,b)::ks))).1.1,(q4v 0 0 [1] (bs wd c ((dp,b)::ks))).1.2,1,i+1+a.sz,c⟩:=by
     rw [tkC,k9k,m1];simp only [vv,hs2.kont,q4v]
    rw [e0,e1]
    unfold k4k
    dsimp only
    split
    ·simp only [if_true,vv,hs2.kont,q4v];rfl
    ·simp only [if_true,vv,hs.kont,q4v];rfl
 ·unfold crs
  split
  ·exact ⟨1,.inr rfl,rfl⟩
  ·split
   ·exact ⟨0,.inl rfl,rfl⟩
   ·split
    ·exact ⟨1,.inr rfl,rfl⟩
    ·exact ⟨0,.inl rfl,rfl⟩
end
end Go.Proofs.YthjapabokcajhaaGreatDoor
namespace Go.Proofs.YthjapabokcajhaaGreatDoor
open Go Go.RowKit
def q0s (s:Nat) (w:World) (a:Option Addr) (ds:List Nd):Prop:=
 ∀ i (h:i<ds.length),∃ o,a=some ⟨s,o,none⟩∧w.cell? ⟨s,o+i*3,none⟩=some (.int .i64 ds[i].op)∧w.cell? ⟨s,o+i*3+1,none⟩=some (.string ds[i].tx)∧w.cell? ⟨s,o+i*3+2,none⟩=some (.int .i64 ds[i].n)
theorem q2i.s {w:World} {a:Option Addr} {ds:List Nd} (h:q2i w a ds) (h0:ds≠[]):∃ s,s<w.heap.size∧q0s s w a ds:=by
 obtain ⟨s,o,rfl,hs,_⟩:=h 0 (List.length_pos_iff.2 h0)
 refine ⟨s,hs,fun i hi=>?_⟩
 obtain ⟨b,o',e,_,c⟩:=h i hi
 simp only [Option.some.injEq,Addr.mk.injEq,and_true] at e
 obtain ⟨rfl,rfl⟩:=e
 exact ⟨o,rfl,c⟩
theorem q0s.nods {s:Nat} {w:World} {a:Option Addr} {ds:List Nd} (h:q0s s w a ds) (hs:s<w.heap.size):q2i w a ds:=by
 intro i hi
 obtain ⟨o,e,c⟩:=h i hi
 exact ⟨s,o,e,hs,c⟩
theorem q0s.kept {s:Nat} {w w':World} {a:Option Addr} {ds:List Nd} (h:q0s s w a ds) (hb:w'.heap[s]? = w.heap[s]?):q0s s w' a ds:=by
 intro i hi
 obtain ⟨o,e,c1,c2,c3⟩:=h i hi
 have hc:∀ j,w'.cell? ⟨s,j,none⟩=w.cell? ⟨s,j,none⟩:=fun j=>World.cell?_of_block (w:=w) (a:=⟨s,j,none⟩) hb
 exact ⟨o,e,(hc _).trans c1,(hc _).trans c2,(hc _).trans c3⟩
theorem q0s.rest {s:Nat} {w:World} {o:Nat} {x:Nd} {ds:List Nd} (h:q0s s w (some ⟨s,o,none⟩) (x::ds)):q0s s w (some ⟨s,o+3,none⟩) ds:=by
 intro i hi
 obtain ⟨o',e,c1,c2,c3⟩:=h (i+1) (by simp;omega)
 simp only [Option.some.injEq,Addr.mk.injEq,and_true,true_and] at e
 obtain rfl:=e
 refine ⟨o+3,rfl,?_,?_,?_⟩
 ·rw [show o+3+i*3=o+(i+1)*3 by omega];exact c1
 ·rw [show o+3+i*3+1=o+(i+1)*3+1 by omega];exact c2
 ·rw [show o+3+i*3+2=o+(i+1)*3+2 by omega];exact c3
theorem q0s.slid {s:Nat} {w:World} {o cap:Nat} {x:Nd} {ds:List Nd} (h:q0s s w (some ⟨s,o,none⟩) (x::ds)) (hc:ds.length+1≤cap) :
  q0s s w (if cap=1 then some ⟨s,o,none⟩ else some ⟨s,o+3,none⟩) ds:=by
 by_cases h1:cap=1
 ·have:ds=[]:=List.eq_nil_of_length_eq_zero (by omega)
  subst this
  exact fun i hi=>by simp at hi
 ·rw [if_neg h1];exact h.rest
end Go.Proofs.YthjapabokcajhaaGreatDoor
