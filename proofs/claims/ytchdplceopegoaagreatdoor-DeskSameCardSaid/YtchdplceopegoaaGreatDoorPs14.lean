/- Texts as one: TreZ, PgC, RLow, TreR, SynD, PgQ. -/
import Derived.Test.YtchdplceopegoaaGreatDoorPs13
import Derived.Laws.Strings2
namespace Go.Proofs.YtchdplceopegoaaGreatDoor
open Go Go.RowKit
set_option maxRecDepth 100000
set_option maxHeartbeats 4000000
def z4c (ds:List Td):Prop:=∀ x∈ds,x.tx.size≤140737488351232
theorem j5a (x:Td) (w:World):Calls Tryz.prog 152 #[tdV x] w fun e w'=>e = .returned (.int .i64 (kdZ x))∧Below w.heap.size w w':=by
 obtain ⟨op,tx,n⟩:=x
 have hb:∀ O:Obj,Below w.heap.size w (w.alloc O):=fun O=>(Below.refl _ w).alloc (Nat.le_refl _) O
 by_cases h3:op=3
 ·subst h3
  go_enter Tryz.func152,Tryz.ntmps152
  go_wp2
  go_ret
  exact ⟨by simp [kdZ],hb _⟩
 by_cases h4:op=4
 ·subst h4
  go_enter Tryz.func152,Tryz.ntmps152
  go_wp2
  go_ret
  exact ⟨by simp [kdZ],hb _⟩
 by_cases h5:op=5
 ·subst h5
  go_enter Tryz.func152,Tryz.ntmps152
  go_wp2
  go_ret
  exact ⟨by simp [kdZ,kdT],hb _⟩
 by_cases h6:op=6
 ·subst h6
  go_enter Tryz.func152,Tryz.ntmps152
  go_wp2
  go_ret
  exact ⟨by simp [kdZ,kdT],hb _⟩
 by_cases h7:op=7
 ·subst h7
  go_enter Tryz.func152,Tryz.ntmps152
  go_wp2
  go_ret
  exact ⟨by simp [kdZ,kdT],hb _⟩
 by_cases h8:op=8
 ·subst h8
  go_enter Tryz.func152,Tryz.ntmps152
  go_wp2
  go_ret
  exact ⟨by simp [kdZ,kdT],hb _⟩
 have HE:Hid (kdZ ⟨op,tx,n⟩=0):=by show kdZ ⟨op,tx,n⟩=0;simp [kdZ,kdT,h3,h4,h5,h6,h7,h8]
 have g3:(op == 3)=false:=by simp [h3]
 have g4:(op == 4)=false:=by simp [h4]
 have g5:(op == 5)=false:=by simp [h5]
 have g6:(op == 6)=false:=by simp [h6]
 have g7:(op == 7)=false:=by simp [h7]
 have g8:(op == 8)=false:=by simp [h8]
 clear h3 h4 h5 h6 h7 h8
 go_enter Tryz.func152,Tryz.ntmps152
 go_wp2
 go_ret
 exact ⟨by rw [HE.out];rfl,hb _⟩
theorem v1e (x:Td) (h:q0n x=0) (w:World):Calls Tryz.prog 152 #[.agg #[.int .i64 x.op,.string x.tx,.int .i64 x.n]] w fun e w'=>e = .returned (.int .i64 (kdT x:Int))∧Below w.heap.size w w':=by
 have:=j5a x w
 rw [y1e h] at this
 exact this
def v4k (o:Option Nat) (j:Nat) (b:Bool):Prop:=o=if b=true then some j else none
def v2e (ds:List Td) (i:Nat) (e:Ending):Prop:=∃ (j:Nat) (b:Bool),e = .returned (.tuple #[.int .i64 (j:Int),.bool b])∧v4k (z1v ds i 1) j b
theorem v4k.yes {o:Option Nat} {j:Nat} (h:o=some j):v4k o j true:=h
theorem v4k.no {o:Option Nat} {j:Nat} (h:o=none):v4k o j false:=h
theorem k7j (ds:List Td) (a:Option Addr) (cap:Nat) (hl:ds.length≤40) (hk:∀ x∈ds,q0n x=0) (i:Nat) (hi:i≤ds.length) (w:World) (hN:Tds w a ds) :
  Calls Tryz.prog 116 #[.slice a ds.length cap,.int .i64 i] w fun e w'=>v2e ds i e∧Below w.heap.size w w':=by
 have HN:Hid (Tds w a ds):=hN
 have HK:Hid (∀ x∈ds,q0n x=0):=hk
 clear hN hk
 go_enter Tryz.func116,Tryz.ntmps116
 go_wp2
 go_loopw [1,6] (fun z m wr=>Below w.heap.size w wr∧∃ k q:Nat,k≤ds.length∧q≤1+6*k∧z = .int .i64 (k:Int)∧m = .int .i64 (q:Int)∧z1v ds i 1=z1v ds k q) (fun z _ _=>ds.length - (intOf z).toNat)
 case atStart=>exact ⟨Below.refl _ _,i,1,hi,by omega,rfl,rfl,rfl⟩
 case round=>
  obtain ⟨hbr,k,q,hk1,hq,rfl,rfl,he⟩:=hrel
  have HE:Hid (z1v ds i 1=z1v ds k q):=he
  have HBR:Hid (Below w.heap.size w wr):=hbr
  clear he hbr
  by_cases h0:q=0
  ·subst h0
   have HZ:Hid (z1v ds i 1=some k):=by
    show _=_
    rw [HE.out,j0n]
   go_wp2
   go_ret2
   exact ⟨⟨k,true,rfl,v4k.yes HZ.out⟩,HBR.out⟩
  ·obtain ⟨p,rfl⟩:∃ p,q=p+1:=⟨q - 1,by omega⟩
   have hpc:((p+1:Nat):Int)=(p:Int)+1:=by omega
   have hpi:(0:Int)<(p:Int)+1:=by omega
   have hpe:((p:Int)+1 == 0)=false:=beq_false_of_ne (by omega)
   by_cases hlt:k<ds.length
   ·have hki:(k:Int)<(ds.length:Int):=by omega
    obtain ⟨b,o,ea,hb,c1,c2,c3⟩:=(HN.out.below HBR.out) k hlt
    subst ea
    have hkd:=y1d (HK.out _ (List.getElem_mem hlt))
    have HM:Hid (∀ W:World,Calls Tryz.prog 152 #[.agg #[.int .i64 ds[k].op,.string ds[k].tx,.int .i64 ds[k].n]] W fun e w'=>e = .returned (.int .i64 (kdT ds[k]:Int))∧Below W.heap.size W w'):=fun W=>v1e _ (HK.out _ (List.getElem_mem hlt)) W
    have HS:Hid (z1v ds i 1=z1v ds (k+1) (kdT ds[k]+p)):=by
     show _=_
     rw [HE.out,j0m ds k p hlt]
    generalize kdT ds[k]=d at hkd HM HS
    generalize ds[k].op=xo at c1 HM
    generalize ds[k].tx=xt at c2 HM
    generalize ds[k].n=xn at c3 HM
    rw [hpc]
    clear h0 hpe hpc
    go_wp2_with fail
    refine (HM.out _).mono ?_
    rintro e w2 ⟨rfl,b2⟩
    have HB2:Hid (Below w.heap.size w w2):=q0j HBR.out (Nat.le_refl _) b2
    clear b2 c1 c2 c3
    go_wp2
    go_roundw
    case rel=>exact ⟨HB2.out,k+1,d+p,by omega,by omega,by go_num,by go_num,HS.out⟩
    case measure=>simp [intOf];omega
   ·have hki:¬ (k:Int)<(ds.length:Int):=by omega
    have HZ:Hid (z1v ds i 1=none):=by
     show _=_
     rw [HE.out,z2f ds k p (by omega)]
    rw [hpc]
    clear h0 hpc
    go_wp2
    go_ret2
    exact ⟨⟨k,false,rfl,v4k.no HZ.out⟩,HBR.out⟩
theorem v1j {w:World} {a:Option Addr} {c:Nat} {x:Td} {r:List Td} (h:Tds w a (x::r)) (hc:r.length+1≤c) :
  ∃ A,(∀ W:World,(Instr.slice 59 (.slice a (r.length+1) c) (some (.int .i64 1)) none none).run Tryz.prog W = .ok (.slice A r.length (c - 1)) W)∧Tds w A r:=by
 obtain ⟨b,o,rfl,hb,_,_,_⟩:=h 0 (by simp)
 refine ⟨if c=1 then some ⟨b,o,none⟩ else some ⟨b,o+3,none⟩,fun W=>?_,?_⟩
 ·have h1:=run_slice_l (P:=Tryz.prog) W 59 (some ⟨b,o,none⟩) (r.length+1) c Tryz.underlying59 .i64 1 (by omega) (by omega)
  rw [h1]
  have hz:(sizeOf (Tryz.prog.elem 59)).run Tryz.prog W = .ok 3 W:=by kernel_rfl
  rw [hz]
  have ha:(⟨b,o,none⟩:Addr).add 3=⟨b,o+3,none⟩:=rfl
  simp [Result.andThen,sliced,ha]
 ·by_cases e:c=1
  ·have:r=[]:=List.eq_nil_of_length_eq_zero (by omega)
   subst this
   exact fun i hi=>by simp at hi
  ·rw [if_neg e]
   intro i hi
   obtain ⟨b',o',e1,hb',d1,d2,d3⟩:=h (i+1) (by simp;omega)
   cases e1
   rw [show o+(i+1)*3=o+3+i*3 by omega] at d1 d2 d3
   exact ⟨b,o+3,rfl,hb,d1,d2,d3⟩
theorem y2m {x:Td} (h:q0n x=0):1≤x.op∧x.op≤9:=by
 unfold q0n at h
 split at h
 ·cases h
 ·omega
def q6h (ds:List Td):Bool:=decide (z1v ds 0 1=some ds.length) && j5h ds
theorem j4t:q6h []=false:=by
 have:z1v [] 0 1=none:=z2f _ _ _ (Nat.le_refl _)
 simp [q6h,this]
theorem k7p {ds:List Td} (hl:ds.length≤40) (ha:∀ x∈ds,q0n x=0):q0c ds=if q6h ds=true then 0 else 2:=by
 rw [j5i hl ha]
 simp only [q6h,Bool.and_eq_true,decide_eq_true_eq]
theorem j5b (ds:List Td) (a:Option Addr) (cap:Nat) (hl:ds.length≤40) (hk:∀ x∈ds,q0n x=0) (w:World) (hc:ds.length≤cap) (hN:Tds w a ds) :
  Calls Tryz.prog 83 #[.slice a ds.length cap] w fun e w'=>e = .returned (.bool (q6h ds))∧Below w.heap.size w w':=by
 cases ds with
 | nil=>
  rw [j4t]
  clear hk hN hl hc
  go_enter Tryz.func83,Tryz.ntmps83
  go_wp2
  go_ret
  exact ⟨rfl,Below.refl _ _⟩
 | cons x r=>
  have HN:Hid (Tds w a (x::r)):=hN
  have HK:Hid (∀ y∈x::r,q0n y=0):=hk
  obtain ⟨b,o,ea,hb,c1,_,_⟩:=hN 0 (by simp)
  have hx:=y2m (hk x (by simp))
  have hlen:(x::r).length=r.length+1:=rfl
  rw [hlen] at hl hc ⊢
  have hp:¬ (r.length:Int)+1=0:=by omega
  have hpb:((r.length:Int)+1 == 0)=false:=beq_false_of_ne hp
  have hp0:(0:Int)<(r.length:Int)+1:=by omega
  have c1':w.cell? ⟨b,o,none⟩=some (.int .i64 x.op):=by simpa using c1
  clear c1 hN
  subst ea
  by_cases h7:7≤x.op
  ·have HX:Hid (exB x.op=false):=by show exB x.op=false;simp [exB];omega
   obtain ⟨A,hsl,hT⟩:=v1j HN.out hc
   have HT:Hid (Tds w A r):=hT
   clear hT
   generalize hxo:x.op=xo at c1' HX
   go_enter Tryz.func83,Tryz.ntmps83
   go_wp2_with fail
   refine (q9x xo _).mono ?_
   rintro e w2 ⟨rfl,rfl⟩
   rw [HX.out]
   go_wp2_with fail
   go_loopw [20] (fun i wr=>Below w.heap.size w wr∧∃ k:Nat,k≤r.length∧i = .int .i64 (k:Int)∧∀ y∈r.take k,y.op<7) (fun i _=>r.length - (intOf i).toNat)
   case atStart=>exact ⟨Below.refl _ _,0,Nat.zero_le _,rfl,by simp⟩
   case round=>
    obtain ⟨hbr,k,hk1,rfl,hall⟩:=hrel
    have HBR:Hid (Below w.heap.size w wr):=hbr
    have HAL:Hid (∀ O:Obj,Below w.heap.size w (wr.alloc O)):=fun O=>hbr.alloc hbr.size O
    clear hbr
    have HA:Hid (∀ y∈r.take k,y.op<7):=hall
    clear hall hsl
    by_cases hlt:k<r.length
    ·have hki:(k:Int)<(r.length:Int):=by omega
     obtain ⟨b1,o1,e1,hb1,d1,d2,d3⟩:=(HT.out.below HBR.out) k hlt
     subst e1
     have hy:=y2m (HK.out r[k] (by simp))
     by_cases hyt:r[k].op<7
     ·have HY:Hid (exB r[k].op=true):=by show exB r[k].op=true;simp [exB];omega
      have HA2:Hid (∀ y∈r.take (k+1),y.op<7):=by
       intro y hyy
       rw [List.take_succ_eq_append_getElem hlt] at hyy
       rcases List.mem_append.1 hyy with hyy | hyy
       ·exact HA.out y hyy
       ·simp at hyy;subst hyy;exact hyt
      clear hyt hy
      generalize r[k].op=yo at d1 HY
      generalize r[k].tx=yt at d2
      generalize r[k].n=yn at d3
      go_wp2_with fail
      refine (q9x yo _).mono ?_
      rintro e w2 ⟨rfl,rfl⟩
      rw [HY.out]
      go_wp2
      go_roundw
      case rel=>exact ⟨HAL.out _,k+1,by omega,by go_num,HA2.out⟩
      case measure=>simp [intOf];omega
     ·have HY:Hid (exB r[k].op=false):=by show exB r[k].op=false;simp [exB];omega
      have HF:Hid (q6h (x::r)=false):=by
       show _=_
       have:j5h (x::r)=false:=by
        simp only [j5h,Bool.and_eq_false_iff,List.all_eq_false]
        exact .inr ⟨r[k],List.getElem_mem hlt,by simp [hyt]⟩
       simp [q6h,this]
      clear hyt hy
      generalize r[k].op=yo at d1 HY
      generalize r[k].tx=yt at d2
      generalize r[k].n=yn at d3
      go_wp2_with fail
      refine (q9x yo _).mono ?_
      rintro e w2 ⟨rfl,rfl⟩
      rw [HY.out]
      go_wp2
      go_ret
      exact ⟨by rw [HF.out];rfl,HAL.out _⟩
    ·have hki:¬ (k:Int)<(r.length:Int):=by omega
     have HTOP:Hid (j5h (x::r)=true):=by
      show _=_
      simp only [j5h,Bool.and_eq_true,decide_eq_true_eq,List.all_eq_true]
      refine ⟨by omega,fun y hy=>HA.out y ?_⟩
      rw [List.take_of_length_le (by omega)]
      exact hy
     have HEO:Hid (Calls Tryz.prog 116 #[.slice (some ⟨b,o,none⟩) (r.length+1) cap,.int .i64 0] wr fun e w'=>v2e (x::r) 0 e∧Below wr.heap.size wr w'):=k7j (x::r) _ cap hl HK.out 0 (Nat.zero_le _) wr (HN.out.below HBR.out)
     go_wp2_with fail
     refine HEO.out.mono ?_
     rintro e w2 ⟨⟨j,bb,rfl,he⟩,b2'⟩
     have b2:=q0j HBR.out (Nat.le_refl _) b2'
     clear b2'
     cases bb with
     | false=>
      have he:z1v (x::r) 0 1=none:=he
      have HF:Hid (q6h (x::r)=false):=by
       show _=_
       simp [q6h,he]
      clear he
      go_wp2
      go_ret
      exact ⟨by rw [HF.out];rfl,b2⟩
     | true=>
      have he:z1v (x::r) 0 1=some j:=he
      by_cases hj:(j:Int)=(r.length:Int)+1
      ·have HF:Hid (q6h (x::r)=true):=by
        show _=_
        have:j=r.length+1:=by omega
        simp [q6h,he,this,HTOP.out]
       have hjb:((j:Int) == (r.length:Int)+1)=true:=beq_iff_eq.2 hj
       clear he hj
       go_wp2
       go_ret
       exact ⟨by rw [HF.out];rfl,b2⟩
      ·have HF:Hid (q6h (x::r)=false):=by
        show _=_
        have:¬ j=r.length+1:=by omega
        simp [q6h,he,this]
       have hjb:((j:Int) == (r.length:Int)+1)=false:=beq_false_of_ne hj
       clear he hj
       go_wp2
       go_ret
       exact ⟨by rw [HF.out];rfl,b2⟩
  ·have HX:Hid (exB x.op=true):=by show exB x.op=true;simp [exB];omega
   have HF:Hid (q6h (x::r)=false):=by
    show _=_
    have:j5h (x::r)=false:=by simp [j5h,h7]
    simp [q6h,this]
   generalize x.op=xo at c1' HX
   go_enter Tryz.func83,Tryz.ntmps83
   go_wp2_with fail
   refine (q9x xo _).mono ?_
   rintro e w2 ⟨rfl,rfl⟩
   rw [HX.out]
   go_wp2
   go_ret
   exact ⟨by rw [HF.out];rfl,Below.refl _ _⟩
theorem q5u (ds:List Td) (a:Option Addr) (cap:Nat) (w:World) (hc:ds.length≤cap) (hN:Tds w a ds) (hsz:z4c ds):Calls Tryz.prog 51 #[.slice a ds.length cap] w fun e w'=>e = .returned (q1f (q0c ds))∧Below w.heap.size w w':=by
 have HN:Hid (Tds w a ds):=hN
 have HSZ:Hid (z4c ds):=hsz
 clear hN hsz
 by_cases h4:40<(ds.length:Int)
 ·rw [k7n (by omega),k3s]
  go_enter Tryz.func51,Tryz.ntmps51
  go_wp2
  go_ret
  exact ⟨rfl,Below.refl _ _⟩
 ·have hl:ds.length≤40:=by omega
  go_enter Tryz.func51,Tryz.ntmps51
  go_wp2
  go_loopw [12] (fun i wr=>Below w.heap.size w wr∧∃ k:Nat,k≤ds.length∧i = .int .i64 k∧∀ x∈ds.take k,q0n x=0) (fun i _=>ds.length - (intOf i).toNat)
  case atStart=>exact ⟨Below.refl _ _,0,Nat.zero_le _,rfl,by simp⟩
  case round=>
   obtain ⟨hB,k,hk,rfl,hall⟩:=hrel
   have HA:Hid (∀ x∈ds.take k,q0n x=0):=hall
   have HM:Hid (Tds wr a ds):=HN.out.below hB
   clear hall
   by_cases hlt:k<ds.length
   ·obtain ⟨b,o,ea,hb,c1,c2,c3⟩:=HM.out k hlt
    have htx:=HSZ.out _ (List.getElem_mem hlt)
    subst ea
    by_cases h0:q0n ds[k]=0
    ·have H0:Hid (q0n ds[k]=0):=h0
     clear h0
     go_wp2_with fail
     refine (k0d ds[k] _ htx).mono ?_
     rintro e w2 ⟨rfl,hb2⟩
     rw [H0.out,q0q]
     have hB2:=z1k hB (Nat.le_refl _) hb2
     clear hb2
     go_wp2
     go_roundw
     case rel=>exact ⟨hB2,k+1,by omega,by go_num,k7l hlt HA.out H0.out⟩
     case measure=>simp [intOf];omega
    ·have H0:Hid (q0n ds[k]≠0):=h0
     clear h0
     go_wp2_with fail
     refine (k0d ds[k] _ htx).mono ?_
     rintro e w2 ⟨rfl,hb2⟩
     rw [q0h H0.out]
     have hB2:=z1k hB (Nat.le_refl _) hb2
     clear hb2
     go_wp2
     go_ret
     refine ⟨?_,hB2⟩
     rw [k7o hl hlt HA.out H0.out,q0h H0.out]
     rfl
   ·have HK:Hid (∀ x∈ds,q0n x=0):=by
     have:=HA.out
     rw [List.take_of_length_le (by omega)] at this
     exact this
    have HF:Hid (q0c ds=if q6h ds=true then 0 else 2):=k7p hl HK.out
    have HS:Hid (Calls Tryz.prog 83 #[.slice a ds.length cap] wr fun e w'=>e = .returned (.bool (q6h ds))∧Below wr.heap.size wr w'):=j5b ds a cap hl HK.out wr hc HM.out
    generalize q6h ds=sb at HF HS
    go_wp2_with fail
    refine HS.out.mono ?_
    rintro e w2 ⟨rfl,b2⟩
    have B2:=q0j hB (Nat.le_refl _) b2
    clear b2
    cases sb with
    | true=>
     go_wp2
     go_ret
     exact ⟨by rw [HF.out];rfl,B2⟩
    | false=>
     go_wp2
     go_ret
     exact ⟨by rw [HF.out];rfl,B2⟩
abbrev y6j:Prop:=∀ (t:List Td) (a:Option Addr) (cap:Nat) (wd:Int) (w:World),t.length≤cap→Tds w a t→z4c t→q7d w→
 Calls Tryz.prog 32 #[.slice a t.length cap,.int .i64 wd] w fun e w'=>e = .returned (.tuple #[.string (j6z t wd),q1f (z9r t wd)])∧Below w.heap.size w w'
def z2k (s:ByteArray) (wd:Int) (w:World) (e:Ending) (w':World):Prop:=∃ T k f,e = .returned (.tuple #[.string T,.int .i64 k,q1f f])∧k3c s wd T k f∧Below w.heap.size w w'
abbrev y6c:Prop:=∀ (s:ByteArray) (wd:Int) (w:World),q7d w→Calls Tryz.prog 16 #[.string s,.int .i64 wd] w fun e w'=>z2k s wd w e w'
theorem z7f {t:List Td} {wd:Int} (h:z9r t wd≠0):j6z t wd=⟨#[]⟩:=by rw [j6z,if_neg h]
theorem k2f {t:List Td} {n:Nat} (h:z9r t (n:Int)=0):j6z t (n:Int)=wbS (q5b n t):=by rw [j6z,if_pos h];rfl
theorem z7a {n:Nat} (h1:10≤n) (h2:n≤100):¬ ((n:Int)<10∨100<(n:Int)):=by omega
theorem v8r {t:List Td} {a:Option Addr} {cap:Nat} {w:World} (hc:t.length≤cap) (hN:Tds w a t):Prg (w.alloc (.cells #[.slice a t.length cap] 59)) (some ⟨w.heap.size,0,none⟩) [t]:=by
 intro i hi
 have hi0:i=0:=by simp at hi;exact hi
 subst hi0
 refine ⟨w.heap.size,0,a,cap,rfl,by rw [World.size_alloc];omega,?_,hc,hN.alloc _⟩
 have h1:(w.alloc (.cells #[.slice a t.length cap] 59)).heap[w.heap.size]? = some (.cells #[.slice a t.length cap] 59):=by
  show (w.heap.push _)[w.heap.size]? = _
  simp
 simp only [World.cell?,Option.isSome_none,Bool.false_eq_true,if_false,h1,Nat.zero_add]
 rfl
theorem q8m (a b:List UInt8):wbS a++wbS b=wbS (a++b):=by
 apply ByteArray.ext
 simp [wbS]
theorem v9g (l:List UInt8):(wbS l).size=l.length:=by
 rw [←q0b];rfl
theorem v3u {t:List Td} (h:q0c t=0):q0p [t]=(0,0):=by
 rw [q0p,if_neg (by simp),q5c,if_neg (by simp [h]),if_neg (by simp)];rfl
end Go.Proofs.YtchdplceopegoaaGreatDoor
