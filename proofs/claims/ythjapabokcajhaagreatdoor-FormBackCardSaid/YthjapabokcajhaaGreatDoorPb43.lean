/- Texts as one: RdN, RdR, RdP, TreA, SyW, TrS. -/
import Derived.Test.YthjapabokcajhaaGreatDoorPb42
import Derived.Test.YthjapabokcajhaaGreatDoorPb39
import Derived.Test.YthjapabokcajhaaGreatDoorPb04
import Derived.Test.YthjapabokcajhaaGreatDoorPb27
import Derived.Test.YthjapabokcajhaaGreatDoorPb12
import Derived.Test.YthjapabokcajhaaGreatDoorPb08
import Derived.BigQuiet
import Derived.Deep.QuietTactic
import Derived.Outline
namespace Go.Proofs.YthjapabokcajhaaGreatDoor
open Go Go.RowKit
def y3k:Job→List Td
 | .loop _ acc=>acc
 | .args _ _ acc=>acc
 | _=>[]
theorem v2o {w:Wd} (h:nmW w=true):(wbS w).size≤8:=by
 rw [←q0b]
 exact q2c h
theorem y1o {j:Job} {ts:List Wd} {r:Rs} (h:PR j ts r):(∀ x∈y3k j,x.tx.size≤8)→∀ m ns u,r = .ok m ns u→∀ x∈ns,x.tx.size≤8:=by
 have app:∀ {a b:List Td},(∀ x∈a,x.tx.size≤8)→(∀ x∈b,x.tx.size≤8)→∀ x∈a++b,x.tx.size≤8:=fun ha hb x hx=>by
  rcases List.mem_append.1 hx with hx | hx
  ·exact ha x hx
  ·exact hb x hx
 have con:∀ {y:Td} {b:List Td},y.tx.size≤8→(∀ x∈b,x.tx.size≤8)→∀ x∈y::b,x.tx.size≤8:=fun hy hb x hx=>by
  rcases List.mem_cons.1 hx with rfl | hx
  ·exact hy
  ·exact hb x hx
 have non:∀ x∈([]:List Td),x.tx.size≤8:=fun x hx=>by cases hx
 have e0:(⟨#[]⟩:ByteArray).size≤8:=by decide
 induction h with
 | lev2 _ ih=>intro _ m ns u e;exact ih non m ns u e
 | levB=>intro _ m ns u e;cases e
 | levO _ _ _ ih1 ih2=>intro _ m ns u e;exact ih2 (ih1 non _ _ _ rfl) m ns u e
 | lopE=>intro ha m ns u e;cases e;exact ha
 | lopB=>intro _ m ns u e;cases e
 | lopO _ _ ih1 ih2=>intro ha m ns u e;exact ih2 (con e0 (app ha (ih1 non _ _ _ rfl))) m ns u e
 | sinN=>intro _ m ns u e;cases e
 | sPB=>intro _ m ns u e;cases e
 | sPC _ ih=>intro _ m ns u e;cases e;exact ih non _ _ _ rfl
 | sPX=>intro _ m ns u e;cases e
 | sLB=>intro _ m ns u e;cases e
 | sLO _ ih=>intro _ m ns u e;cases e;exact con e0 (ih non _ _ _ rfl)
 | sNum=>intro _ m ns u e;cases e;exact con e0 non
 | sName h=>intro _ m ns u e;cases e;exact con (v2o h) non
 | sCB=>intro _ m ns u e;cases e
 | sCO h _ ih=>intro _ m ns u e;cases e;exact con (v2o h) (ih non _ _ _ rfl)
 | sBad=>intro _ m ns u e;cases e
 | aEnd=>intro ha m ns u e;cases e;exact ha
 | aSep=>intro _ m ns u e;cases e
 | aB0=>intro _ m ns u e;cases e
 | aO0 _ _ _ ih1 ih2=>intro ha m ns u e;exact ih2 (app ha (ih1 non _ _ _ rfl)) m ns u e
 | aB=>intro _ m ns u e;cases e
 | aO _ _ _ ih1 ih2=>intro ha m ns u e;exact ih2 (app ha (ih1 non _ _ _ rfl)) m ns u e
end Go.Proofs.YthjapabokcajhaaGreatDoor
namespace Go.Proofs.YthjapabokcajhaaGreatDoor
open Go Go.RowKit
set_option maxRecDepth 100000
set_option maxHeartbeats 4000000
theorem k0c (a:Addr) (n cap:Nat) (op:Int) (w:World) (hn:0<n) {b o:Nat} (ha:a=⟨b,o,none⟩) (hc:w.cell? ⟨b,o,none⟩=some (.int .i64 op)):Calls Tryz.prog 82 #[.slice (some a) n cap] w fun e w'=>e = .returned (.bool (op == 9))∧w=w':=by
 subst ha
 have hni:(0:Int)<(n:Int):=by omega
 go_enter Tryz.func82,Tryz.ntmps82
 go_wp2
 go_ret
 exact ⟨rfl,rfl⟩
theorem j4h (ps:List (List Td)) (a:Option Addr) (cap:Nat) (w:World) (_hc:ps.length≤cap) (hP:Prg w a ps) (hsz:∀ t∈ps,k7o t):Calls Tryz.prog 42 #[.slice a ps.length cap] w fun e w'=>e = .returned (.tuple #[.int .i64 ((q1f ps).1:Int),q1o (q1f ps).2])∧Below w.heap.size w w':=by
 have HP:Hid (Prg w a ps):=hP
 have HSZ:Hid (∀ t∈ps,k7o t):=hsz
 clear hP hsz
 by_cases h20:20<(ps.length:Int)
 ·have HE:Hid (q1f ps=(0,3)):=by show q1f ps=_;rw [q1f,if_pos (by omega)]
  go_enter Tryz.func42,Tryz.ntmps42
  go_wp2
  go_ret2
  exact ⟨by rw [HE.out];rfl,Below.refl _ _⟩
 have HF:Hid (q1f ps=q5v 0 0 ps):=by show q1f ps=_;rw [q1f,if_neg (by omega)]
 go_enter Tryz.func42,Tryz.ntmps42
 go_wp2
 go_loopw [13] (fun i wr=>Below w.heap.size w wr∧∃ k:Nat,k≤ps.length∧i = .int .i64 k∧q1f ps=q5v (q6j ps k) k (ps.drop k)∧∀ j (h:j<ps.length),j<k→q0f ps[j]=0) (fun i _=>ps.length - (intOf i).toNat)
 case atStart=>exact ⟨Below.refl _ _,0,Nat.zero_le _,rfl,HF.out,fun j _ h=>by omega⟩
 case round=>
  obtain ⟨hbr,k,hk,rfl,hF,hall⟩:=hrel
  have HBR:Hid (Below w.heap.size w wr):=hbr
  have HG:Hid (q1f ps=q5v (q6j ps k) k (ps.drop k)):=hF
  have HA:Hid (∀ j (h:j<ps.length),j<k→q0f ps[j]=0):=hall
  clear hbr hF hall
  by_cases hlt:k<ps.length
  ·obtain ⟨b,o,a',c',ea,hb,c1,c2,hT⟩:=(HP.out.below HBR.out) k hlt
   subst ea
   have hki:(k:Int)<(ps.length:Int):=by omega
   have HTF0:Calls Tryz.prog 29 #[.slice a' ps[k].length c'] wr fun e w'=>e = .returned (q1o (q0f ps[k]))∧Below wr.heap.size wr w':=q5z ps[k] a' c' wr c2 hT (HSZ.out _ (List.getElem_mem hlt))
   have HA3:Hid (q0f ps[k]=0→∀ j (h:j<ps.length),j<k+1→q0f ps[j]=0):=fun h0 j h hj=>by
    by_cases hjk:j=k
    ·subst hjk;exact h0
    ·exact HA.out j h (by omega)
   have HOP:Hid (q0f ps[k]=0→0<ps[k].length∧∃ b1 o1,a'=some ⟨b1,o1,none⟩∧b1<wr.heap.size∧wr.cell? ⟨b1,o1,none⟩=some (.int .i64 (opT ps[k]))):=fun h0=>by
    have hpos:=z7k h0
    obtain ⟨b1,o1,e1,hb1,d1,_,_⟩:=hT 0 hpos
    exact ⟨hpos,b1,o1,e1,hb1,by rw [k1y hpos];simpa using d1⟩
   have HBAD:Hid (q0f ps[k]≠0→q1f ps=(k,q0f ps[k])):=fun h=>HG.out.trans (j3n hlt h)
   have HTWO:Hid (q0f ps[k]=0→opT ps[k]=9∧q6j ps k=9→q1f ps=(k,2)):=fun h h2=>HG.out.trans (j3o hlt h h2)
   have HNXT:Hid (q0f ps[k]=0→¬ (opT ps[k]=9∧q6j ps k=9)→q1f ps=q5v (q6j ps (k+1)) (k+1) (ps.drop (k+1))):=fun h h2=>HG.out.trans (k6p hlt h h2)
   have HPREV:Hid (∀ j,k=j+1→∃ a1 n1 c1',wr.cell? ⟨b,o+j,none⟩=some (.slice a1 n1 c1')∧0<n1∧∃ b2 o2,a1=some ⟨b2,o2,none⟩∧b2<wr.heap.size∧wr.cell? ⟨b2,o2,none⟩=some (.int .i64 (q6j ps k))):=fun j hj=>by
    have hjl:j<ps.length:=by omega
    obtain ⟨bj,oj,aj,cj,ej,_,q1,_,qT⟩:=(HP.out.below HBR.out) j hjl
    simp only [Option.some.injEq,Addr.mk.injEq,and_true] at ej
    obtain ⟨rfl,rfl⟩:=ej
    have hpos:=z7k (HA.out j hjl (by omega))
    obtain ⟨b2,o2,e2,hb2,d2,_,_⟩:=qT 0 hpos
    refine ⟨aj,ps[j].length,cj,q1,hpos,b2,o2,e2,hb2,?_⟩
    rw [hj,z5c hjl,k1y hpos]
    simpa using d2
   have HTF:Hid (Calls Tryz.prog 29 #[.slice a' ps[k].length c'] wr fun e w'=>e = .returned (q1o (q0f ps[k]))∧Below wr.heap.size wr w'):=HTF0
   clear hT HTF0 c2
   generalize ps[k].length=nl at c1 HTF HOP
   generalize opT ps[k]=op0 at HOP HTWO HNXT
   generalize q0f ps[k]=E at HTF HA3 HOP HBAD HTWO HNXT
   by_cases he:E=0
   ·subst he
    obtain ⟨hnl,b1,o1,rfl,hb1,d1⟩:=HOP.out rfl
    have HA4:=(show Hid (_) from HA3.out rfl)
    have HT2:Hid (op0=9∧q6j ps k=9→q1f ps=(k,2)):=HTWO.out rfl
    have HN2:Hid (¬ (op0=9∧q6j ps k=9)→q1f ps=q5v (q6j ps (k+1)) (k+1) (ps.drop (k+1))):=HNXT.out rfl
    clear HTWO HNXT
    have hnli:(0:Int)<(nl:Int):=by omega
    have HC1:=(show Hid (_) from c1)
    have HD1:=(show Hid (_) from d1)
    clear HOP HBAD HA3 c1 d1
    by_cases hk0:k=0
    ·have HN:Hid (q1f ps=q5v (q6j ps (k+1)) (k+1) (ps.drop (k+1))):=HN2.out (by simp [q6j,hk0])
     have hkb:¬ (0:Int)<(k:Int):=by omega
     have c1:=HC1.out
     clear HT2 HN2 hk0
     go_wp2_with fail
     refine HTF.out.mono ?_
     rintro e w2 ⟨rfl,b2⟩
     rw [q0r]
     have HB2:Hid (Below w.heap.size w w2):=q0i HBR.out (Nat.le_refl _) b2
     clear b2 c1
     go_wp2
     go_roundw
     case rel=>exact ⟨HB2.out,k+1,by omega,by go_num,HN.out,HA4.out⟩
     case measure=>simp [intOf];omega
    ·obtain ⟨j,rfl⟩:∃ j,k=j+1:=⟨k - 1,by omega⟩
     obtain ⟨a1,n1,c1',q1,hn1,b2,o2,rfl,hb2,d2⟩:=HPREV.out j rfl
     have hcast:((j+1:Nat):Int)=(j:Int)+1:=by omega
     have hkb:(0:Int)<(j:Int)+1:=by omega
     have hji:(j:Int)<(ps.length:Int):=by omega
     have hkj:(j:Int)+1<(ps.length:Int):=by omega
     have HCK:Hid (∀ W:World,Below wr.heap.size wr W→W.cell? ⟨b,o+(j+1),none⟩=some (.slice (some ⟨b1,o1,none⟩) nl c')∧W.cell? ⟨b1,o1,none⟩=some (.int .i64 op0)∧W.cell? ⟨b,o+j,none⟩=some (.slice (some ⟨b2,o2,none⟩) n1 c1')∧W.cell? ⟨b2,o2,none⟩=some (.int .i64 (q6j ps (j+1)))):=fun W hW=>
      ⟨((q1r hW).1 _ _ hb).trans HC1.out,((q1r hW).1 _ _ hb1).trans HD1.out,((q1r hW).1 _ _ hb).trans q1,((q1r hW).1 _ _ hb2).trans d2⟩
     have c1:=HC1.out
     generalize q6j ps (j+1)=pv at HT2 HN2 HCK
     rw [hcast] at hki ⊢
     clear q1 d2 HPREV hcast hk0
     go_wp2_with fail
     refine HTF.out.mono ?_
     rintro e w2 ⟨rfl,b2'⟩
     rw [q0r]
     have HB2:Hid (Below w.heap.size w w2):=q0i HBR.out (Nat.le_refl _) b2'
     obtain ⟨k1,k2,k3,k4⟩:=HCK.out w2 b2'
     clear b2' c1
     have HN1:Hid (Calls Tryz.prog 82 #[.slice (some ⟨b1,o1,none⟩) nl c'] w2 fun e w'=>e = .returned (.bool (op0 == 9))∧w2=w'):=k0c ⟨b1,o1,none⟩ nl c' op0 w2 hnl rfl k2
     have HN2':Hid (Calls Tryz.prog 82 #[.slice (some ⟨b2,o2,none⟩) n1 c1'] w2 fun e w'=>e = .returned (.bool (pv == 9))∧w2=w'):=k0c ⟨b2,o2,none⟩ n1 c1' pv w2 hn1 rfl k4
     clear k2 k4
     go_wp2_with fail
     refine HN1.out.mono ?_
     rintro e w3 ⟨rfl,rfl⟩
     by_cases h9:op0=9
     ·subst h9
      have hob:((9:Int) == 9)=true:=rfl
      rw [hob]
      clear hob
      go_wp2_with fail
      refine HN2'.out.mono ?_
      rintro e w3 ⟨rfl,rfl⟩
      by_cases h9':pv=9
      ·subst h9'
       have HE:Hid (q1f ps=(j+1,2)):=HT2.out (by simp)
       have hob:((9:Int) == 9)=true:=rfl
       rw [hob]
       clear HT2 HN2 hob
       go_wp2
       go_ret2
       exact ⟨by rw [HE.out];rfl,HB2.out⟩
      ·have HN:Hid (q1f ps=q5v (q6j ps (j+1+1)) (j+1+1) (ps.drop (j+1+1))):=HN2.out (fun h=>h9' h.2)
       have hpb:(pv == 9)=false:=by simp [h9']
       rw [hpb]
       clear HT2 HN2 h9' hpb
       go_wp2
       go_roundw
       case rel=>exact ⟨HB2.out,j+1+1,by omega,by go_num,HN.out,HA4.out⟩
       case measure=>simp [intOf];omega
     ·have HN:Hid (q1f ps=q5v (q6j ps (j+1+1)) (j+1+1) (ps.drop (j+1+1))):=HN2.out (fun h=>h9 h.1)
      have hob:(op0 == 9)=false:=by simp [h9]
      rw [hob]
      clear HT2 HN2 h9 hob
      go_wp2
      go_roundw
      case rel=>exact ⟨HB2.out,j+1+1,by omega,by go_num,HN.out,HA4.out⟩
      case measure=>simp [intOf];omega
   ·have HE:Hid (q1f ps=(k,E)):=HBAD.out he
    have HER:Hid (q1o E = .iface 23 (.int .i64 E)):=q0l he
    clear HOP HBAD HA3 HTWO HNXT he
    go_wp2_with fail
    refine HTF.out.mono ?_
    rintro e w2 ⟨rfl,b2⟩
    rw [HER.out]
    have HB2:Hid (Below w.heap.size w w2):=q0i HBR.out (Nat.le_refl _) b2
    clear b2 c1
    go_wp2
    go_ret2
    exact ⟨by rw [HE.out,HER.out];rfl,HB2.out⟩
  ·have HE:Hid (q1f ps=(0,0)):=by
    show q1f ps=_
    rw [HG.out,List.drop_eq_nil_of_le (by omega)];rfl
   have hki:¬ (k:Int)<(ps.length:Int):=by omega
   go_wp2
   go_ret2
   exact ⟨by rw [HE.out];rfl,HBR.out⟩
end Go.Proofs.YthjapabokcajhaaGreatDoor
namespace Go.Proofs.YthjapabokcajhaaGreatDoor
open Go Go.RowKit
set_option maxRecDepth 100000
set_option maxHeartbeats 2000000
theorem k7y (a b:Wd):(q9x a b).length≤a.length+b.length+1:=by
 unfold q9x
 split
 ·simp only [List.length_append,List.length_cons,List.length_nil];omega
 ·simp only [List.length_append];omega
theorem k3l:∀ (ws:List Wd) (t:Wd),(ws.foldl q9x t).length≤t.length+szW ws
 | [],t=>by simp [szW]
 | x::r,t=>by
  have h1:=k3l r (q9x t x)
  have h2:=k7y t x
  rw [List.foldl_cons,q1q];omega
theorem v2y:∀ s:Wd,szW (q4w s)=s.length+1
 | []=>rfl
 | c::r=>by
  have ih:=v2y r
  by_cases hc:c=32
  ·subst hc
   rw [q5h,q1q,ih];simp;omega
  ·cases hs:q4w r with
   | nil=>exact absurd hs (q5y r)
   | cons x y=>
    rw [q5i hc hs,q1q]
    rw [hs,q1q] at ih
    simp only [List.length_cons];omega
theorem j2o {x:Wd} (h:x≠[]):(q4n x).length≤x.length:=by
 unfold q4n ntx
 have h1:=k3l (q0h (x.drop 1)) []
 have h2:szW (q0h (x.drop 1))≤(x.drop 1).length+1:=by
  unfold q0h
  split
  ·exact Nat.zero_le _
  ·rw [v2y];exact Nat.le_refl _
 rw [List.length_drop] at h2
 have h3:0<x.length:=List.length_pos_iff.2 h
 simp only [List.length_nil] at h1
 omega
theorem j4f {u ts:List Wd} (h:u <:+ ts):szW u≤szW ts:=by
 obtain ⟨t,rfl⟩:=h
 rw [k2g];omega
theorem j5b (x:Wd):(wbS x).size=x.length:=by rw [←q0b];rfl
theorem v6o {x:Wd} (h:nmW x=true):(wbS x).size≤8:=by
 simp only [nmW,q0z,Bool.and_eq_true,decide_eq_true_eq] at h
 exact h.1.1.2
theorem j1g {acc:List (List Td)} {N:Nat} (h:∀ t∈acc,∀ x∈t,x.tx.size≤N):(q4l acc).length≤N:=by
 unfold q4l
 split
 ·rename_i x r hx
  have hm:(x::r)∈acc:=List.mem_of_getLast? hx
  have:=h _ hm x (by simp)
  rw [q0b];exact this
 ·exact Nat.zero_le _
theorem y4k {pv:Bool} {acc:List (List Td)} {ts:List Wd} {r:Rp} (h:PG pv acc ts r):∀ N,8≤N→(∀ t∈acc,∀ x∈t,x.tx.size≤N)→∀ qs,r = .ok qs→∀ t∈qs,∀ x∈t,x.tx.size≤N+szW ts:=by
 induction h with
 | done=>
  intro N _ hN qs e t ht x hx
  cases e
  have:=hN t ht x hx
  omega
 | @note pv acc wd ts r h0 _ ih=>
  intro N h8 hN qs e t ht x hx
  have hne:wd≠[]:=fun e=>by rw [e] at h0;simp at h0
  have hl:=j2o hne
  have:=ih (N+(wd.length+1)) (by omega) (fun t ht x hx=>by
   unfold k2s at ht
   split at ht
   ·rcases List.mem_append.1 ht with ht | ht
    ·have:=hN t ((List.dropLast_sublist acc).subset ht) x hx
     omega
    ·rw [List.mem_singleton] at ht
     subst ht
     rw [List.mem_singleton] at hx
     subst hx
     show (wbS _).size≤_
     rw [j5b]
     have h1:=k7y (q4l acc) (q4n wd)
     have h2:=j1g hN
     omega
   ·rcases List.mem_append.1 ht with ht | ht
    ·have:=hN t ht x hx
     omega
    ·rw [List.mem_singleton] at ht
     subst ht
     rw [List.mem_singleton] at hx
     subst hx
     show (wbS _).size≤_
     rw [j5b]
     omega) qs e t ht x hx
  rw [q1q];omega
 | letN=>intro N _ _ qs e;cases e
 | letE=>intro N _ _ qs e;cases e
 | letB=>intro N _ _ qs e;cases e
 | letX=>intro N _ _ qs e;cases e
 | @letO pv acc nm ts m ns u r hn hpr _ ih=>
  intro N h8 hN qs e t ht x hx
  have hs:=j4f (q9j hpr).1
  simp only [Rs.rest] at hs
  rw [q1q] at hs
  have:=ih N h8 (fun t ht x hx=>by
   rcases List.mem_append.1 ht with ht | ht
   ·exact hN t ht x hx
   ·rw [List.mem_singleton] at ht
    subst ht
    rcases List.mem_cons.1 hx with rfl | hx
    ·exact Nat.le_trans (v6o hn) h8
    ·exact Nat.le_trans (y1o hpr (fun x hx=>by cases hx) _ _ _ rfl x hx) h8) qs e t ht x hx
  rw [q1q,q1q,q1q];omega
 | doB=>intro N _ _ qs e;cases e
 | doX=>intro N _ _ qs e;cases e
 | @doO pv acc wd ts m ns u r h0 hl hpr _ ih=>
  intro N h8 hN qs e t ht x hx
  have hs:=j4f (q9j hpr).1
  simp only [Rs.rest] at hs
  rw [q1q] at hs
  have:=ih N h8 (fun t ht x hx=>by
   rcases List.mem_append.1 ht with ht | ht
   ·exact hN t ht x hx
   ·rw [List.mem_singleton] at ht
    subst ht
    rcases List.mem_cons.1 hx with rfl | hx
    ·exact Nat.zero_le _
    ·exact Nat.le_trans (y1o hpr (fun x hx=>by cases hx) _ _ _ rfl x hx) h8) qs e t ht x hx
  omega
theorem v8b (ws:List Wd):szW ws=(ws.map List.length).sum+ws.length:=by
 induction ws with
 | nil=>rfl
 | cons x r ih=>rw [q1q,ih,List.map_cons,List.sum_cons,List.length_cons];omega
theorem z1d (s:ByteArray) (w:World) (ht:z2a w):Calls Tryz.prog 14 #[.string s] w fun e w'=>z1y s w e w':=by
 have HW:Hid (Calls Tryz.prog 40 #[.string s] w fun e w'=>z5r s w e w'∧Below w.heap.size w w'):=j5k s w
 by_cases h0:q6g (btL s)=0
 ·have hz:=z2w h0
  have hfew:=v5s h0
  have htot:=j5f (btL s)
  have HTK:Hid (∀ x∈q2w (btL s),q3p x):=v8p (btL s)
  have HT:Hid (z2a w):=ht
  have hssz:s.size≤60000:=by rw [←q0b];exact hz.1
  have HRD:Hid (∀ A P ac pc w1,q2p w.heap.size (.slice A (q2w (btL s)).length ac) ((q2w (btL s)).map wbS) w1→z1x w.heap.size (.slice P (q2w (btL s)).length pc) (z7o (btL s)) w1→Below w.heap.size w w1→Calls Tryz.prog 41 #[.slice A (q2w (btL s)).length ac,.slice P (q2w (btL s)).length pc,.int .i64 (s.size:Int)] w1 fun e w'=>z7t (q2w (btL s)) (plE (z7o (btL s)) s.size) w.heap.size w1 e w'):=fun A P ac pc w1 h1 h2 hb=>j5w HTK.out (by omega) hfew (j5l _).symm hb.size h1 h2 (fun w' hb'=>HT.out.below (hb.trans hb'))
  have HWR:Hid (Calls Tryz.prog 40 #[.string s] w fun e w'=>∃ A P ac pc,e = .returned (.tuple #[.slice A (q2w (btL s)).length ac,.slice P (q2w (btL s)).length pc,.int .i64 0,.nilIface])∧(q2p w.heap.size (.slice A (q2w (btL s)).length ac) ((q2w (btL s)).map wbS) w'∧z1x w.heap.size (.slice P (q2w (btL s)).length pc) (z7o (btL s)) w'∧Below w.heap.size w w')):=by
   refine HW.out.mono ?_
   rintro e w' ⟨hr,hb⟩
   rcases hr with ⟨hn,_⟩ | ⟨_,A,P,ac,pc,rfl,h1,h2⟩
   ·exact absurd h0 hn
   ·exact ⟨A,P,ac,pc,rfl,h1,h2,hb⟩
  have HTX:Hid (∀ qs,PG false [] (q2w (btL s)) (.ok qs)→∀ t∈qs,k7o t):=fun qs hpg t ht x hx=>by
   have h1:=y4k hpg 8 (Nat.le_refl _) (fun t ht=>by cases ht) qs rfl t ht x hx
   rw [v8b] at h1
   omega
  have HOB:Hid (∀ u w1 w',Below w.heap.size w w1→PG false [] (q2w (btL s)) (.bad u)→Below w.heap.size w1 w'→z1y s w (.returned (.tuple #[.slice none 0 0,.int .i64 (plE (z7o (btL s)) s.size ((q2w (btL s)).length - u.length):Int),.iface 23 (.int .i64 5)])) w'):=fun u w1 w' hb1 hpg hb=>⟨[],_,5,none,0,rfl,q7q.bad h0 hpg,Prg.nil _ _,Nat.le_refl _,hb1.trans hb⟩
  have HOK:Hid (∀ qs A c w',PG false [] (q2w (btL s)) (.ok qs)→(q1f qs).2=0→Prg w' A qs→qs.length≤c→Below w.heap.size w w'→z1y s w (.returned (.tuple #[.slice A qs.length c,.int .i64 0,.nilIface])) w'):=fun qs A c w' hpg hf hP hc hb=>⟨qs,0,0,A,c,rfl,q7q.ok h0 hpg hf,hP,hc,hb⟩
  have HOF:Hid (∀ qs w',PG false [] (q2w (btL s)) (.ok qs)→(q1f qs).2≠0→Below w.heap.size w w'→z1y s w (.returned (.tuple #[.slice none 0 0,.int .i64 0,.iface 23 (.int .i64 (q1f qs).2)])) w'):=fun qs w' hpg hf hb=>⟨[],0,(q1f qs).2,none,0,by rw [q0l hf];rfl,q7q.full h0 hpg hf,Prg.nil _ _,Nat.le_refl _,hb⟩
  clear HW hz htot hfew ht h0 HTK HT
  generalize (q2w (btL s)).length=nl at HRD HWR
  go_enter Tryz.func14,Tryz.ntmps14
  go_wp2_with fail
  refine HWR.out.mono ?_
  rintro e w1 ⟨A,P,ac,pc,rfl,hX⟩
  have HX:=(show Hid (_) from hX)
  have HRC:Hid (Calls Tryz.prog 41 #[.slice A nl ac,.slice P nl pc,.int .i64 (s.size:Int)] w1 fun e w'=>z7t (q2w (btL s)) (plE (z7o (btL s)) s.size) w.heap.size w1 e w'):=HRD.out A P ac pc w1 hX.1 hX.2.1 hX.2.2
  clear hX HWR HRD
  go_wp2_with fail
  refine HRC.out.mono ?_
  intro e w2 hG
  cases hG with
  | @bad u _ pg hb=>
   have HF:=(show Hid (_) from HOB.out u w1 w2 HX.out.2.2 pg hb)
   clear pg hb HRC
   generalize plE (z7o (btL s)) s.size ((q2w (btL s)).length - u.length)=pp at HF ⊢
   go_wp2
   refine bodyPost_ret (v:=.tuple #[.slice none 0 0,.int .i64 (pp:Int),.iface 23 (.int .i64 5)]) (by simp [results,Tryz.results14,go_sem]) rfl ?_
   exact HF.out
  | @ok qs A2 c2 _ pg hp hc hb=>
   have hb2:Below w.heap.size w w2:=HX.out.2.2.trans hb
   have HA:Hid (Calls Tryz.prog 42 #[.slice A2 qs.length c2] w2 fun e w'=>e = .returned (.tuple #[.int .i64 ((q1f qs).1:Int),q1o (q1f qs).2])∧Below w2.heap.size w2 w'):=j4h qs A2 c2 w2 hc hp (HTX.out qs pg)
   by_cases hf:(q1f qs).2=0
   ·have HF:Hid (∀ w3,Below w2.heap.size w2 w3→z1y s w (.returned (.tuple #[.slice A2 qs.length c2,.int .i64 0,.nilIface])) w3):=fun w3 hb3=>HOK.out qs A2 c2 w3 pg hf (hp.below hb3) hc (q0i hb2 (Nat.le_refl _) hb3)
    rw [hf] at HA
    generalize (q1f qs).1=K at HA
    clear pg hp hc hb hb2 hf HRC
    generalize qs.length=ql at HA HF ⊢
    go_wp2_with fail
    refine HA.out.mono ?_
    rintro e w3 ⟨rfl,b3⟩
    have HF3:=(show Hid (_) from HF.out w3 b3)
    clear b3
    rw [q0r]
    go_wp2
    refine bodyPost_ret (v:=.tuple #[.slice A2 ql c2,.int .i64 0,.nilIface]) (by simp [results,Tryz.results14,go_sem]) rfl ?_
    exact HF3.out
   ·have HF:Hid (∀ w3,Below w2.heap.size w2 w3→z1y s w (.returned (.tuple #[.slice none 0 0,.int .i64 0,.iface 23 (.int .i64 (q1f qs).2)])) w3):=fun w3 hb3=>HOF.out qs w3 pg hf (q0i hb2 (Nat.le_refl _) hb3)
    have HE:Hid (q1o (q1f qs).2 = .iface 23 (.int .i64 (q1f qs).2)):=q0l hf
    generalize (q1f qs).2=E at HA HE HF
    generalize (q1f qs).1=K at HA
    clear pg hp hc hb hb2 hf HRC
    generalize qs.length=ql at HA ⊢
    go_wp2_with fail
    refine HA.out.mono ?_
    rintro e w3 ⟨rfl,b3⟩
    have HF3:=(show Hid (_) from HF.out w3 b3)
    clear b3
    rw [HE.out]
    go_wp2
    refine bodyPost_ret (v:=.tuple #[.slice none 0 0,.int .i64 0,.iface 23 (.int .i64 E)]) (by simp [results,Tryz.results14,go_sem]) rfl ?_
    exact HF3.out
 ·have HWR:Hid (Calls Tryz.prog 40 #[.string s] w fun e w'=>e = .returned (.tuple #[.slice none 0 0,.slice none 0 0,.int .i64 ((z9a (btL s):Nat):Int),q1o (q6g (btL s))])∧Below w.heap.size w w'):=by
   refine HW.out.mono ?_
   rintro e w' ⟨hr,hb⟩
   rcases hr with ⟨_,rfl⟩ | ⟨hn,_⟩
   ·exact ⟨rfl,hb⟩
   ·exact absurd hn h0
  have HE:Hid (q1o (q6g (btL s)) = .iface 23 (.int .i64 (q6g (btL s)))):=q0l h0
  have HF:Hid (∀ w',Below w.heap.size w w'→z1y s w (.returned (.tuple #[.slice none 0 0,.int .i64 ((z9a (btL s):Nat):Int),.iface 23 (.int .i64 (q6g (btL s)))])) w'):=fun w' hb=>⟨[],_,_,none,0,by rw [HE.out];rfl,q7q.lex h0,Prg.nil _ _,Nat.le_refl _,hb⟩
  generalize q6g (btL s)=E at HWR HE HF
  generalize ((z9a (btL s):Nat):Int)=LK at HWR HF
  clear HW h0 ht
  go_enter Tryz.func14,Tryz.ntmps14
  go_wp2_with fail
  refine HWR.out.mono ?_
  rintro e w1 ⟨rfl,b1⟩
  have HF1:=(show Hid (_) from HF.out w1 b1)
  clear b1
  rw [HE.out]
  go_wp2
  refine bodyPost_ret (v:=.tuple #[.slice none 0 0,.int .i64 LK,.iface 23 (.int .i64 E)]) (by simp [results,Tryz.results14,go_sem]) rfl ?_
  exact HF1.out
end Go.Proofs.YthjapabokcajhaaGreatDoor
namespace Go.Proofs.YthjapabokcajhaaGreatDoor
open Go Go.RowKit
set_option maxRecDepth 100000
set_option maxHeartbeats 2000000
theorem Td.ext2 {x y:Td} (h1:x.op=y.op) (h2:x.tx=y.tx) (h3:x.n=y.n):x=y:=by
 cases x;cases y;simp_all
theorem k5l {s t:ByteArray} (h:s.data.toList=t.data.toList):s=t:=by
 apply ByteArray.ext
 exact Array.toList_inj.1 h
theorem z1u {w:World} {a:Option Addr} {ds:List Td} (h:Tds w a ds) (q:Nat):Tds (w.drewN q) a ds:=h
theorem z5f (ds es:List Td) (a o:Option Addr) (cap cap2:Nat) (hl:ds.length≤4611686018427387904) (r:Bool) (hr:r=true↔ds=es) (w:World) (hN:Tds w a ds) (hM:Tds w o es) :
  Calls Tryz.prog 43 #[.slice a ds.length cap,.slice o es.length cap2] w fun e w'=>e = .returned (.bool r)∧∃ q,w'=w.drewN q:=by
 have HN:Hid (Tds w a ds):=hN
 have HM:Hid (Tds w o es):=hM
 have HNO:Hid (ds≠es→r=false):=fun h=>by
  cases r with
  | false=>rfl
  | true=>exact absurd (hr.1 rfl) h
 have HYES:Hid (ds=es→r=true):=hr.2
 clear hN hM hr
 by_cases hle:ds.length=es.length
 ·go_enter Tryz.func43,Tryz.ntmps43
  have h0:((ds.length:Int) != (es.length:Int))=false:=by simp [hle]
  have HL:Hid (ds.length=es.length):=hle
  have hle1:(ds.length:Int)≤(es.length:Int):=by omega
  clear hle
  go_wp2
  go_loopw [5] (fun i wr=>(∃ q:Nat,wr=w.drewN q)∧∃ k:Nat,k≤ds.length∧i = .int .i64 k∧ds.take k=es.take k) (fun i _=>ds.length - (intOf i).toNat)
  case atStart=>exact ⟨⟨0,rfl⟩,0,Nat.zero_le _,rfl,by simp⟩
  case round=>
   obtain ⟨⟨q,rfl⟩,k,hk,rfl,hall⟩:=hrel
   have HA:Hid (ds.take k=es.take k):=hall
   clear hall
   by_cases hlt:k<ds.length
   ·have hlt2:k<es.length:=by have:=HL.out;omega
    have hi1:(k:Int)<(ds.length:Int):=by omega
    have hi2:(k:Int)<(es.length:Int):=by omega
    obtain ⟨b,of,ea,hb,c1,c2,c3⟩:=HN.out k hlt
    obtain ⟨b',of',ea',hb',c1',c2',c3'⟩:=HM.out k hlt2
    subst ea ea'
    by_cases hx:ds[k]=es[k]
    ·have HX:Hid (ds.take (k+1)=es.take (k+1)):=(show _=_ by
      rw [List.take_succ_eq_append_getElem hlt,List.take_succ_eq_append_getElem hlt2,HA.out,hx])
     rw [←hx] at c1' c2' c3'
     clear hx
     go_wp2_with fail
     go_quiet (fail)
     go_wp2
     go_roundw
     case rel=>exact ⟨⟨_,rfl⟩,k+1,by omega,by go_num,HX.out⟩
     case measure=>simp [intOf];omega
    ·have HX:Hid (r=false):=HNO.out fun h=>hx (by subst h;rfl)
     have hc:ds[k].op≠es[k].op∨(ds[k].op=es[k].op∧ds[k].tx≠es[k].tx)∨(ds[k].op=es[k].op∧ds[k].tx=es[k].tx∧ds[k].n≠es[k].n):=by
      by_cases h1:ds[k].op=es[k].op
      ·by_cases h2:ds[k].tx=es[k].tx
       ·by_cases h3:ds[k].n=es[k].n
        ·exact absurd (Td.ext2 h1 h2 h3) hx
        ·exact .inr (.inr ⟨h1,h2,h3⟩)
       ·exact .inr (.inl ⟨h1,h2⟩)
      ·exact .inl h1
     clear hx
     generalize ds[k]=x at c1 c2 c3 hc
     generalize es[k]=y at c1' c2' c3' hc
     rcases hc with hc | ⟨e1,hc⟩ | ⟨e1,e2,hc⟩
     ·have g1:(x.op == y.op)=false:=by simp [hc]
      have g2:(x.op != y.op)=true:=by simp [hc]
      clear hc
      go_wp2_with fail
      go_quiet (fail)
      go_wp2
      go_ret
      exact ⟨by rw [HX.out];rfl,_,World.drewN_drewN _ _ _⟩
     ·rw [←e1] at c1'
      have g2:(x.tx.toList == y.tx.toList)=false:=by
       rw [ByteArray.toList_eq,ByteArray.toList_eq]
       simp only [beq_eq_false_iff_ne,ne_eq]
       exact fun h=>hc (k5l h)
      clear e1 hc
      go_wp2_with fail
      go_quiet (fail)
      go_wp2
      go_ret
      exact ⟨by rw [HX.out];rfl,_,World.drewN_drewN _ _ _⟩
     ·rw [←e1] at c1'
      rw [←e2] at c2'
      have g1:(x.n == y.n)=false:=by simp [hc]
      have g2:(x.n != y.n)=true:=by simp [hc]
      clear e1 e2 hc
      go_wp2_with fail
      go_quiet (fail)
      go_wp2
      go_ret
      exact ⟨by rw [HX.out];rfl,_,World.drewN_drewN _ _ _⟩
   ·have HX:Hid (r=true):=HYES.out (by
     have h1:=HA.out
     rw [List.take_of_length_le (by omega),List.take_of_length_le (by have:=HL.out;omega)] at h1
     exact h1)
    go_wp2
    go_ret
    exact ⟨by rw [HX.out];rfl,q,rfl⟩
 ·have h0:((ds.length:Int) != (es.length:Int))=true:=by simp;omega
  have HX:Hid (r=false):=HNO.out fun h=>hle (by rw [h])
  clear hle
  go_enter Tryz.func43,Tryz.ntmps43
  go_wp2
  go_ret
  exact ⟨by rw [HX.out];rfl,0,rfl⟩
theorem k6x (ps qs:List (List Td)) (a o:Option Addr) (cap cap2:Nat) (hl:ps.length≤4611686018427387904) (hlp:∀ t∈ps,t.length≤4611686018427387904) (r:Bool) (hr:r=true↔ps=qs) (w:World) (hN:Prg w a ps) (hM:Prg w o qs) :
  Calls Tryz.prog 16 #[.slice a ps.length cap,.slice o qs.length cap2] w fun e w'=>e = .returned (.bool r)∧∃ q,w'=w.drewN q:=by
 have HN:Hid (Prg w a ps):=hN
 have HM:Hid (Prg w o qs):=hM
 have HLP:Hid (∀ t∈ps,t.length≤4611686018427387904):=hlp
 have HNO:Hid (ps≠qs→r=false):=fun h=>by
  cases r with
  | false=>rfl
  | true=>exact absurd (hr.1 rfl) h
 have HYES:Hid (ps=qs→r=true):=hr.2
 clear hN hM hlp hr
 by_cases hle:ps.length=qs.length
 ·go_enter Tryz.func16,Tryz.ntmps16
  have h0:((ps.length:Int) != (qs.length:Int))=false:=by simp [hle]
  have HL:Hid (ps.length=qs.length):=hle
  have hle1:(ps.length:Int)≤(qs.length:Int):=by omega
  clear hle
  go_wp2
  go_loopw [5] (fun i wr=>(∃ q:Nat,wr=w.drewN q)∧∃ k:Nat,k≤ps.length∧i = .int .i64 k∧ps.take k=qs.take k) (fun i _=>ps.length - (intOf i).toNat)
  case atStart=>exact ⟨⟨0,rfl⟩,0,Nat.zero_le _,rfl,by simp⟩
  case round=>
   obtain ⟨⟨q,hwr⟩,k,hk,rfl,hall⟩:=hrel
   have HWR:Hid (wr=w.drewN q):=hwr
   have HNr:Hid (Prg wr a ps):=(show Prg wr a ps by rw [hwr];exact HN.out)
   have HMr:Hid (Prg wr o qs):=(show Prg wr o qs by rw [hwr];exact HM.out)
   have HA:Hid (ps.take k=qs.take k):=hall
   clear hall hwr
   by_cases hlt:k<ps.length
   ·have hlt2:k<qs.length:=by have:=HL.out;omega
    have hki:(k:Int)<(ps.length:Int):=by omega
    have hki2:(k:Int)<(qs.length:Int):=by omega
    obtain ⟨b,of,a1,c1,ea,hb,d1,_,hT1⟩:=HNr.out k hlt
    obtain ⟨b',of',a2,c2,ea',hb',d2,_,hT2⟩:=HMr.out k hlt2
    subst ea ea'
    have hxl:=HLP.out _ (List.getElem_mem hlt)
    by_cases heq:ps[k]=qs[k]
    ·have HS:Hid (∀ n,Calls Tryz.prog 43 #[.slice a1 ps[k].length c1,.slice a2 qs[k].length c2] (wr.drewN n) fun e w'=>e = .returned (.bool true)∧∃ m,w'=(wr.drewN n).drewN m):=fun n=>z5f _ _ a1 a2 c1 c2 hxl true (by simp [heq]) (wr.drewN n) (z1u hT1 n) (z1u hT2 n)
     have HY:Hid (ps.take (k+1)=qs.take (k+1)):=(show _=_ by
      rw [List.take_succ_eq_append_getElem hlt,List.take_succ_eq_append_getElem hlt2,HA.out,heq])
     clear hT1 hT2 heq hxl
     generalize ps[k].length=n1 at d1 HS
     generalize qs[k].length=n2 at d2 HS
     go_wp2_with fail
     go_quiet ((go_at_call 43;exact Calls.quiet_of (HS.out _)))
     go_wp2
     go_roundw
     case rel=>exact ⟨⟨_,by rw [HWR.out,World.drewN_drewN]⟩,k+1,by omega,by go_num,HY.out⟩
     case measure=>simp [intOf];omega
    ·have HS:Hid (∀ n,Calls Tryz.prog 43 #[.slice a1 ps[k].length c1,.slice a2 qs[k].length c2] (wr.drewN n) fun e w'=>e = .returned (.bool false)∧∃ m,w'=(wr.drewN n).drewN m):=fun n=>z5f _ _ a1 a2 c1 c2 hxl false (by simp [heq]) (wr.drewN n) (z1u hT1 n) (z1u hT2 n)
     have HX:Hid (r=false):=HNO.out fun h=>heq (by subst h;rfl)
     clear hT1 hT2 heq hxl
     generalize ps[k].length=n1 at d1 HS
     generalize qs[k].length=n2 at d2 HS
     go_wp2_with fail
     go_quiet ((go_at_call 43;exact Calls.quiet_of (HS.out _)))
     go_wp2
     go_ret
     exact ⟨by rw [HX.out];rfl,_,by rw [HWR.out,World.drewN_drewN]⟩
   ·have HX:Hid (r=true):=HYES.out (by
     have h1:=HA.out
     rw [List.take_of_length_le (by omega),List.take_of_length_le (by have:=HL.out;omega)] at h1
     exact h1)
    go_wp2
    go_ret
    exact ⟨by rw [HX.out];rfl,q,HWR.out⟩
 ·have h0:((ps.length:Int) != (qs.length:Int))=true:=by simp;omega
  have HX:Hid (r=false):=HNO.out fun h=>hle (by rw [h])
  clear hle
  go_enter Tryz.func16,Tryz.ntmps16
  go_wp2
  go_ret
  exact ⟨by rw [HX.out];rfl,0,rfl⟩
end Go.Proofs.YthjapabokcajhaaGreatDoor
