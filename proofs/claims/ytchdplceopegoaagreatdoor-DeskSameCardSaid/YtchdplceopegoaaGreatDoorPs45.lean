/- Texts as one: RdA, RdB, RdL, RdT, TreS, RdS, RdN, RdR, RdP, TreA, SyW, SynF, PgB. -/
import Derived.Test.YtchdplceopegoaaGreatDoorPs44
namespace Go.Proofs.YtchdplceopegoaaGreatDoor
open Go Go.RowKit
def y4p:Job→List Td
 | .loop _ acc=>acc
 | .args _ _ acc=>acc
 | _=>[]
theorem v3n {w:Wd} (h:nmW w=true):(wbS w).size≤8:=by
 rw [←q0b]
 exact q1u h
theorem y2r {j:Job} {ts:List Wd} {r:Rs} (h:PR j ts r):(∀ x∈y4p j,x.tx.size≤8)→∀ m ns u,r = .ok m ns u→∀ x∈ns,x.tx.size≤8:=by
 have app:∀ {a b:List Td},(∀ x∈a,x.tx.size≤8)→(∀ x∈b,x.tx.size≤8)→∀ x∈a++b,x.tx.size≤8:=fun ha hb x hx=>by
  rcases List.mem_append.1 hx with hx | hx
  ·exact ha x hx
  ·exact hb x hx
 have con:∀ {y:Td} {b:List Td},y.tx.size≤8→(∀ x∈b,x.tx.size≤8)→∀ x∈y::b,x.tx.size≤8:=fun hy hb x hx=>by
  rcases List.mem_cons.1 hx with rfl | hx
  ·exact hy
  ·exact hb x hx
 have non:∀ x∈([]:List Td),x.tx.size≤8:=fun x hx=>by cases hx
 have e0:(⟨#[]⟩:ByteArray).size≤8:=by decide
 induction h with
 | lev2 _ ih=>intro _ m ns u e;exact ih non m ns u e
 | levB=>intro _ m ns u e;cases e
 | levO _ _ _ ih1 ih2=>intro _ m ns u e;exact ih2 (ih1 non _ _ _ rfl) m ns u e
 | lopE=>intro ha m ns u e;cases e;exact ha
 | lopB=>intro _ m ns u e;cases e
 | lopO _ _ ih1 ih2=>intro ha m ns u e;exact ih2 (con e0 (app ha (ih1 non _ _ _ rfl))) m ns u e
 | sinN=>intro _ m ns u e;cases e
 | sPB=>intro _ m ns u e;cases e
 | sPC _ ih=>intro _ m ns u e;cases e;exact ih non _ _ _ rfl
 | sPX=>intro _ m ns u e;cases e
 | sLB=>intro _ m ns u e;cases e
 | sLO _ ih=>intro _ m ns u e;cases e;exact con e0 (ih non _ _ _ rfl)
 | sNum=>intro _ m ns u e;cases e;exact con e0 non
 | sName h=>intro _ m ns u e;cases e;exact con (v3n h) non
 | sCB=>intro _ m ns u e;cases e
 | sCO h _ ih=>intro _ m ns u e;cases e;exact con (v3n h) (ih non _ _ _ rfl)
 | sBad=>intro _ m ns u e;cases e
 | aEnd=>intro ha m ns u e;cases e;exact ha
 | aSep=>intro _ m ns u e;cases e
 | aB0=>intro _ m ns u e;cases e
 | aO0 _ _ _ ih1 ih2=>intro ha m ns u e;exact ih2 (app ha (ih1 non _ _ _ rfl)) m ns u e
 | aB=>intro _ m ns u e;cases e
 | aO _ _ _ ih1 ih2=>intro ha m ns u e;exact ih2 (app ha (ih1 non _ _ _ rfl)) m ns u e
set_option maxRecDepth 100000
set_option maxHeartbeats 4000000
theorem k0e (a:Addr) (n cap:Nat) (op:Int) (w:World) (hn:0<n) {b o:Nat} (ha:a=⟨b,o,none⟩) (hc:w.cell? ⟨b,o,none⟩=some (.int .i64 op)):Calls Tryz.prog 81 #[.slice (some a) n cap] w fun e w'=>e = .returned (.bool (op == 9))∧w=w':=by
 subst ha
 have hni:(0:Int)<(n:Int):=by omega
 go_enter Tryz.func81,Tryz.ntmps81
 go_wp2
 go_ret
 exact ⟨rfl,rfl⟩
theorem k0c (ps:List (List Td)) (a:Option Addr) (cap:Nat) (w:World) (_hc:ps.length≤cap) (hP:Prg w a ps) (hsz:∀ t∈ps,z4c t):Calls Tryz.prog 50 #[.slice a ps.length cap] w fun e w'=>e = .returned (.tuple #[.int .i64 ((q0p ps).1:Int),q1f (q0p ps).2])∧Below w.heap.size w w':=by
 have HP:Hid (Prg w a ps):=hP
 have HSZ:Hid (∀ t∈ps,z4c t):=hsz
 clear hP hsz
 by_cases h20:20<(ps.length:Int)
 ·have HE:Hid (q0p ps=(0,3)):=by show q0p ps=_;rw [q0p,if_pos (by omega)]
  go_enter Tryz.func50,Tryz.ntmps50
  go_wp2
  go_ret2
  exact ⟨by rw [HE.out];rfl,Below.refl _ _⟩
 have HF:Hid (q0p ps=q5c 0 0 ps):=by show q0p ps=_;rw [q0p,if_neg (by omega)]
 go_enter Tryz.func50,Tryz.ntmps50
 go_wp2
 go_loopw [13] (fun i wr=>Below w.heap.size w wr∧∃ k:Nat,k≤ps.length∧i = .int .i64 k∧q0p ps=q5c (q6g ps k) k (ps.drop k)∧∀ j (h:j<ps.length),j<k→q0c ps[j]=0) (fun i _=>ps.length - (intOf i).toNat)
 case atStart=>exact ⟨Below.refl _ _,0,Nat.zero_le _,rfl,HF.out,fun j _ h=>by omega⟩
 case round=>
  obtain ⟨hbr,k,hk,rfl,hF,hall⟩:=hrel
  have HBR:Hid (Below w.heap.size w wr):=hbr
  have HG:Hid (q0p ps=q5c (q6g ps k) k (ps.drop k)):=hF
  have HA:Hid (∀ j (h:j<ps.length),j<k→q0c ps[j]=0):=hall
  clear hbr hF hall
  by_cases hlt:k<ps.length
  ·obtain ⟨b,o,a',c',ea,hb,c1,c2,hT⟩:=(HP.out.below HBR.out) k hlt
   subst ea
   have hki:(k:Int)<(ps.length:Int):=by omega
   have HTF0:Calls Tryz.prog 51 #[.slice a' ps[k].length c'] wr fun e w'=>e = .returned (q1f (q0c ps[k]))∧Below wr.heap.size wr w':=q5u ps[k] a' c' wr c2 hT (HSZ.out _ (List.getElem_mem hlt))
   have HA3:Hid (q0c ps[k]=0→∀ j (h:j<ps.length),j<k+1→q0c ps[j]=0):=fun h0 j h hj=>by
    by_cases hjk:j=k
    ·subst hjk;exact h0
    ·exact HA.out j h (by omega)
   have HOP:Hid (q0c ps[k]=0→0<ps[k].length∧∃ b1 o1,a'=some ⟨b1,o1,none⟩∧b1<wr.heap.size∧wr.cell? ⟨b1,o1,none⟩=some (.int .i64 (opT ps[k]))):=fun h0=>by
    have hpos:=z7p h0
    obtain ⟨b1,o1,e1,hb1,d1,_,_⟩:=hT 0 hpos
    exact ⟨hpos,b1,o1,e1,hb1,by rw [k2h hpos];simpa using d1⟩
   have HBAD:Hid (q0c ps[k]≠0→q0p ps=(k,q0c ps[k])):=fun h=>HG.out.trans (j4c hlt h)
   have HTWO:Hid (q0c ps[k]=0→opT ps[k]=9∧q6g ps k=9→q0p ps=(k,2)):=fun h h2=>HG.out.trans (j4d hlt h h2)
   have HNXT:Hid (q0c ps[k]=0→¬ (opT ps[k]=9∧q6g ps k=9)→q0p ps=q5c (q6g ps (k+1)) (k+1) (ps.drop (k+1))):=fun h h2=>HG.out.trans (k7b hlt h h2)
   have HPREV:Hid (∀ j,k=j+1→∃ a1 n1 c1',wr.cell? ⟨b,o+j,none⟩=some (.slice a1 n1 c1')∧0<n1∧∃ b2 o2,a1=some ⟨b2,o2,none⟩∧b2<wr.heap.size∧wr.cell? ⟨b2,o2,none⟩=some (.int .i64 (q6g ps k))):=fun j hj=>by
    have hjl:j<ps.length:=by omega
    obtain ⟨bj,oj,aj,cj,ej,_,q1,_,qT⟩:=(HP.out.below HBR.out) j hjl
    simp only [Option.some.injEq,Addr.mk.injEq,and_true] at ej
    obtain ⟨rfl,rfl⟩:=ej
    have hpos:=z7p (HA.out j hjl (by omega))
    obtain ⟨b2,o2,e2,hb2,d2,_,_⟩:=qT 0 hpos
    refine ⟨aj,ps[j].length,cj,q1,hpos,b2,o2,e2,hb2,?_⟩
    rw [hj,z5f hjl,k2h hpos]
    simpa using d2
   have HTF:Hid (Calls Tryz.prog 51 #[.slice a' ps[k].length c'] wr fun e w'=>e = .returned (q1f (q0c ps[k]))∧Below wr.heap.size wr w'):=HTF0
   clear hT HTF0 c2
   generalize ps[k].length=nl at c1 HTF HOP
   generalize opT ps[k]=op0 at HOP HTWO HNXT
   generalize q0c ps[k]=E at HTF HA3 HOP HBAD HTWO HNXT
   by_cases he:E=0
   ·subst he
    obtain ⟨hnl,b1,o1,rfl,hb1,d1⟩:=HOP.out rfl
    have HA4:=(show Hid (_) from HA3.out rfl)
    have HT2:Hid (op0=9∧q6g ps k=9→q0p ps=(k,2)):=HTWO.out rfl
    have HN2:Hid (¬ (op0=9∧q6g ps k=9)→q0p ps=q5c (q6g ps (k+1)) (k+1) (ps.drop (k+1))):=HNXT.out rfl
    clear HTWO HNXT
    have hnli:(0:Int)<(nl:Int):=by omega
    have HC1:=(show Hid (_) from c1)
    have HD1:=(show Hid (_) from d1)
    clear HOP HBAD HA3 c1 d1
    by_cases hk0:k=0
    ·have HN:Hid (q0p ps=q5c (q6g ps (k+1)) (k+1) (ps.drop (k+1))):=HN2.out (by simp [q6g,hk0])
     have hkb:¬ (0:Int)<(k:Int):=by omega
     have c1:=HC1.out
     clear HT2 HN2 hk0
     go_wp2_with fail
     refine HTF.out.mono ?_
     rintro e w2 ⟨rfl,b2⟩
     rw [q0q]
     have HB2:Hid (Below w.heap.size w w2):=q0j HBR.out (Nat.le_refl _) b2
     clear b2 c1
     go_wp2
     go_roundw
     case rel=>exact ⟨HB2.out,k+1,by omega,by go_num,HN.out,HA4.out⟩
     case measure=>simp [intOf];omega
    ·obtain ⟨j,rfl⟩:∃ j,k=j+1:=⟨k - 1,by omega⟩
     obtain ⟨a1,n1,c1',q1,hn1,b2,o2,rfl,hb2,d2⟩:=HPREV.out j rfl
     have hcast:((j+1:Nat):Int)=(j:Int)+1:=by omega
     have hkb:(0:Int)<(j:Int)+1:=by omega
     have hji:(j:Int)<(ps.length:Int):=by omega
     have hkj:(j:Int)+1<(ps.length:Int):=by omega
     have HCK:Hid (∀ W:World,Below wr.heap.size wr W→W.cell? ⟨b,o+(j+1),none⟩=some (.slice (some ⟨b1,o1,none⟩) nl c')∧W.cell? ⟨b1,o1,none⟩=some (.int .i64 op0)∧W.cell? ⟨b,o+j,none⟩=some (.slice (some ⟨b2,o2,none⟩) n1 c1')∧W.cell? ⟨b2,o2,none⟩=some (.int .i64 (q6g ps (j+1)))):=fun W hW=>
      ⟨((q0w hW).1 _ _ hb).trans HC1.out,((q0w hW).1 _ _ hb1).trans HD1.out,((q0w hW).1 _ _ hb).trans q1,((q0w hW).1 _ _ hb2).trans d2⟩
     have c1:=HC1.out
     generalize q6g ps (j+1)=pv at HT2 HN2 HCK
     rw [hcast] at hki ⊢
     clear q1 d2 HPREV hcast hk0
     go_wp2_with fail
     refine HTF.out.mono ?_
     rintro e w2 ⟨rfl,b2'⟩
     rw [q0q]
     have HB2:Hid (Below w.heap.size w w2):=q0j HBR.out (Nat.le_refl _) b2'
     obtain ⟨k1,k2,k3,k4⟩:=HCK.out w2 b2'
     clear b2' c1
     have HN1:Hid (Calls Tryz.prog 81 #[.slice (some ⟨b1,o1,none⟩) nl c'] w2 fun e w'=>e = .returned (.bool (op0 == 9))∧w2=w'):=k0e ⟨b1,o1,none⟩ nl c' op0 w2 hnl rfl k2
     have HN2':Hid (Calls Tryz.prog 81 #[.slice (some ⟨b2,o2,none⟩) n1 c1'] w2 fun e w'=>e = .returned (.bool (pv == 9))∧w2=w'):=k0e ⟨b2,o2,none⟩ n1 c1' pv w2 hn1 rfl k4
     clear k2 k4
     go_wp2_with fail
     refine HN1.out.mono ?_
     rintro e w3 ⟨rfl,rfl⟩
     by_cases h9:op0=9
     ·subst h9
      have hob:((9:Int) == 9)=true:=rfl
      rw [hob]
      clear hob
      go_wp2_with fail
      refine HN2'.out.mono ?_
      rintro e w3 ⟨rfl,rfl⟩
      by_cases h9':pv=9
      ·subst h9'
       have HE:Hid (q0p ps=(j+1,2)):=HT2.out (by simp)
       have hob:((9:Int) == 9)=true:=rfl
       rw [hob]
       clear HT2 HN2 hob
       go_wp2
       go_ret2
       exact ⟨by rw [HE.out];rfl,HB2.out⟩
      ·have HN:Hid (q0p ps=q5c (q6g ps (j+1+1)) (j+1+1) (ps.drop (j+1+1))):=HN2.out (fun h=>h9' h.2)
       have hpb:(pv == 9)=false:=by simp [h9']
       rw [hpb]
       clear HT2 HN2 h9' hpb
       go_wp2
       go_roundw
       case rel=>exact ⟨HB2.out,j+1+1,by omega,by go_num,HN.out,HA4.out⟩
       case measure=>simp [intOf];omega
     ·have HN:Hid (q0p ps=q5c (q6g ps (j+1+1)) (j+1+1) (ps.drop (j+1+1))):=HN2.out (fun h=>h9 h.1)
      have hob:(op0 == 9)=false:=by simp [h9]
      rw [hob]
      clear HT2 HN2 h9 hob
      go_wp2
      go_roundw
      case rel=>exact ⟨HB2.out,j+1+1,by omega,by go_num,HN.out,HA4.out⟩
      case measure=>simp [intOf];omega
   ·have HE:Hid (q0p ps=(k,E)):=HBAD.out he
    have HER:Hid (q1f E = .iface 24 (.int .i64 E)):=q0h he
    clear HOP HBAD HA3 HTWO HNXT he
    go_wp2_with fail
    refine HTF.out.mono ?_
    rintro e w2 ⟨rfl,b2⟩
    rw [HER.out]
    have HB2:Hid (Below w.heap.size w w2):=q0j HBR.out (Nat.le_refl _) b2
    clear b2 c1
    go_wp2
    go_ret2
    exact ⟨by rw [HE.out,HER.out];rfl,HB2.out⟩
  ·have HE:Hid (q0p ps=(0,0)):=by
    show q0p ps=_
    rw [HG.out,List.drop_eq_nil_of_le (by omega)];rfl
   have hki:¬ (k:Int)<(ps.length:Int):=by omega
   go_wp2
   go_ret2
   exact ⟨by rw [HE.out];rfl,HBR.out⟩
theorem k8k (a b:Wd):(z0e a b).length≤a.length+b.length+1:=by
 unfold z0e
 split
 ·simp only [List.length_append,List.length_cons,List.length_nil];omega
 ·simp only [List.length_append];omega
theorem k3w:∀ (ws:List Wd) (t:Wd),(ws.foldl z0e t).length≤t.length+szW ws
 | [],t=>by simp [szW]
 | x::r,t=>by
  have h1:=k3w r (z0e t x)
  have h2:=k8k t x
  rw [List.foldl_cons,q1n];omega
theorem v3y:∀ s:Wd,szW (q4v s)=s.length+1
 | []=>rfl
 | c::r=>by
  have ih:=v3y r
  by_cases hc:c=32
  ·subst hc
   rw [q5e,q1n,ih];simp;omega
  ·cases hs:q4v r with
   | nil=>exact absurd hs (q6s r)
   | cons x y=>
    rw [q5f hc hs,q1n]
    rw [hs,q1n] at ih
    simp only [List.length_cons];omega
theorem j3c {x:Wd} (h:x≠[]):(q4m x).length≤x.length:=by
 unfold q4m ntx
 have h1:=k3w (q0g (x.drop 1)) []
 have h2:szW (q0g (x.drop 1))≤(x.drop 1).length+1:=by
  unfold q0g
  split
  ·exact Nat.zero_le _
  ·rw [v3y];exact Nat.le_refl _
 rw [List.length_drop] at h2
 have h3:0<x.length:=List.length_pos_iff.2 h
 simp only [List.length_nil] at h1
 omega
theorem j4x {u ts:List Wd} (h:u <:+ ts):szW u≤szW ts:=by
 obtain ⟨t,rfl⟩:=h
 rw [k2q];omega
theorem j5u (x:Wd):(wbS x).size=x.length:=by rw [←q0b];rfl
theorem v7l {x:Wd} (h:nmW x=true):(wbS x).size≤8:=by
 simp only [nmW,q0x,Bool.and_eq_true,decide_eq_true_eq] at h
 exact h.1.1.2
theorem j1u {acc:List (List Td)} {N:Nat} (h:∀ t∈acc,∀ x∈t,x.tx.size≤N):(q4k acc).length≤N:=by
 unfold q4k
 split
 ·rename_i x r hx
  have hm:(x::r)∈acc:=List.mem_of_getLast? hx
  have:=h _ hm x (by simp)
  rw [q0b];exact this
 ·exact Nat.zero_le _
theorem y5q {pv:Bool} {acc:List (List Td)} {ts:List Wd} {r:Rp} (h:PG pv acc ts r):∀ N,8≤N→(∀ t∈acc,∀ x∈t,x.tx.size≤N)→∀ qs,r = .ok qs→∀ t∈qs,∀ x∈t,x.tx.size≤N+szW ts:=by
 induction h with
 | done=>
  intro N _ hN qs e t ht x hx
  cases e
  have:=hN t ht x hx
  omega
 | @note pv acc wd ts r h0 _ ih=>
  intro N h8 hN qs e t ht x hx
  have hne:wd≠[]:=fun e=>by rw [e] at h0;simp at h0
  have hl:=j3c hne
  have:=ih (N+(wd.length+1)) (by omega) (fun t ht x hx=>by
   unfold k3d at ht
   split at ht
   ·rcases List.mem_append.1 ht with ht | ht
    ·have:=hN t ((List.dropLast_sublist acc).subset ht) x hx
     omega
    ·rw [List.mem_singleton] at ht
     subst ht
     rw [List.mem_singleton] at hx
     subst hx
     show (wbS _).size≤_
     rw [j5u]
     have h1:=k8k (q4k acc) (q4m wd)
     have h2:=j1u hN
     omega
   ·rcases List.mem_append.1 ht with ht | ht
    ·have:=hN t ht x hx
     omega
    ·rw [List.mem_singleton] at ht
     subst ht
     rw [List.mem_singleton] at hx
     subst hx
     show (wbS _).size≤_
     rw [j5u]
     omega) qs e t ht x hx
  rw [q1n];omega
 | letN=>intro N _ _ qs e;cases e
 | letE=>intro N _ _ qs e;cases e
 | letB=>intro N _ _ qs e;cases e
 | letX=>intro N _ _ qs e;cases e
 | @letO pv acc nm ts m ns u r hn hpr _ ih=>
  intro N h8 hN qs e t ht x hx
  have hs:=j4x (q9r hpr).1
  simp only [Rs.rest] at hs
  rw [q1n] at hs
  have:=ih N h8 (fun t ht x hx=>by
   rcases List.mem_append.1 ht with ht | ht
   ·exact hN t ht x hx
   ·rw [List.mem_singleton] at ht
    subst ht
    rcases List.mem_cons.1 hx with rfl | hx
    ·exact Nat.le_trans (v7l hn) h8
    ·exact Nat.le_trans (y2r hpr (fun x hx=>by cases hx) _ _ _ rfl x hx) h8) qs e t ht x hx
  rw [q1n,q1n,q1n];omega
 | doB=>intro N _ _ qs e;cases e
 | doX=>intro N _ _ qs e;cases e
 | @doO pv acc wd ts m ns u r h0 hl hpr _ ih=>
  intro N h8 hN qs e t ht x hx
  have hs:=j4x (q9r hpr).1
  simp only [Rs.rest] at hs
  rw [q1n] at hs
  have:=ih N h8 (fun t ht x hx=>by
   rcases List.mem_append.1 ht with ht | ht
   ·exact hN t ht x hx
   ·rw [List.mem_singleton] at ht
    subst ht
    rcases List.mem_cons.1 hx with rfl | hx
    ·exact Nat.zero_le _
    ·exact Nat.le_trans (y2r hpr (fun x hx=>by cases hx) _ _ _ rfl x hx) h8) qs e t ht x hx
  omega
theorem v8x (ws:List Wd):szW ws=(ws.map List.length).sum+ws.length:=by
 induction ws with
 | nil=>rfl
 | cons x r ih=>rw [q1n,ih,List.map_cons,List.sum_cons,List.length_cons];omega
theorem z1p (s:ByteArray) (w:World) (ht:q7d w):Calls Tryz.prog 30 #[.string s] w fun e w'=>z2m s w e w':=by
 have HW:Hid (Calls Tryz.prog 48 #[.string s] w fun e w'=>z5t s w e w'∧Below w.heap.size w w'):=j6h s w
 by_cases h0:q6d (btL s)=0
 ·have hz:=z3h h0
  have hfew:=v6q h0
  have htot:=j5y (btL s)
  have HTK:Hid (∀ x∈q2x (btL s),q3p x):=v9k (btL s)
  have HT:Hid (q7d w):=ht
  have hssz:s.size≤60000:=by rw [←q0b];exact hz.1
  have HRD:Hid (∀ A P ac pc w1,q1x w.heap.size (.slice A (q2x (btL s)).length ac) ((q2x (btL s)).map wbS) w1→z2l w.heap.size (.slice P (q2x (btL s)).length pc) (z7v (btL s)) w1→Below w.heap.size w w1→Calls Tryz.prog 49 #[.slice A (q2x (btL s)).length ac,.slice P (q2x (btL s)).length pc,.int .i64 (s.size:Int)] w1 fun e w'=>z7y (q2x (btL s)) (plE (z7v (btL s)) s.size) w.heap.size w1 e w'):=fun A P ac pc w1 h1 h2 hb=>j6u HTK.out (by omega) hfew (j6i _).symm hb.size h1 h2 (fun w' hb'=>HT.out.below (hb.trans hb'))
  have HWR:Hid (Calls Tryz.prog 48 #[.string s] w fun e w'=>∃ A P ac pc,e = .returned (.tuple #[.slice A (q2x (btL s)).length ac,.slice P (q2x (btL s)).length pc,.int .i64 0,.nilIface])∧(q1x w.heap.size (.slice A (q2x (btL s)).length ac) ((q2x (btL s)).map wbS) w'∧z2l w.heap.size (.slice P (q2x (btL s)).length pc) (z7v (btL s)) w'∧Below w.heap.size w w')):=by
   refine HW.out.mono ?_
   rintro e w' ⟨hr,hb⟩
   rcases hr with ⟨hn,_⟩ | ⟨_,A,P,ac,pc,rfl,h1,h2⟩
   ·exact absurd h0 hn
   ·exact ⟨A,P,ac,pc,rfl,h1,h2,hb⟩
  have HTX:Hid (∀ qs,PG false [] (q2x (btL s)) (.ok qs)→∀ t∈qs,z4c t):=fun qs hpg t ht x hx=>by
   have h1:=y5q hpg 8 (Nat.le_refl _) (fun t ht=>by cases ht) qs rfl t ht x hx
   rw [v8x] at h1
   omega
  have HOB:Hid (∀ u w1 w',Below w.heap.size w w1→PG false [] (q2x (btL s)) (.bad u)→Below w.heap.size w1 w'→z2m s w (.returned (.tuple #[.slice none 0 0,.int .i64 (plE (z7v (btL s)) s.size ((q2x (btL s)).length - u.length):Int),.iface 24 (.int .i64 5)])) w'):=fun u w1 w' hb1 hpg hb=>⟨[],_,5,none,0,rfl,q6i.bad h0 hpg,Prg.nil _ _,Nat.le_refl _,hb1.trans hb⟩
  have HOK:Hid (∀ qs A c w',PG false [] (q2x (btL s)) (.ok qs)→(q0p qs).2=0→Prg w' A qs→qs.length≤c→Below w.heap.size w w'→z2m s w (.returned (.tuple #[.slice A qs.length c,.int .i64 0,.nilIface])) w'):=fun qs A c w' hpg hf hP hc hb=>⟨qs,0,0,A,c,rfl,q6i.ok h0 hpg hf,hP,hc,hb⟩
  have HOF:Hid (∀ qs w',PG false [] (q2x (btL s)) (.ok qs)→(q0p qs).2≠0→Below w.heap.size w w'→z2m s w (.returned (.tuple #[.slice none 0 0,.int .i64 0,.iface 24 (.int .i64 (q0p qs).2)])) w'):=fun qs w' hpg hf hb=>⟨[],0,(q0p qs).2,none,0,by rw [q0h hf];rfl,q6i.full h0 hpg hf,Prg.nil _ _,Nat.le_refl _,hb⟩
  clear HW hz htot hfew ht h0 HTK HT
  generalize (q2x (btL s)).length=nl at HRD HWR
  go_enter Tryz.func30,Tryz.ntmps30
  go_wp2_with fail
  refine HWR.out.mono ?_
  rintro e w1 ⟨A,P,ac,pc,rfl,hX⟩
  have HX:=(show Hid (_) from hX)
  have HRC:Hid (Calls Tryz.prog 49 #[.slice A nl ac,.slice P nl pc,.int .i64 (s.size:Int)] w1 fun e w'=>z7y (q2x (btL s)) (plE (z7v (btL s)) s.size) w.heap.size w1 e w'):=HRD.out A P ac pc w1 hX.1 hX.2.1 hX.2.2
  clear hX HWR HRD
  go_wp2_with fail
  refine HRC.out.mono ?_
  intro e w2 hG
  cases hG with
  | @bad u _ pg hb=>
   have HF:=(show Hid (_) from HOB.out u w1 w2 HX.out.2.2 pg hb)
   clear pg hb HRC
   generalize plE (z7v (btL s)) s.size ((q2x (btL s)).length - u.length)=pp at HF ⊢
   go_wp2
   refine bodyPost_ret (v:=.tuple #[.slice none 0 0,.int .i64 (pp:Int),.iface 24 (.int .i64 5)]) (by simp [results,Tryz.results30,go_sem]) rfl ?_
   exact HF.out
  | @ok qs A2 c2 _ pg hp hc hb=>
   have hb2:Below w.heap.size w w2:=HX.out.2.2.trans hb
   have HA:Hid (Calls Tryz.prog 50 #[.slice A2 qs.length c2] w2 fun e w'=>e = .returned (.tuple #[.int .i64 ((q0p qs).1:Int),q1f (q0p qs).2])∧Below w2.heap.size w2 w'):=k0c qs A2 c2 w2 hc hp (HTX.out qs pg)
   by_cases hf:(q0p qs).2=0
   ·have HF:Hid (∀ w3,Below w2.heap.size w2 w3→z2m s w (.returned (.tuple #[.slice A2 qs.length c2,.int .i64 0,.nilIface])) w3):=fun w3 hb3=>HOK.out qs A2 c2 w3 pg hf (hp.below hb3) hc (q0j hb2 (Nat.le_refl _) hb3)
    rw [hf] at HA
    generalize (q0p qs).1=K at HA
    clear pg hp hc hb hb2 hf HRC
    generalize qs.length=ql at HA HF ⊢
    go_wp2_with fail
    refine HA.out.mono ?_
    rintro e w3 ⟨rfl,b3⟩
    have HF3:=(show Hid (_) from HF.out w3 b3)
    clear b3
    rw [q0q]
    go_wp2
    refine bodyPost_ret (v:=.tuple #[.slice A2 ql c2,.int .i64 0,.nilIface]) (by simp [results,Tryz.results30,go_sem]) rfl ?_
    exact HF3.out
   ·have HF:Hid (∀ w3,Below w2.heap.size w2 w3→z2m s w (.returned (.tuple #[.slice none 0 0,.int .i64 0,.iface 24 (.int .i64 (q0p qs).2)])) w3):=fun w3 hb3=>HOF.out qs w3 pg hf (q0j hb2 (Nat.le_refl _) hb3)
    have HE:Hid (q1f (q0p qs).2 = .iface 24 (.int .i64 (q0p qs).2)):=q0h hf
    generalize (q0p qs).2=E at HA HE HF
    generalize (q0p qs).1=K at HA
    clear pg hp hc hb hb2 hf HRC
    generalize qs.length=ql at HA ⊢
    go_wp2_with fail
    refine HA.out.mono ?_
    rintro e w3 ⟨rfl,b3⟩
    have HF3:=(show Hid (_) from HF.out w3 b3)
    clear b3
    rw [HE.out]
    go_wp2
    refine bodyPost_ret (v:=.tuple #[.slice none 0 0,.int .i64 0,.iface 24 (.int .i64 E)]) (by simp [results,Tryz.results30,go_sem]) rfl ?_
    exact HF3.out
 ·have HWR:Hid (Calls Tryz.prog 48 #[.string s] w fun e w'=>e = .returned (.tuple #[.slice none 0 0,.slice none 0 0,.int .i64 ((z9b (btL s):Nat):Int),q1f (q6d (btL s))])∧Below w.heap.size w w'):=by
   refine HW.out.mono ?_
   rintro e w' ⟨hr,hb⟩
   rcases hr with ⟨_,rfl⟩ | ⟨hn,_⟩
   ·exact ⟨rfl,hb⟩
   ·exact absurd hn h0
  have HE:Hid (q1f (q6d (btL s)) = .iface 24 (.int .i64 (q6d (btL s)))):=q0h h0
  have HF:Hid (∀ w',Below w.heap.size w w'→z2m s w (.returned (.tuple #[.slice none 0 0,.int .i64 ((z9b (btL s):Nat):Int),.iface 24 (.int .i64 (q6d (btL s)))])) w'):=fun w' hb=>⟨[],_,_,none,0,by rw [HE.out];rfl,q6i.lex h0,Prg.nil _ _,Nat.le_refl _,hb⟩
  generalize q6d (btL s)=E at HWR HE HF
  generalize ((z9b (btL s):Nat):Int)=LK at HWR HF
  clear HW h0 ht
  go_enter Tryz.func30,Tryz.ntmps30
  go_wp2_with fail
  refine HWR.out.mono ?_
  rintro e w1 ⟨rfl,b1⟩
  have HF1:=(show Hid (_) from HF.out w1 b1)
  clear b1
  rw [HE.out]
  go_wp2
  refine bodyPost_ret (v:=.tuple #[.slice none 0 0,.int .i64 LK,.iface 24 (.int .i64 E)]) (by simp [results,Tryz.results30,go_sem]) rfl ?_
  exact HF1.out
theorem v1m {x:Td} (h:q0n x=0):x.tx.size≤1300:=by
 unfold q0n at h
 split at h
 ·cases h
 ·split at h
  ·cases h
  ·split at h
   ·cases h
   ·rename_i h3
    split at h
    ·exact z7b h
    ·rename_i h4
     split at h
     ·cases h
     ·rename_i h5
      cases ht:q2b x.op with
      | false=>
       have:¬ 0<x.tx.size:=fun h6=>h3 (.inr ⟨ht,h6⟩)
       omega
      | true=>
       cases hn:q0x x.tx with
       | false=>exact absurd ⟨ht,hn⟩ h5
       | true=>
        have:=q1u hn
        rw [q0b] at this
        omega
theorem j4a {ps:List (List Td)} (h:(q0p ps).2=0):∀ t∈ps,∀ x∈t,x.tx.size≤1300:=by
 intro t ht x hx
 have h1:=z7d ps 0 (q8k h).2 t ht
 exact v1m ((q2l h1).2.1 x hx)
theorem k8w {t:List Td} (h:q8r t=0) (n:Nat) (hn:n≤100) (A:Option Addr) (c:Nat) (w:World) (hc:(q7k t).length≤c) (hN:q2y w A (q7k t)) :
  Calls Tryz.prog 88 #[.slice A (q7k t).length c,.int .i64 (n:Int)] w fun e w'=>(∃ s wa wl wc,∃ q1 q2:Int,e = .returned (.tuple #[.string (wbS s),.slice wa wl wc,.agg #[.int .i64 q1,.int .i64 q2],.nilIface])∧dcL n t=s++[10]∧s.length≤20000)∧Below w.heap.size w w':=by
 obtain ⟨h0,h9,hd,hl⟩:=j1x h
 obtain ⟨e1,e2⟩:=k8o (wd:=n) (z8l h0 h9).w hd (by rw [hd];exact hl) hn
 have hb:(q0s t).best n=some (bs n 0 [(0,q0s t)]):=by rw [q8v,q2r]
 obtain ⟨_,b2,_⟩:=q7e hb
 have e3:bT (q7k t) (n:Int)=wbS ((q0s t).txt (bs n 0 [(0,q0s t)]).2):=by
  rw [bT,if_pos e1,e2,j9a h,b2]
  rfl
 refine (k8q (q7k t) (n:Int) A c hc w hN).mono ?_
 rintro e w' ⟨⟨wa,wc,rfl,_⟩,hbl⟩
 refine ⟨⟨_,wa,_,wc,_,_,by rw [e3,e1,q0q],rfl,?_⟩,hbl⟩
 exact v0v h0 h9 b2
theorem j0q {tx:ByteArray} (h:q2u tx=0) (n:Nat) (h1:10≤n) (h2:n≤100) (A:Option Addr) (c:Nat) (w:World) (hc:(q0g (btL tx)).length≤c) (hW:Wds w A ((q0g (btL tx)).map wbS)) :
  Calls Tryz.prog 85 #[.slice A (q0g (btL tx)).length c,.int .i64 ((n:Int) - 2)] w fun e w'=>(∃ L c,e = .returned (.tuple #[.slice L (q2m (n - 2) ((q0g (btL tx)).map wbS)).length c,.nilIface])∧q1x w.heap.size (.slice L (q2m (n - 2) ((q0g (btL tx)).map wbS)).length c) (q2m (n - 2) ((q0g (btL tx)).map wbS)) w')∧Below w.heap.size w w':=by
 have e:((n:Int) - 2)=((n - 2:Nat):Int):=by omega
 have e0:q5k ((q0g (btL tx)).map wbS) ((n - 2:Nat):Int)=0:=by
  have hf:q1e ((q0g (btL tx)).map wbS)=0:=h
  rw [q5k,if_neg (by simp [hf]),if_neg (by omega)]
 have h3:=v1x ((q0g (btL tx)).map wbS) A c (n - 2) w (by rw [List.length_map];exact hc) hW e0
 rw [List.length_map] at h3
 rw [e]
 exact h3
theorem j3h:∀ (ls:List ByteArray),ls≠[]→[35,32]++Lib.join (ls.map fun x=>x.data.toList) [10,35,32]++[10]=ls.flatMap ntF
 | [],h=>absurd rfl h
 | [l],_=>by simp [Lib.join_one,ntF,btL]
 | l::u::r,_=>by
  have ih:=j3h (u::r) (by simp)
  rw [List.flatMap_cons,←ih]
  simp [Lib.join_cons,Lib.joinTail,ntF,btL]
theorem k4m {tx:ByteArray} (n:Nat) (h0:q0g (btL tx)≠[]):ntL n tx=[35,32]++Lib.join ((q2m (n - 2) ((q0g (btL tx)).map wbS)).map fun x=>x.data.toList) [10,35,32]++[10]:=by
 have hne:q2m (n - 2) ((q0g (btL tx)).map wbS)≠[]:=by
  rw [q4z _ (by simpa using h0)]
  simp
 rw [j3h _ hne,ntL,if_neg h0]
 rfl
end Go.Proofs.YtchdplceopegoaaGreatDoor
