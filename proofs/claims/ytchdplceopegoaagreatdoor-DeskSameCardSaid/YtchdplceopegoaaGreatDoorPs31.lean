/- Texts as one: SyR, AppT. -/
import Derived.Test.YtchdplceopegoaaGreatDoorPs30
namespace Go.Proofs.YtchdplceopegoaaGreatDoor
open Go Go.RowKit
set_option maxRecDepth 100000
set_option maxHeartbeats 2000000
structure LwK where
 gw:Nat
 cw:Nat
 ga:Nat
 ca:Nat
structure Ry (K:LwK) (ws:List Wd) (pl:Nat→Nat) (b q:Nat) (w:World):Prop where
 le:q≤ws.length
 c0:w.cell? ⟨b,0,none⟩=some (.slice (some ⟨K.gw,q,none⟩) (ws.length+1 - q) (K.cw - q))
 c1:w.cell? ⟨b,1,none⟩=some (.slice (some ⟨K.ga,q,none⟩) (ws.length+1 - q) (K.ca - q))
 row:k0q w b 2
 wd:∀ i,i≤ws.length→w.cell? ⟨K.gw,i,none⟩=some (.string (wbS (ws.getD i [])))
 pt:∀ i,i≤ws.length→w.cell? ⟨K.ga,i,none⟩=some (.int .i64 (pl i:Int))
 nw:K.gw≠b
 na:K.ga≠b
 lw:ws.length<K.cw
 la:ws.length<K.ca
 few:ws.length≤60000
section
variable {K:LwK} {ws:List Wd} {pl:Nat→Nat} {b q:Nat} {w w':World}
theorem Ry.gwlt (h:Ry K ws pl b q w):K.gw<w.heap.size:=World.block_lt_of_cell? _ _ (h.wd 0 (Nat.zero_le _))
theorem Ry.galt (h:Ry K ws pl b q w):K.ga<w.heap.size:=World.block_lt_of_cell? _ _ (h.pt 0 (Nat.zero_le _))
theorem Ry.keepB {B:Nat} (h:Ry K ws pl b q w) (hb:Below B w w') (h1:b<B) (h2:K.gw<B) (h3:K.ga<B):Ry K ws pl b q w':=
 ⟨h.le,(hb.cell (p:=⟨b,0,none⟩) h1).trans h.c0,(hb.cell (p:=⟨b,1,none⟩) h1).trans h.c1,h.row.kept (hb.block b h1),fun i hi=>(hb.cell (p:=⟨K.gw,i,none⟩) h2).trans (h.wd i hi),fun i hi=>(hb.cell (p:=⟨K.ga,i,none⟩) h3).trans (h.pt i hi),h.nw,h.na,h.lw,h.la,h.few⟩
theorem Ry.keep (h:Ry K ws pl b q w) (hb:Below w.heap.size w w'):Ry K ws pl b q w':=h.keepB hb h.row.lt h.gwlt h.galt
theorem Ry.step (h:Ry K ws pl b q w) (hq:q<ws.length) {w':World} (hw':w'=(w.setCell ⟨b,0,none⟩ (.slice (some ⟨K.gw,q+1,none⟩) (ws.length - q) (K.cw - q - 1))).setCell ⟨b,1,none⟩ (.slice (some ⟨K.ga,q+1,none⟩) (ws.length - q) (K.ca - q - 1))):Ry K ws pl b (q+1) w':=by
 subst hw'
 have e1:ws.length+1 - (q+1)=ws.length - q:=by omega
 refine ⟨hq,?_,?_,h.row.set.set,fun i hi=>?_,fun i hi=>?_,h.nw,h.na,h.lw,h.la,h.few⟩
 ·rw [e1,Nat.sub_add_eq]
  exact (cso (.inr (by omega))).trans (css h.c0)
 ·rw [e1,Nat.sub_add_eq]
  exact css ((cso (.inr (by omega))).trans h.c1)
 ·exact (cso (.inl h.nw.symm)).trans ((cso (.inl h.nw.symm)).trans (h.wd i hi))
 ·exact (cso (.inl h.na.symm)).trans ((cso (.inl h.na.symm)).trans (h.pt i hi))
end
theorem q3a {ws:List Wd} {q:Nat} (h:q<ws.length):ws.getD q []=ws[q]:=by simp [h]
theorem q5m {ws:List Wd} {q:Nat} (h:ws.length≤q):ws.getD q []=[]:=by simp [h]
theorem q5i {K:LwK} {ws:List Wd} {pl:Nat→Nat} {b q:Nat} {w:World} (h:Ry K ws pl b q w) :
  Calls Tryz.prog 79 #[.pointer (some ⟨b,0,none⟩)] w fun e w'=>e = .returned (.string (wbS (ws.getD q [])))∧w'=w:=by
 have c0:=h.c0
 have d0:=h.wd q h.le
 generalize wbS (ws.getD q [])=S at d0 ⊢
 have hn:0<ws.length+1 - q:=by have:=h.le;omega
 generalize ws.length+1 - q=n at c0 hn
 generalize K.cw - q=c at c0
 clear h
 go_enter Tryz.func79,Tryz.ntmps79
 go_wp2
 go_ret
 exact ⟨rfl,rfl⟩
theorem v1a (b o n c:Nat) (hn:1≤n) (hc:1<c) (W:World) :
  (Instr.slice 51 (.slice (some ⟨b,o,none⟩) n c) (some (.int .i64 1)) none none).run Tryz.prog W = .ok (.slice (some ⟨b,o+1,none⟩) (n - 1) (c - 1)) W:=by
 rw [run_slice_l W 51 _ n c Tryz.underlying51 .i64 1 (by omega) (by omega)]
 have hz:(sizeOf (Tryz.prog.elem 51)).run Tryz.prog W = .ok 1 W:=by kernel_rfl
 rw [hz]
 have ha:(⟨b,o,none⟩:Addr).add 1=⟨b,o+1,none⟩:=rfl
 have e2:¬ c=1:=by omega
 simp [Result.andThen,sliced,ha,e2]
theorem j8v (b o n c:Nat) (hn:1≤n) (hc:1<c) (W:World) :
  (Instr.slice 63 (.slice (some ⟨b,o,none⟩) n c) (some (.int .i64 1)) none none).run Tryz.prog W = .ok (.slice (some ⟨b,o+1,none⟩) (n - 1) (c - 1)) W:=by
 rw [run_slice_l W 63 _ n c Tryz.underlying63 .i64 1 (by omega) (by omega)]
 have hz:(sizeOf (Tryz.prog.elem 63)).run Tryz.prog W = .ok 1 W:=by kernel_rfl
 rw [hz]
 have ha:(⟨b,o,none⟩:Addr).add 1=⟨b,o+1,none⟩:=rfl
 have e2:¬ c=1:=by omega
 simp [Result.andThen,sliced,ha,e2]
theorem q7b {K:LwK} {ws:List Wd} {pl:Nat→Nat} {b q:Nat} {w:World} (h:Ry K ws pl b q w) (hq:q<ws.length) :
  Calls Tryz.prog 145 #[.pointer (some ⟨b,0,none⟩)] w fun e w'=>e = .returned (.string (wbS ws[q]))∧Ry K ws pl b (q+1) w'∧But w.heap.size b w w':=by
 have c0:=h.c0
 have c1:=h.c1
 have d0:=h.wd q h.le
 rw [q3a hq] at d0
 have f0:w.frozen? ⟨b,0,none⟩=false:=h.row.frozen
 have f1:w.frozen? ⟨b,1,none⟩=false:=h.row.frozen
 have H:=(show Hid (_) from h)
 have lw:=h.lw
 have la:=h.la
 generalize wbS ws[q]=S at d0 ⊢
 have HN1:Hid (ws.length+1 - q - 1=ws.length - q):=(show _=_ by omega)
 have hn:1≤ws.length+1 - q:=by omega
 have s0:=v1a K.gw q (ws.length+1 - q) (K.cw - q) hn (by omega)
 have s1:=j8v K.ga q (ws.length+1 - q) (K.ca - q) hn (by omega)
 rw [HN1.out] at s0 s1
 generalize ws.length+1 - q=n at c0 c1 s0 s1 hn
 have HX:Hid (∀ w',w'=(w.setCell ⟨b,0,none⟩ (.slice (some ⟨K.gw,q+1,none⟩) (ws.length - q) (K.cw - q - 1))).setCell ⟨b,1,none⟩ (.slice (some ⟨K.ga,q+1,none⟩) (ws.length - q) (K.ca - q - 1))→Ry K ws pl b (q+1) w'∧But w.heap.size b w w'):=fun w' hw=>⟨H.out.step hq hw,by
  subst hw
  exact ((But.refl _ _ _).setCell (p:=⟨b,0,none⟩) (.inl rfl) _).setCell (p:=⟨b,1,none⟩) (.inl rfl) _⟩
 generalize ws.length - q=m at s0 s1 HX
 generalize K.cw - q=cw at c0 s0 HX
 generalize K.ca - q=ca at c1 s1 HX
 clear h lw la hq
 go_enter Tryz.func145,Tryz.ntmps145
 go_wp2_with fail
 go_region
 go_wp2
 go_ret
 obtain ⟨h1,h2⟩:=HX.out _ rfl
 exact ⟨rfl,h1.keep (Below.drew (Below.refl _ _)),h2.drew⟩
abbrev q4a (k:Nat):PanicEntry:={ v:=.iface 156 (.agg #[.int .i64 (k:Int)]),recovered:=false }
theorem k0n {K:LwK} {ws:List Wd} {pl:Nat→Nat} {b q:Nat} {w:World} (h:Ry K ws pl b q w) :
  Calls Tryz.prog 147 #[.pointer (some ⟨b,0,none⟩)] w fun e w'=>e = .panicked [q4a (pl q)]∧w'=w:=by
 have c1:=h.c1
 have d0:=h.pt q h.le
 have hn:0<ws.length+1 - q:=by have:=h.le;omega
 generalize ws.length+1 - q=n at c1 hn
 generalize K.ca - q=c at c1
 clear h
 go_enter Tryz.func147,Tryz.ntmps147
 go_wp2
 exact ⟨rfl,rfl,rfl⟩
theorem z3z (s:Wd) (lo hi:Nat) (w:World) (h1:1≤lo) :
  Calls Tryz.prog 177 #[.string (wbS s),.int .u8 (lo:Int),.int .u8 (hi:Int)] w fun e w'=>e = .returned (.bool (decide (lo≤(s.headD 0).toNat) && decide ((s.headD 0).toNat≤hi)))∧w'=w:=by
 cases s with
 | nil=>
  have h2:(decide (lo≤(([]:Wd).headD 0).toNat) && decide ((([]:Wd).headD 0).toNat≤hi))=false:=by
   have:¬ lo≤(([]:Wd).headD 0).toNat:=by show ¬ lo≤0;omega
   simp only [decide_eq_false this,Bool.false_and]
  rw [h2]
  have e0:wbS []=⟨#[]⟩:=rfl
  rw [e0]
  clear h2
  go_enter Tryz.func177,Tryz.ntmps177
  go_wp2
  go_ret
  exact ⟨rfl,rfl⟩
 | cons c r=>
  have hsz:0<(wbS (c::r)).size:=by rw [←q0b];show 0<(c::r).length;simp
  have hat:∀ h:0<(wbS (c::r)).size,(wbS (c::r))[0]=c:=fun _=>rfl
  have hne:¬ (wbS (c::r)).toList=[]:=by rw [Lib.toList_data];show ¬ (c::r)=[];simp
  have hne2:((wbS (c::r)).toList == [])=false:=by rw [Lib.toList_data];rfl
  have hnl:(⟨#[]⟩:ByteArray).toList=[]:=by rw [Lib.toList_data]
  show Calls _ _ _ _ fun e w'=>e = .returned (.bool (decide (lo≤c.toNat) && decide (c.toNat≤hi)))∧w'=w
  have HR:Hid (∀ (a b:Bool),a=decide ((lo:Int)≤(c.toNat:Int))→b=decide ((c.toNat:Int)≤(hi:Int))→(decide (lo≤c.toNat) && decide (c.toNat≤hi))=(a && b)):=fun a b ha hb=>by
   subst ha hb
   have e1:decide ((lo:Int)≤(c.toNat:Int))=decide (lo≤c.toNat):=by congr 1;simp
   have e2:decide ((c.toNat:Int)≤(hi:Int))=decide (c.toNat≤hi):=by congr 1;simp
   rw [e1,e2]
  generalize (decide (lo≤c.toNat) && decide (c.toNat≤hi))=R at HR ⊢
  generalize wbS (c::r)=S at hsz hat hne hne2 ⊢
  have hat0:=hat hsz
  clear hat
  by_cases g1:(lo:Int)≤(c.toNat:Int)
  ·by_cases g2:(c.toNat:Int)≤(hi:Int)
   ·have hr:=HR.out true true (decide_eq_true g1).symm (decide_eq_true g2).symm
    simp only [Bool.and_self] at hr
    subst hr
    go_enter Tryz.func177,Tryz.ntmps177
    go_wp2
    go_ret
    exact ⟨rfl,rfl⟩
   ·have hr:=HR.out true false (decide_eq_true g1).symm (decide_eq_false g2).symm
    simp only [Bool.and_false] at hr
    subst hr
    go_enter Tryz.func177,Tryz.ntmps177
    go_wp2
    go_ret
    exact ⟨rfl,rfl⟩
  ·have hr:=HR.out false (decide ((c.toNat:Int)≤(hi:Int))) (decide_eq_false g1).symm rfl
   simp only [Bool.false_and] at hr
   subst hr
   go_enter Tryz.func177,Tryz.ntmps177
   go_wp2
   go_ret
   exact ⟨rfl,rfl⟩
theorem k7y (s:Wd) (w:World):Calls Tryz.prog 209 #[.string (wbS s)] w fun e w'=>e = .returned (.bool (k0s s))∧w'=w:=by
 have HB:Hid (∀ W,Calls Tryz.prog 177 #[.string (wbS s),.int .u8 48,.int .u8 57] W fun e w'=>e = .returned (.bool (k0s s))∧w'=W):=fun W=>z3z s 48 57 W (by omega)
 generalize k0s s=R at HB ⊢
 go_enter Tryz.func209,Tryz.ntmps209
 go_wp2_with fail
 refine (HB.out _).mono ?_
 rintro e w1 ⟨rfl,rfl⟩
 go_wp2
 go_ret
 exact ⟨rfl,rfl⟩
theorem y1v:nmW z0x=false:=by decide
theorem k3b (s:Wd) (hs:s=[]∨q3p s) (w:World):Calls Tryz.prog 146 #[.string (wbS s)] w fun e w'=>e = .returned (.bool (nmW s))∧w'=w:=by
 by_cases hl:s=z0x
 ·subst hl
  rw [y1v]
  have e0:wbS z0x=⟨#[108,101,116]⟩:=rfl
  rw [e0]
  clear hs
  go_enter Tryz.func146,Tryz.ntmps146
  go_wp2
  go_ret
  exact ⟨rfl,rfl⟩
 ·have hn:nmW s=q3g (s.headD 0):=by
   rcases hs with rfl | hs
   ·decide
   ·rw [v1k hs];simp [hl]
  rw [hn]
  have HB:Hid (∀ W,Calls Tryz.prog 177 #[.string (wbS s),.int .u8 97,.int .u8 122] W fun e w'=>e = .returned (.bool (q3g (s.headD 0)))∧w'=W):=fun W=>z3z s 97 122 W (by omega)
  have hne2:((wbS s).toList == [108,101,116])=false:=by
   rw [Lib.toList_data]
   show (s == [108,101,116])=false
   simpa using hl
  have hne:¬ (wbS s).toList=[108,101,116]:=by
   intro e;rw [e] at hne2;cases hne2
  have hlt:(⟨#[108,101,116]⟩:ByteArray).toList=[108,101,116]:=by rw [Lib.toList_data]
  generalize q3g (s.headD 0)=R at HB ⊢
  generalize wbS s=S at HB hne hne2 ⊢
  clear hs hn hl
  go_enter Tryz.func146,Tryz.ntmps146
  go_wp2_with fail
  refine (HB.out _).mono ?_
  rintro e w1 ⟨rfl,rfl⟩
  go_wp2
  go_ret
  exact ⟨rfl,rfl⟩
theorem z4b (s:Wd) (w:World):Calls Tryz.prog 104 #[.string (wbS s)] w fun e w'=>e = .returned (.bool (decide (s.headD 0=35)))∧w'=w:=by
 have HB:Hid (∀ W,Calls Tryz.prog 144 #[.string (wbS s),.string ⟨#[35]⟩] W fun e w'=>e = .returned (.bool (decide (s.headD 0=35)))∧w'=W):=fun W=>by
  have h:=hasPrefix_sh (wbS s) ⟨#[35]⟩ W
  have e1:Lib.hasPrefix (wbS s).data.toList (⟨#[35]⟩:ByteArray).data.toList=decide (s.headD 0=35):=by
   show Lib.hasPrefix s [35]=_
   cases s with
   | nil=>decide
   | cons c r=>
    show ([35]:Wd).isPrefixOf (c::r)=decide (c=35)
    simp only [List.isPrefixOf,Bool.and_true]
    rw [Bool.eq_iff_iff,beq_iff_eq,decide_eq_true_eq]
    exact ⟨Eq.symm,Eq.symm⟩
  rw [e1] at h
  exact h
 generalize decide (s.headD 0=35)=R at HB ⊢
 go_enter Tryz.func104,Tryz.ntmps104
 go_wp2_with fail
 refine (HB.out _).mono ?_
 rintro e w1 ⟨rfl,rfl⟩
 go_wp2
 go_ret
 exact ⟨rfl,rfl⟩
section
variable {K:LwK} {ws:List Wd} {pl:Nat→Nat} {b q:Nat} {w:World}
theorem y3g (a c:Wd):((wbS a).toList == (wbS c).toList)=(a == c):=by
 rw [Lib.toList_data,Lib.toList_data];rfl
theorem q6a (h:Ry K ws pl b q w) (s:Wd) (hs:ws[q]? = some s) :
  Calls Tryz.prog 106 #[.pointer (some ⟨b,0,none⟩),.string (wbS s)] w fun e w'=>e = .returned (.bool true)∧Ry K ws pl b (q+1) w'∧But w.heap.size b w w':=by
 obtain ⟨hq,he⟩:=List.getElem?_eq_some_iff.1 hs
 have HW:Hid (Calls Tryz.prog 79 #[.pointer (some ⟨b,0,none⟩)] w fun e w'=>e = .returned (.string (wbS s))∧w'=w):=by
  have h1:=q5i h
  rw [q3a hq,he] at h1
  exact h1
 have HN:Hid (Calls Tryz.prog 145 #[.pointer (some ⟨b,0,none⟩)] w fun e w'=>e = .returned (.string (wbS s))∧Ry K ws pl b (q+1) w'∧But w.heap.size b w w'):=by
  have h1:=q7b h hq
  rw [he] at h1
  exact h1
 have hb:((wbS s).toList == (wbS s).toList)=true:=by simp
 generalize wbS s=S at HW HN hb ⊢
 clear h hs hq he
 go_enter Tryz.func106,Tryz.ntmps106
 go_wp2_with fail
 refine HW.out.mono ?_
 rintro e w1 ⟨rfl,rfl⟩
 go_wp2_with fail
 refine HN.out.mono ?_
 rintro e w2 ⟨rfl,h2,b2⟩
 have K2:=(show Hid (_) from And.intro h2 b2)
 clear h2 b2
 go_wp2
 go_ret
 exact ⟨rfl,K2.out⟩
theorem q7a (h:Ry K ws pl b q w) (s:Wd) (h0:s≠[]) (hs:ws[q]?≠some s) :
  Calls Tryz.prog 106 #[.pointer (some ⟨b,0,none⟩),.string (wbS s)] w fun e w'=>e = .returned (.bool false)∧w'=w:=by
 have HW:Hid (Calls Tryz.prog 79 #[.pointer (some ⟨b,0,none⟩)] w fun e w'=>e = .returned (.string (wbS (ws.getD q [])))∧w'=w):=q5i h
 have hb:((wbS (ws.getD q [])).toList == (wbS s).toList)=false:=by
  rw [y3g]
  by_cases hq:q<ws.length
  ·rw [q3a hq]
   rw [List.getElem?_eq_getElem hq] at hs
   simpa using hs
  ·rw [q5m (by omega)]
   cases s with
   | nil=>exact absurd rfl h0
   | cons=>rfl
 have hb2:¬ (wbS (ws.getD q [])).toList=(wbS s).toList:=by
  intro e;rw [e] at hb;simp at hb
 generalize wbS (ws.getD q [])=X at HW hb hb2
 generalize wbS s=S at hb hb2 ⊢
 clear h hs h0
 go_enter Tryz.func106,Tryz.ntmps106
 go_wp2_with fail
 refine HW.out.mono ?_
 rintro e w1 ⟨rfl,rfl⟩
 go_wp2
 go_ret
 exact ⟨rfl,rfl⟩
theorem q5h (h:Ry K ws pl b q w) (s:Wd) (hs:ws[q]? = some s) :
  Calls Tryz.prog 108 #[.pointer (some ⟨b,0,none⟩),.string (wbS s)] w fun e w'=>e = .returned (.tuple #[])∧Ry K ws pl b (q+1) w'∧But w.heap.size b w w':=by
 have HH:Hid (Calls Tryz.prog 106 #[.pointer (some ⟨b,0,none⟩),.string (wbS s)] w fun e w'=>e = .returned (.bool true)∧Ry K ws pl b (q+1) w'∧But w.heap.size b w w'):=q6a h s hs
 generalize wbS s=S at HH ⊢
 clear h hs
 go_enter Tryz.func108,Tryz.ntmps108
 go_wp2_with fail
 refine HH.out.mono ?_
 rintro e w2 ⟨rfl,h2,b2⟩
 have K2:=(show Hid (_) from And.intro h2 b2)
 clear h2 b2
 go_wp2
 go_end0
 exact ⟨rfl,K2.out⟩
theorem q6b (h:Ry K ws pl b q w) (s:Wd) (h0:s≠[]) (hs:ws[q]?≠some s) :
  Calls Tryz.prog 108 #[.pointer (some ⟨b,0,none⟩),.string (wbS s)] w fun e w'=>e = .panicked [q4a (pl q)]∧w'=w:=by
 have HH:Hid (Calls Tryz.prog 106 #[.pointer (some ⟨b,0,none⟩),.string (wbS s)] w fun e w'=>e = .returned (.bool false)∧w'=w):=q7a h s h0 hs
 have HF:Hid (Calls Tryz.prog 147 #[.pointer (some ⟨b,0,none⟩)] w fun e w'=>e = .panicked [q4a (pl q)]∧w'=w):=k0n h
 generalize wbS s=S at HH ⊢
 clear h hs h0
 go_enter Tryz.func108,Tryz.ntmps108
 go_wp2_with fail
 refine HH.out.mono ?_
 rintro e w2 ⟨rfl,rfl⟩
 go_wp2_with fail
 refine HF.out.mono ?_
 rintro e w2 ⟨rfl,rfl⟩
 go_wp2
 exact ⟨rfl,rfl,rfl⟩
end
end Go.Proofs.YtchdplceopegoaaGreatDoor
namespace Go.Proofs.YtchdplceopegoaaGreatDoor
open Go Go.RowKit
set_option maxRecDepth 100000
def q0t (ds:List Td):List Value:=ds.flatMap fun x=>[.int .i64 x.op,.string x.tx,.int .i64 x.n]
theorem q5v:∀ ds:List Td,(q0t ds).length=ds.length*3
 | []=>rfl
 | x::r=>by
  have:=q5v r
  unfold q0t at this ⊢
  rw [List.flatMap_cons,List.length_append,this,List.length_cons]
  simp
  omega
theorem z3p (a b:List Td):q0t (a++b)=q0t a++q0t b:=by simp [q0t,List.flatMap_append]
theorem z1d:∀ (ds:List Td) (i:Nat) (h:i<ds.length),(q0t ds)[i*3]? = some (.int .i64 ds[i].op)∧(q0t ds)[i*3+1]? = some (.string ds[i].tx)∧(q0t ds)[i*3+2]? = some (.int .i64 ds[i].n)
 | x::r,0,_=>by simp [q0t]
 | x::r,i+1,h=>by
  have h1:=z1d r i (by simpa using h)
  have e:q0t (x::r) = .int .i64 x.op::.string x.tx::.int .i64 x.n::q0t r:=by simp [q0t]
  rw [e,show (i+1)*3=i*3+1+1+1 by omega]
  exact h1
theorem z3q (ds:List Td):∀ u∈q0t ds,u.oneCell'=true:=by
 intro u hu
 obtain ⟨x,_,hx⟩:=List.mem_flatMap.1 hu
 simp at hx
 rcases hx with rfl | rfl | rfl<;>rfl
theorem k2r (ds:List Td) (j:Nat) (u:Value) (h:(q0t ds)[j]? = some u):∃ i,∃ hi:i<ds.length,(j=i*3∧u = .int .i64 ds[i].op)∨(j=i*3+1∧u = .string ds[i].tx)∨(j=i*3+2∧u = .int .i64 ds[i].n):=by
 have hj:j<ds.length*3:=by rw [←q5v];exact (List.getElem?_eq_some_iff.1 h).1
 have hi:j / 3<ds.length:=by omega
 obtain ⟨h0,h1,h2⟩:=z1d ds (j / 3) hi
 refine ⟨j / 3,hi,?_⟩
 have h3:j=j / 3*3∨j=j / 3*3+1∨j=j / 3*3+2:=by omega
 rcases h3 with e | e | e
 ·rw [←e,h] at h0;exact .inl ⟨e,Option.some.inj h0⟩
 ·rw [←e,h] at h1;exact .inr (.inl ⟨e,Option.some.inj h1⟩)
 ·rw [←e,h] at h2;exact .inr (.inr ⟨e,Option.some.inj h2⟩)
theorem j5d:(Tryz.prog.info? 71).map (fun i=>(i.zero,i.size,i.bytes))=some (some (.agg #[.int .i64 0,.string ⟨#[]⟩,.int .i64 0]),3,32):=by kernel_rfl
theorem k2l {B:Nat} {w:World} {a:Option Addr} {n cap:Nat} {ds:List Td} (h:w.ownsRow B 71 3 (.slice a n cap) ds.length (q0t ds)):n=ds.length∧ds.length≤cap∧Tds w a ds:=by
 rcases h.2 with ⟨hv,h0⟩ | ⟨g,c,cur,hv,_,hg,hnc,_,hsz,htake⟩
 ·simp only [Value.slice.injEq] at hv
  obtain ⟨rfl,rfl,rfl⟩:=hv
  refine ⟨h0.symm,by omega,fun i hi=>?_⟩
  omega
 ·simp only [Value.slice.injEq] at hv
  obtain ⟨rfl,rfl,rfl⟩:=hv
  refine ⟨rfl,hnc,fun i hi=>?_⟩
  have hlt:g<w.heap.size:=by
   rcases Nat.lt_or_ge g w.heap.size with h' | h'
   ·exact h'
   ·simp [Array.getElem?_eq_none h'] at hg
  have hcell:∀ k u,(q0t ds)[k]? = some u→w.cell? ⟨g,k,none⟩=some u:=by
   intro k u hk
   rw [←htake] at hk
   have hk2:k<ds.length*3:=by
    have:=(List.getElem?_eq_some_iff.1 hk).1
    simp at this
    omega
   rw [List.getElem?_take_of_lt hk2] at hk
   simp only [World.cell?,hg]
   simpa using hk
  obtain ⟨h0,h1,h2⟩:=z1d ds i hi
  refine ⟨g,0,rfl,hlt,?_,?_,?_⟩
  ·rw [Nat.zero_add];exact hcell _ _ h0
  ·rw [Nat.zero_add];exact hcell _ _ h1
  ·rw [Nat.zero_add];exact hcell _ _ h2
theorem k5k {w:World} {b o:Nat} {ds:List Td} (h:Tds w (some ⟨b,o,none⟩) ds):∀ j u,(q0t ds)[j]? = some u→w.cell? ((⟨b,o,none⟩:Addr).add j)=some u:=by
 intro j u hj
 obtain ⟨i,hi,hc⟩:=k2r ds j u hj
 obtain ⟨b',o',e,_,c1,c2,c3⟩:=h i hi
 simp only [Option.some.injEq,Addr.mk.injEq,and_true] at e
 obtain ⟨rfl,rfl⟩:=e
 have ha:∀ k,(⟨b,o,none⟩:Addr).add k=⟨b,o+k,none⟩:=by
  intro k
  unfold Addr.add
  split
  ·rename_i h;subst h;rfl
  ·rfl
 rw [ha]
 rcases hc with ⟨rfl,rfl⟩ | ⟨rfl,rfl⟩ | ⟨rfl,rfl⟩
 ·exact c1
 ·rw [show o+(i*3+1)=o+i*3+1 by omega];exact c2
 ·rw [show o+(i*3+2)=o+i*3+2 by omega];exact c3
def q1o (B:Nat) (v:Value) (xs:List Td) (w:World):Prop:=w.ownsRow B 71 3 v xs.length (q0t xs)
theorem q1o.tds {B:Nat} {w:World} {A:Option Addr} {n c:Nat} {xs:List Td} (h:q1o B (.slice A n c) xs w):Tds w A xs:=(k2l h).2.2
theorem q1o.none {B:Nat} {w:World} {A:Option Addr} {n c:Nat} {xs:List Td} (h:q1o B (.slice A n c) xs w):n=xs.length∧(A=none→n=0∧c=0):=by
 rcases h.2 with ⟨hv,h0⟩ | ⟨g,c',cur,hv,_⟩
 ·simp only [Value.slice.injEq] at hv
  obtain ⟨rfl,rfl,rfl⟩:=hv
  exact ⟨h0.symm,fun _=>⟨rfl,rfl⟩⟩
 ·simp only [Value.slice.injEq] at hv
  obtain ⟨rfl,rfl,rfl⟩:=hv
  exact ⟨rfl,fun e=>by cases e⟩
theorem k0w {w:World} {ops:Array Oper} {rest:List Oper} {o:Oper} {a:Act} {Q:Exit→Act→World→Prop} (hgd:o.guard=none) (s x:Operand)
  (ho:o.op = .call { callee:=.builtin .append,args:=#[s,x],argTypes:=#[59,59] })
  (base:Nat) (v:Value) (xs:List Td) (hs:a.eval s=v) (hown:q1o base v xs w)
  (wa:Option Addr) (n:Nat) (ws:List Td) (hn:ws.length=n) (wc:Nat) (hx:a.eval x = .slice wa n wc) (hW:Tds w wa ws) (hnil:wa=none→n=0∧wc=0)
  (m:Nat) (hm:xs.length+n=m) (hb:m≤1000000) (hbase:base≤w.heap.size)
  (h:∀ A c w',q1o base (.slice A m c) (xs++ws) w'→w.grownBy w' v.ownBlock→wpList Tryz.prog ops Q rest (a.put o.dst (.slice A m c)) w'):wpList Tryz.prog ops Q (o::rest) a w:=by
 subst hn hm
 obtain ⟨i0,hi,hz0,hz1,hz2⟩:=info_parts j5d
 have h':∀ v' w',q1o base v' (xs++ws) w'→w.grownBy w' v.ownBlock→wpList Tryz.prog ops Q rest (a.put o.dst v') w':=by
  intro v' w' h1 h2
  obtain ⟨A,c,rfl⟩:∃ A c,v' = .slice A (xs.length+ws.length) c:=by
   rcases h1.2 with ⟨hv,h0⟩ | ⟨g,c,cur,hv,_⟩
   ·rw [List.length_append] at h0;exact ⟨.none,0,by rw [hv,h0]⟩
   ·rw [List.length_append] at hv;exact ⟨_,c,hv⟩
  exact h A c w' h1 h2
 cases wa with
 | none=>
  obtain ⟨h0,rfl⟩:=hnil rfl
  obtain rfl:ws=[]:=List.eq_nil_of_length_eq_zero h0
  refine wpList_append_own_none hgd s x 59 ho base 71 i0 3 Tryz.underlying59 hi v xs.length (q0t xs) hs hown hx ?_
  refine h' v w ?_ ⟨rfl,rfl,rfl,Nat.le_refl _,fun _ _ _=>rfl⟩
  rw [List.append_nil]
  exact hown
 | some ad=>
  have hsp:ws=[]∨∃ b o,ad=⟨b,o,Option.none⟩:=by
   rcases Nat.eq_zero_or_pos ws.length with h0 | h0
   ·exact .inl (List.eq_nil_of_length_eq_zero h0)
   ·obtain ⟨b,o,e,_⟩:=hW 0 h0
    exact .inr ⟨b,o,by simpa using e⟩
  refine wpList_append_own w hgd s x 59 ho base 71 i0 _ 3 32 Tryz.underlying59 hi hz0 hz1 hz2 rfl (by decide) v xs.length (q0t xs) hs hown ad ws.length wc (q0t ws) hx (q5v ws) ?_ (z3q ws) (by unfold maxLen;omega) (by omega) hbase ?_
  ·rcases hsp with rfl | ⟨b,o,rfl⟩
   ·intro j u hj;simp [q0t] at hj
   ·exact k5k hW
  ·intro v' w' h1 h2 _
   rw [←z3p] at h1
   refine h' v' w' ?_ h2
   show w'.ownsRow _ _ _ _ _ _
   rw [List.length_append]
   exact h1
theorem q1o.down {B B':Nat} {v:Value} {xs:List Td} {w:World} (h:q1o B v xs w) (hB:B'≤B):q1o B' v xs w:=by
 refine ⟨h.1,?_⟩
 rcases h.2 with h0 | ⟨g,c,cur,hv,hg,rest⟩
 ·exact .inl h0
 ·exact .inr ⟨g,c,cur,hv,by omega,rest⟩
theorem q1o.kept {B:Nat} {v:Value} {xs:List Td} {w w':World} (h:q1o B v xs w) (hk:∀ g,B≤g→g<w.heap.size→w'.heap[g]? = w.heap[g]?):q1o B v xs w':=by
 refine ⟨h.1,?_⟩
 rcases h.2 with h0 | ⟨g,c,cur,hv,hB,hg,rest⟩
 ·exact .inl h0
 ·exact .inr ⟨g,c,cur,hv,hB,(hk g hB (Array.getElem?_eq_some_iff.1 hg).1).trans hg,rest⟩
theorem q1o.one (w:World) (x:Td):q1o w.heap.size (.slice (some ⟨w.heap.size,0,Option.none⟩) 1 1) [x] (w.alloc (.cells #[.int .i64 x.op,.string x.tx,.int .i64 x.n] 71)):=by
 have h1:(w.alloc (.cells #[.int .i64 x.op,.string x.tx,.int .i64 x.n] 71)).heap[w.heap.size]? = some (.cells #[.int .i64 x.op,.string x.tx,.int .i64 x.n] 71 (0,0)):=by
  show (w.heap.push _)[w.heap.size]? = _
  simp
 exact ⟨rfl,.inr ⟨w.heap.size,1,_,rfl,Nat.le_refl _,h1,Nat.le_refl _,by unfold maxLen;decide,rfl,rfl⟩⟩
end Go.Proofs.YtchdplceopegoaaGreatDoor
