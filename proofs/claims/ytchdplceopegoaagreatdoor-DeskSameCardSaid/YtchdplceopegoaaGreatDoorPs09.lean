/- Texts as one: FilD, FilE, FilF, TreH, SyO. -/
import Derived.Test.YtchdplceopegoaaGreatDoorPs08
import Derived.BigQuiet
import Derived.Deep.QuietTactic
import Derived.Test.YtchdplceopegoaaGreatDoorShf
namespace Go.Proofs.YtchdplceopegoaaGreatDoor
open Go Go.RowKit
structure Lst (wd:Nat) (ws:List ByteArray) (bL bF k:Nat) (w:World):Prop where
 ne:bL≠bF
 rl:k0q w bL (ws.length+1)
 rf:k0q w bF ws.length
 cl:∀ j,k≤j→j≤ws.length→w.cell? ⟨bL,j,none⟩=some (.int .i64 ((best wd (ws.drop j):Nat):Int))
 cf:∀ j,k≤j→j<ws.length→w.cell? ⟨bF,j,none⟩=some (.int .i64 ((agF wd (ws.drop j):Nat):Int))
theorem Lst.kept {wd:Nat} {ws:List ByteArray} {bL bF k:Nat} {w w':World} (h:Lst wd ws bL bF k w) (h1:w'.heap[bL]? = w.heap[bL]?) (h2:w'.heap[bF]? = w.heap[bF]?):Lst wd ws bL bF k w' where
 ne:=h.ne
 rl:=h.rl.kept h1
 rf:=h.rf.kept h2
 cl:=fun j a b=>(World.cell?_of_block (w:=w) (a:=⟨bL,j,none⟩) h1).trans (h.cl j a b)
 cf:=fun j a b=>(World.cell?_of_block (w:=w) (a:=⟨bF,j,none⟩) h2).trans (h.cf j a b)
theorem Lst.made (wd:Nat) (ws:List ByteArray) (w:World) :
  Lst wd ws w.heap.size (w.heap.size+1) ws.length ((w.alloc (.cells (madeCells #[.int .i64 0] (ws.length+1)) 3)).alloc (.cells (madeCells #[.int .i64 0] ws.length) 3)):=by
 have h1:((w.alloc (.cells (madeCells #[.int .i64 0] (ws.length+1)) 3)).alloc (.cells (madeCells #[.int .i64 0] ws.length) 3)).heap[w.heap.size]? = some (.cells (madeCells #[.int .i64 0] (ws.length+1)) 3 (0,0)):=
  (Below.heap_alloc _ _ _ (by simp)).trans (heap_alloc_new w _)
 have h2:((w.alloc (.cells (madeCells #[.int .i64 0] (ws.length+1)) 3)).alloc (.cells (madeCells #[.int .i64 0] ws.length) 3)).heap[w.heap.size+1]? = some (.cells (madeCells #[.int .i64 0] ws.length) 3 (0,0)):=by
  have:=heap_alloc_new (w.alloc (.cells (madeCells #[.int .i64 0] (ws.length+1)) 3)) (.cells (madeCells #[.int .i64 0] ws.length) 3)
  simpa using this
 refine ⟨by omega,⟨_,_,h1,size_madeCells _ _⟩,⟨_,_,h2,size_madeCells _ _⟩,fun j a b=>?_,fun j a b=>by omega⟩
 obtain rfl:j=ws.length:=by omega
 have:best wd (ws.drop ws.length)=0:=by rw [List.drop_length];rfl
 rw [this]
 simp only [World.cell?,h1]
 exact j2s _ (by omega)
structure Mid (wd:Nat) (ws:List ByteArray) (bL bF i m:Nat) (w:World):Prop where
 l:Lst wd ws bL bF (i+1) w
 c:1≤m→w.cell? ⟨bL,i,none⟩=some (.int .i64 ((z6v (fOf wd (ws.drop i)) m:Nat):Int))∧w.cell? ⟨bF,i,none⟩=some (.int .i64 ((v2f (fOf wd (ws.drop i)) m:Nat):Int))
theorem Mid.kept {wd:Nat} {ws:List ByteArray} {bL bF i m:Nat} {w w':World} (h:Mid wd ws bL bF i m w) (h1:w'.heap[bL]? = w.heap[bL]?) (h2:w'.heap[bF]? = w.heap[bF]?):Mid wd ws bL bF i m w' where
 l:=h.l.kept h1 h2
 c:=fun hm=>⟨(World.cell?_of_block (w:=w) (a:=⟨bL,i,none⟩) h1).trans (h.c hm).1,(World.cell?_of_block (w:=w) (a:=⟨bF,i,none⟩) h2).trans (h.c hm).2⟩
theorem Mid.start {wd:Nat} {ws:List ByteArray} {bL bF i:Nat} {w:World} (h:Lst wd ws bL bF (i+1) w):Mid wd ws bL bF i 0 w:=⟨h,fun hm=>by omega⟩
theorem Mid.skip {wd:Nat} {ws:List ByteArray} {bL bF i m:Nat} {w:World} (h:Mid wd ws bL bF i m w) (h1:¬ (m=0∨fOf wd (ws.drop i) (m+1)≤z6v (fOf wd (ws.drop i)) m)):Mid wd ws bL bF i (m+1) w:=by
 refine ⟨h.l,fun _=>?_⟩
 rw [z6v,v2f,if_neg h1,if_neg h1]
 exact h.c (by omega)
theorem Mid.put {wd:Nat} {ws:List ByteArray} {bL bF i m:Nat} {w:World} (h:Mid wd ws bL bF i m w) (hi:i<ws.length) (h1:m=0∨fOf wd (ws.drop i) (m+1)≤z6v (fOf wd (ws.drop i)) m) :
  Mid wd ws bL bF i (m+1) ((w.setCell ⟨bL,i,none⟩ (.int .i64 ((fOf wd (ws.drop i) (m+1):Nat):Int))).setCell ⟨bF,i,none⟩ (.int .i64 ((m:Int)+1))):=by
 have ne:=h.l.ne
 refine ⟨⟨ne,h.l.rl.set.set,h.l.rf.set.set,fun j a b=>?_,fun j a b=>?_⟩,fun _=>?_⟩
 ·exact (cso (.inl (Ne.symm ne))).trans ((cso (.inr (by omega))).trans (h.l.cl j a b))
 ·exact (cso (.inr (by omega))).trans ((cso (.inl ne)).trans (h.l.cf j a b))
 ·rw [z6v,v2f,if_pos h1,if_pos h1]
  obtain ⟨y1,e1⟩:=h.l.rl.cell (i:=i) (by omega)
  obtain ⟨y2,e2⟩:=h.l.rf.cell (i:=i) hi
  exact ⟨(cso (.inl (Ne.symm ne))).trans (css e1),css ((cso (.inl ne)).trans e2)⟩
theorem Mid.done {wd:Nat} {ws:List ByteArray} {bL bF i m:Nat} {w:World} (h:Mid wd ws bL bF i m w) (hi:i<ws.length) (hm:m=ws.length - i):Lst wd ws bL bF i w:=by
 have hne:ws.drop i≠[]:=fun e=>by
  have:=congrArg List.length e
  rw [List.length_drop,List.length_nil] at this
  omega
 obtain ⟨c1,c2⟩:=h.c (by omega)
 refine ⟨h.l.ne,h.l.rl,h.l.rf,fun j a b=>?_,fun j a b=>?_⟩
 ·by_cases e:j=i
  ·subst e
   rw [k8v wd hne,List.length_drop,←hm]
   exact c1
  ·exact h.l.cl j (by omega) b
 ·by_cases e:j=i
  ·subst e
   rw [agF,List.length_drop,←hm]
   exact c2
  ·exact h.l.cf j (by omega) b
theorem y0o (wd:Nat) (ws:List ByteArray) (i k:Nat):fOf wd (ws.drop i) k=bd (ln ((ws.drop i).take k)) wd (k == ws.length - i)+best wd (ws.drop (i+k)):=by
 rw [fOf,List.drop_drop,List.length_drop]
set_option maxRecDepth 100000
set_option maxHeartbeats 4000000
theorem y5e {i q n:Nat} (h:i+q≤n):((i:Int)+(q:Int) == (n:Int))=(q == n - i):=by
 by_cases e:q=n - i
 ·rw [beq_iff_eq.2 e,beq_iff_eq.2 (by omega)]
 ·rw [beq_false_of_ne e,beq_false_of_ne (by omega)]
theorem v3j {ws:List ByteArray} {i q:Nat} (h1:1≤q) (h2:i+q≤ws.length):((ws.drop i).take q).length=q∧(ws.drop i).take q≠[]:=by
 have e:((ws.drop i).take q).length=q:=by rw [List.length_take,List.length_drop];omega
 exact ⟨e,fun h=>by rw [h] at e;simp at e;omega⟩
theorem v6m {ws:List ByteArray} {b0 o0:Nat} {w wr:World} (hW:Wds w (some ⟨b0,o0,none⟩) ws) (hF:Few ws) (hb:Below w.heap.size w wr) (i q c n:Nat) (h1:1≤q) (h2:i+q≤ws.length) :
  Calls Tryz.prog 156 #[.slice (some ⟨b0,o0+i,none⟩) q c] (wr.drewN n) fun e w'=>e = .returned (.int .i64 (ln ((ws.drop i).take q)))∧wr.drewN n=w':=
 v1z q _ (v3j h1 h2).1 _ c _ (v3j h1 h2).2 ((hF.drop i).take q) (Wds.below ((z2p.drop hW i).take q) (z5w hb n))
theorem j2u {wd:Nat} {ws:List ByteArray} {bL bF i q bv sv nq:Nat} {w:World} (h:Mid wd ws bL bF i (q - 1) w) (hi:i<ws.length) (hq:1≤q) (ho:fOf wd (ws.drop i) q=bv+sv) (h1:q=1∨bv+sv≤z6v (fOf wd (ws.drop i)) (q - 1)) :
  Mid wd ws bL bF i (q+1 - 1) (((w.drewN nq).setCell ⟨bL,i,none⟩ (.int .i64 ((bv:Int)+(sv:Int)))).setCell ⟨bF,i,none⟩ (.int .i64 (q:Int))):=by
 obtain ⟨m,rfl⟩:∃ m,q=m+1:=⟨q - 1,by omega⟩
 simp only [Nat.add_sub_cancel] at h h1 ⊢
 have hk:Mid wd ws bL bF i m (w.drewN nq):=h.kept rfl rfl
 have:=hk.put hi (by rw [ho];omega)
 rw [ho] at this
 have e1:((bv+sv:Nat):Int)=(bv:Int)+(sv:Int):=by omega
 have e2:((m+1:Nat):Int)=(m:Int)+1:=by omega
 rw [e1] at this
 rw [e2]
 exact this
theorem j9s {wd:Nat} {ws:List ByteArray} {bL bF i q nq:Nat} {w:World} (h:Mid wd ws bL bF i (q - 1) w) (hq:1≤q) (h1:¬ fOf wd (ws.drop i) q≤z6v (fOf wd (ws.drop i)) (q - 1)) (h2:¬ q=1):Mid wd ws bL bF i (q+1 - 1) (w.drewN nq):=by
 obtain ⟨m,rfl⟩:∃ m,q=m+1:=⟨q - 1,by omega⟩
 simp only [Nat.add_sub_cancel] at h h1 ⊢
 have hk:Mid wd ws bL bF i m (w.drewN nq):=h.kept rfl rfl
 exact hk.skip (by omega)
theorem z8z (ws:List ByteArray) (a:Option Addr) (cap wd:Nat) (w:World) (hc:ws.length≤cap) (hF:Few ws) (hw:wd≤100) (hW:Wds w a ws) :
  Calls Tryz.prog 120 #[.slice a ws.length cap,.int .i64 wd] w fun e w'=>(∃ A c,e = .returned (.slice A (z0n wd ws).length c)∧z2l w.heap.size (.slice A (z0n wd ws).length c) (z0n wd ws) w')∧Below w.heap.size w w':=by
 have hl:=hF.1
 have HW:Hid (Wds w a ws):=hW
 have HF:Hid (Few ws):=hF
 have hm1:∀ W:World,(Instr.makeSlice 63 (.int .i64 ((ws.length:Int)+1)) (.int .i64 ((ws.length:Int)+1))).run Tryz.prog W = .ok (.slice (some ⟨W.heap.size,0,none⟩) (ws.length+1) (ws.length+1)) (W.alloc (.cells (madeCells #[.int .i64 0] (ws.length+1)) 3)):=fun W=>by
  have:=run_make_row' 63 3 _ 8 Tryz.underlying63 z4t rfl .i64 .i64 (ws.length+1) (by omega) (by omega) W
  have e:((ws.length+1:Nat):Int)=(ws.length:Int)+1:=by omega
  rw [e] at this
  exact this
 have hm2:∀ W:World,(Instr.makeSlice 63 (.int .i64 (ws.length:Int)) (.int .i64 (ws.length:Int))).run Tryz.prog W = .ok (.slice (some ⟨W.heap.size,0,none⟩) ws.length ws.length) (W.alloc (.cells (madeCells #[.int .i64 0] ws.length) 3)):=fun W=>
  run_make_row' 63 3 _ 8 Tryz.underlying63 z4t rfl .i64 .i64 ws.length (by omega) (by omega) W
 have HM:Hid (Lst wd ws w.heap.size (w.heap.size+1) ws.length ((w.alloc (.cells (madeCells #[.int .i64 0] (ws.length+1)) 3)).alloc (.cells (madeCells #[.int .i64 0] ws.length) 3))):=Lst.made wd ws w
 clear hW hF
 go_enter Tryz.func120,Tryz.ntmps120
 go_wp2
 go_loopw [7] (fun i wr=>Below w.heap.size w wr∧∃ k:Nat,k≤ws.length∧i = .int .i64 ((k:Int) - 1)∧Lst wd ws w.heap.size (w.heap.size+1) k wr) (fun i _=>(intOf i+1).toNat)
 case atStart=>exact ⟨((Below.refl _ w).alloc (Nat.le_refl _) _).alloc (by simp) _,ws.length,Nat.le_refl _,by go_num,HM.out⟩
 case round=>
  obtain ⟨hb,k,hk,rfl,hL⟩:=hrel
  have HB:Hid (Below w.heap.size w wr):=hb
  have HL:Hid (Lst wd ws w.heap.size (w.heap.size+1) k wr):=hL
  clear hb hL
  by_cases hk0:k=0
  ·subst hk0
   have hneg:¬ ((0:Int)≤((0:Nat):Int) - 1):=by omega
   have hwr:w.heap.size+2≤wr.heap.size:=HL.out.rf.lt
   go_wp2
   go_loopw [10,11] (fun l i wx=>Below (w.heap.size+2) wr wx∧∃ (k:Nat) (ks:List Nat) (A:Option Addr) (c:Nat),k≤ws.length∧ks.length≤k∧i = .int .i64 (k:Int)∧l = .slice A ks.length c∧z2l (w.heap.size+2) (.slice A ks.length c) ks wx∧z0n wd ws=ks++z0n wd (ws.drop k)) (fun _ i _=>ws.length - (intOf i).toNat)
   case atStart=>exact ⟨Below.refl _ _,0,[],none,0,Nat.zero_le _,Nat.le_refl _,rfl,rfl,World.ownsRow_nil _ _ _ _,rfl⟩
   case round=>
    rename_i wo0 wo1 wo2
    obtain ⟨hbx,k,ks,A,c,hk1,hk2,rfl,rfl,hO,hcut⟩:=hrel
    have HBx:Hid (Below (w.heap.size+2) _ wr):=hbx
    have HO:Hid (z2l (w.heap.size+2) (.slice A ks.length c) ks wr):=hO
    have HC:Hid (z0n wd ws=ks++z0n wd (ws.drop k)):=hcut
    have HLx:Hid (Lst wd ws w.heap.size (w.heap.size+1) 0 wr):=HL.out.kept (hbx.block _ (by omega)) (hbx.block _ (by omega))
    have hsx:=hbx.size
    clear hbx hO hcut
    by_cases hlt:k<ws.length
    ·have hki:(k:Int)<(ws.length:Int):=by omega
     have hdn:ws.drop k≠[]:=fun e=>by
      have:=congrArg List.length e
      rw [List.length_drop,List.length_nil] at this
      omega
     have c1:=HLx.out.cf k (Nat.zero_le _) hlt
     have HC2:Hid (z0n wd ws=(ks++[agF wd (ws.drop k)])++z0n wd (ws.drop (k+agF wd (ws.drop k)))):=by
      show z0n wd ws=_
      rw [HC.out,q6j wd hdn,List.drop_drop,List.append_assoc]
      rfl
     obtain ⟨hg1,hg2⟩:=z0i wd hdn
     rw [List.length_drop] at hg2
     have HCF:Hid (∀ W:World,Lst wd ws w.heap.size (w.heap.size+1) 0 W→W.cell? ⟨w.heap.size+1,k,none⟩=some (.int .i64 ((agF wd (ws.drop k):Nat):Int))):=fun W h=>h.cf k (Nat.zero_le _) hlt
     generalize agF wd (ws.drop k)=av at c1 HC2 hg1 hg2 HCF
     clear hdn
     obtain ⟨i0,hi0,hz0,hz1,hz2⟩:=info_parts z4t
     go_wp2_with (at_builtin;refine wpList_append_lies _ rfl _ _ 63 rfl (w.heap.size+2) 3 i0 _ 1 8 Tryz.underlying63 hi0 hz0 hz1 hz2 rfl (by decide) _ _ _ rfl (World.ownsRow.alloc HO.out _) ⟨wr.heap.size,0,none⟩ 1 1 [.int .i64 (av:Int)] rfl rfl (cell_one_new wr _ _) (by intro u hu;simp at hu;subst hu;rfl) (by decide) (by unfold maxLen;omega) (by omega) (by simp;omega) (wr.heap.size+1) (by simp) ?_)
     intro g2 cap2 w2 hown2 hgrow2 hat2 hlt2
     have hb2:=(HBx.out.alloc (by omega) (.cells #[.int .i64 (av:Int)] 3)).grown hgrow2 (by simp;omega) (fun j hj=>(World.ownsRow.lt HO.out j hj).1)
     have HB2:=(show Hid (Below _ _ _) from hb2)
     have c2:=HCF.out w2 (HL.out.kept (hb2.block _ (by omega)) (hb2.block _ (by omega)))
     have HO2:Hid (z2l (w.heap.size+2) (.slice (some ⟨g2,0,none⟩) (ks.length+1) cap2) (ks++[av]) w2):=by
      show w2.ownsRow _ _ _ _ _ _
      rw [z1m,List.length_append]
      exact hown2
     clear hown2 hgrow2 hb2 hat2 hlt2
     go_wp2
     go_roundw
     case rel=>exact ⟨HB2.out,k+av,ks++[av],some ⟨g2,0,none⟩,cap2,by omega,by simp;omega,by go_num,by rw [List.length_append];rfl,by rw [List.length_append];exact HO2.out,HC2.out⟩
     case measure=>simp [intOf];omega
    ·have hke:¬ (k:Int)<(ws.length:Int):=by omega
     have HE:Hid (z0n wd ws=ks):=by
      show z0n wd ws=ks
      rw [HC.out,List.drop_eq_nil_of_le (by omega),q7h,List.append_nil]
     go_wp2
     go_ret
     rw [HE.out]
     exact ⟨⟨A,c,rfl,Joins.ownsRow_le HO.out (by omega)⟩,HB.out.trans (HBx.out.mono (by omega))⟩
  ·obtain ⟨i,rfl⟩:∃ i,k=i+1:=⟨k - 1,by omega⟩
   have hki:(((i+1:Nat):Int) - 1)=(i:Int):=by omega
   rw [hki]
   have hi:i<ws.length:=by omega
   clear hki hk0
   go_wp2
   go_loopw [8] (fun n wx=>Below w.heap.size w wx∧∃ q:Nat,1≤q∧i+q≤ws.length+1∧n = .int .i64 (q:Int)∧Mid wd ws w.heap.size (w.heap.size+1) i (q - 1) wx) (fun n _=>(ws.length+1 - (intOf n).toNat))
   case atStart=>exact ⟨HB.out,1,by omega,by omega,by go_num,Mid.start HL.out⟩
   case round=>
    rename_i wy
    obtain ⟨hb,q,hq1,hq2,rfl,hM⟩:=hrel
    have HBy:Hid (Below w.heap.size w wr):=hb
    have HMy:Hid (Mid wd ws w.heap.size (w.heap.size+1) i (q - 1) wr):=hM
    clear hb hM
    by_cases hlt:i+q≤ws.length
    ·obtain ⟨b0,o0,ea,hb0⟩:=HW.out.some (show 0<ws.length by omega)
     subst ea
     have hlti:(i:Int)+(q:Int)≤(ws.length:Int):=by omega
     have hsl:=y2u b0 o0 ws.length cap i q (by omega) (by omega)
     have hcell:wr.cell? ⟨w.heap.size,i+q,none⟩=some (.int .i64 ((best wd (ws.drop (i+q)):Nat):Int)):=HMy.out.l.cl (i+q) (by omega) hlt
     have HLc:Hid (∀ n,Calls Tryz.prog 156 #[.slice (some ⟨b0,o0+i,none⟩) q (cap - i)] (wr.drewN n) fun e w'=>e = .returned (.int .i64 (ln ((ws.drop i).take q)))∧w'=wr.drewN n):=fun n=>
      (v6m HW.out HF.out HBy.out i q (cap - i) n hq1 hlt).mono fun _ _ h=>⟨h.1,h.2.symm⟩
     have HBc:Hid (∀ n,Calls Tryz.prog 155 #[.int .i64 (ln ((ws.drop i).take q)),.int .i64 wd,.bool ((i:Int)+(q:Int) == (ws.length:Int))] (wr.drewN n) fun e w'=>e = .returned (.int .i64 (bd (ln ((ws.drop i).take q)) wd (q == ws.length - i)))∧w'=wr.drewN n):=fun n=>by
      rw [y5e hlt]
      exact (v1v _ wd _ _ ((HF.out.drop i).take q).ln hw).mono fun _ _ h=>⟨h.1,h.2.symm⟩
     have HO:Hid (fOf wd (ws.drop i) q=bd (ln ((ws.drop i).take q)) wd (q == ws.length - i)+best wd (ws.drop (i+q))):=y0o wd ws i q
     have hfb:=y0p hw (HF.out.drop i) q
     rw [HO.out] at hfb
     generalize ln ((ws.drop i).take q)=lv at HLc HBc HO hfb
     generalize bd lv wd (q == ws.length - i)=bv at HBc HO hfb
     generalize best wd (ws.drop (i+q))=sv at hcell HO hfb
     go_wp2_with fail
     go_quiet (first | (go_at_call 156;exact Calls.quiet_of_same (HLc.out _)) | (go_at_call 155;exact Calls.quiet_of_same (HBc.out _)))
     obtain ⟨y1,e1⟩:=HMy.out.l.rl.cell (show i<ws.length+1 by omega)
     obtain ⟨y2,e2⟩:=HMy.out.l.rf.cell hi
     have f1:wr.frozen? ⟨w.heap.size,i,none⟩=false:=HMy.out.l.rl.frozen
     have f2:wr.frozen? ⟨w.heap.size+1,i,none⟩=false:=HMy.out.l.rf.frozen
     have hwr:w.heap.size+1<wr.heap.size:=HMy.out.l.rf.lt
     by_cases hq:q=1
     ·have hqb:((q:Int) == 1)=true:=by simp [hq]
      have HP:=(show Hid (_) from j2u (nq:=nq) HMy.out hi hq1 HO.out (.inl hq))
      clear hq
      go_wp2
      go_roundw
      case rel=>exact ⟨k8t (z5w HBy.out nq) (Nat.le_refl _) (by omega),q+1,by omega,by omega,by go_num,HP.out⟩
      case measure=>simp [intOf];omega
     ·have hqb:((q:Int) == 1)=false:=by simp;omega
      have e1':=(HMy.out.c (by omega)).1
      generalize hmv:z6v (fOf wd (ws.drop i)) (q - 1)=mv at e1'
      have HMV:Hid (z6v (fOf wd (ws.drop i)) (q - 1)=mv):=hmv
      clear hmv e1
      by_cases hle:bv+sv≤mv
      ·have HP:=(show Hid (_) from j2u (nq:=nq) HMy.out hi hq1 HO.out (.inr (by rw [HMV.out];exact hle)))
       have hlei:(bv:Int)+(sv:Int)≤(mv:Int):=by omega
       clear hq hle
       go_wp2
       go_roundw
       case rel=>exact ⟨k8t (z5w HBy.out nq) (Nat.le_refl _) (by omega),q+1,by omega,by omega,by go_num,HP.out⟩
       case measure=>simp [intOf];omega
      ·have HP:=(show Hid (_) from j9s (nq:=nq) HMy.out hq1 (by rw [HO.out,HMV.out];omega) hq)
       have hlei:¬ (bv:Int)+(sv:Int)≤(mv:Int):=by omega
       clear hq hle
       go_wp2
       go_roundw
       case rel=>exact ⟨z5w HBy.out nq,q+1,by omega,by omega,by go_num,HP.out⟩
       case measure=>simp [intOf];omega
    ·have hgt:¬ (i:Int)+(q:Int)≤(ws.length:Int):=by omega
     have HD:Hid (Lst wd ws w.heap.size (w.heap.size+1) i wr):=HMy.out.done hi (by omega)
     go_wp2
     go_roundw
     case rel=>exact ⟨HBy.out,i,by omega,by go_num,HD.out⟩
     case measure=>simp [intOf]
def q2m (wd:Nat) (ws:List ByteArray):List ByteArray:=k1t ws (z0n wd ws)
theorem q4z (wd:Nat) {ws:List ByteArray} (h:ws≠[]):q2m wd ws=jnS (ws.take (agF wd ws))::q2m wd (ws.drop (agF wd ws)):=by
 rw [q2m,q6j wd h];rfl
theorem q5a (wd:Nat):q2m wd []=[]:=by rw [q2m,q7h];rfl
theorem q9e (wd:Nat):∀ (n:Nat) (ws:List ByteArray),ws.length≤n→(q2m wd ws).length≤ws.length
 | 0,ws,h=>by
  have:ws=[]:=List.eq_nil_of_length_eq_zero (by omega)
  subst this
  rw [q5a];simp
 | n+1,ws,h=>by
  by_cases h0:ws=[]
  ·subst h0;rw [q5a];simp
  ·have hp:=z0i wd h0
   have ih:=q9e wd n (ws.drop (agF wd ws)) (by simp only [List.length_drop];omega)
   rw [q4z wd h0,List.length_cons]
   simp only [List.length_drop] at ih
   omega
theorem k7d (s:ByteArray) (w:World) (h:s.size≤281474976710656) :
  Calls Tryz.prog 77 #[.string s] w fun e w'=>e = .returned (.string s)∧Below w.heap.size w w':=by
 go_enter Tryz.func77,Tryz.ntmps77
 go_wp2_with fail
 refine (clone_sh s _ h).mono ?_
 rintro e w2 ⟨rfl,hb⟩
 go_wp2
 go_ret
 exact ⟨rfl,hb⟩
theorem v1y (n:Nat) (ws:List ByteArray) (hn:ws.length=n) (b o c:Nat) (w:World) (hc:n≤c) (hb:b<w.heap.size) (hF:Few ws) (hW:Wds w (some ⟨b,o,none⟩) ws) :
  Calls Tryz.prog 121 #[.slice (some ⟨b,o,none⟩) n c] w fun e w'=>e = .returned (.string (jnS ws))∧Below w.heap.size w w':=by
 subst hn
 have HJ:Hid (∀ W:World,Below w.heap.size w W→Calls Tryz.prog 86 #[.slice (some ⟨b,o,none⟩) ws.length c,.string ⟨#[32]⟩] W fun e w'=>e = .returned (.string (jnS ws))∧Below W.heap.size W w'):=fun W hB=>by
  have hl:=hF.ln
  have hl2:=hF.1
  refine join_sh b o c ws ⟨#[32]⟩ W ?_ (Nat.lt_of_lt_of_le hb hB.size) (by omega) hc ?_
  ·intro j x hx
   obtain ⟨hj,rfl⟩:=List.getElem?_eq_some_iff.1 hx
   obtain ⟨b',o',e,_,c1⟩:=Wds.below hW hB j hj
   simp only [Option.some.injEq,Addr.mk.injEq,and_true] at e
   obtain ⟨rfl,rfl⟩:=e
   exact c1
  ·have:=j1p ws
   show (jnL ws).length≤_
   omega
 have hs:(jnS ws).size≤281474976710656:=by
  rw [k4a]
  have:=hF.ln
  omega
 clear hW hF
 generalize jnS ws=s at HJ hs
 go_enter Tryz.func121,Tryz.ntmps121
 go_wp2_with fail
 refine (HJ.out _ (Below.refl _ _)).mono ?_
 rintro e w2 ⟨rfl,hb2⟩
 go_wp2_with fail
 refine (k7d s _ hs).mono ?_
 rintro e w3 ⟨rfl,hb3⟩
 go_wp2
 go_ret
 exact ⟨rfl,q0j hb2 (Nat.le_refl _) hb3⟩
structure k8c (wd:Nat) (ws:List ByteArray) (ks:List Nat) (w w1:World) (k:Nat) (vs done:List ByteArray) (A L:Option Addr) (c lc:Nat) (wr:World):Prop where
 b:Below w1.heap.size w1 wr
 le:k≤ks.length
 vc:vs.length≤c
 wo:Wds w A vs
 fe:Few vs
 cu:ks.drop k=z0n wd vs
 ro:q1x w1.heap.size (.slice L done.length lc) done wr
 li:q2m wd ws=done++q2m wd vs
 dl:done.length+vs.length≤60
theorem k8c.step {wd:Nat} {ws:List ByteArray} {ks:List Nat} {w w1:World} {k:Nat} {vs done:List ByteArray} {b o:Nat} {L:Option Addr} {c lc:Nat} {wr:World} (h:k8c wd ws ks w w1 k vs done (some ⟨b,o,none⟩) L c lc wr) (hk:k<ks.length) :
  ∃ q,ks[k]=q∧1≤q∧q≤vs.length∧∃ A',(∀ W:World,(Instr.slice 51 (.slice (some ⟨b,o,none⟩) vs.length c) (some (.int .i64 (q:Int))) none none).run Tryz.prog W = .ok (.slice A' (vs.drop q).length (c - q)) W)∧
   ∀ g cap2 w2,Below w1.heap.size w1 w2→q1x w1.heap.size (.slice (some ⟨g,0,none⟩) (done++[jnS (vs.take q)]).length cap2) (done++[jnS (vs.take q)]) w2→k8c wd ws ks w w1 (k+1) (vs.drop q) (done++[jnS (vs.take q)]) A' (some ⟨g,0,none⟩) (c - q) cap2 w2:=by
 have hne:vs≠[]:=fun e=>by
  have h1:=h.cu
  rw [e,q7h] at h1
  have:=congrArg List.length h1
  rw [List.length_drop,List.length_nil] at this
  omega
 have h1:=h.cu
 rw [List.drop_eq_getElem_cons hk,q6j wd hne,List.cons.injEq] at h1
 obtain ⟨p1,p2⟩:=z0i wd hne
 obtain ⟨A',e1,e2⟩:=v8u h.wo p2 h.vc
 refine ⟨agF wd vs,h1.1,p1,p2,A',e1,fun g cap2 w2 hb hs=>?_⟩
 exact { b:=hb,le:=hk,vc:=by have:=h.vc;rw [List.length_drop];omega,wo:=e2,fe:=h.fe.drop _,cu:=h1.2,ro:=hs,li:=by rw [h.li,q4z wd hne,List.append_assoc];rfl,dl:=by have:=h.dl;rw [List.length_append,List.length_drop];simp;omega }
theorem v1x (ws:List ByteArray) (a:Option Addr) (cap wd:Nat) (w:World) (hc:ws.length≤cap) (hW:Wds w a ws) (h0:q5k ws wd=0) :
  Calls Tryz.prog 85 #[.slice a ws.length cap,.int .i64 wd] w fun e w'=>(∃ L c,e = .returned (.tuple #[.slice L (q2m wd ws).length c,.nilIface])∧q1x w.heap.size (.slice L (q2m wd ws).length c) (q2m wd ws) w')∧Below w.heap.size w w':=by
 obtain ⟨hf0,n,hn0,hn1,hn2⟩:=k6h h0
 obtain rfl:wd=n:=by omega
 have H0:Hid (q5k ws wd=0):=h0
 have HF:Hid (Few ws):=v2t hf0
 have hl:=HF.out.1
 have HW:Hid (Wds w a ws):=hW
 clear h0 hf0 hn0 hW
 go_enter Tryz.func85,Tryz.ntmps85
 go_wp2_with fail
 refine (j6n ws a cap wd _ HW.out).mono ?_
 rintro e w2 ⟨rfl,rfl⟩
 rw [H0.out,q0q]
 go_wp2_with fail
 refine (z8z ws a cap wd _ hc HF.out hn2 HW.out).mono ?_
 rintro e w1 ⟨⟨K,kc,rfl,hO⟩,hb1⟩
 generalize hks:z0n wd ws=ks at hO
 have HK:Hid (z2l w.heap.size (.slice K ks.length kc) ks w1):=hO
 have HKS:Hid (z0n wd ws=ks):=hks
 have HB1:Hid (Below w.heap.size w w1):=hb1
 have hkl:ks.length≤60:=by
  have:=q9e wd _ ws (Nat.le_refl _)
  have e:∀ (ks:List Nat) (ws:List ByteArray),(k1t ws ks).length=ks.length:=by
   intro ks
   induction ks with
   | nil=>intro ws;rfl
   | cons k r ih=>intro ws;simp [k1t,ih]
  rw [q2m,e,hks] at this
  omega
 have hs1:=hb1.size
 clear hO hks hb1
 go_wp2
 go_loopw [0,7,20] (fun l x i wr=>∃ (k:Nat) (vs done:List ByteArray) (A L:Option Addr) (c lc:Nat),l = .slice A vs.length c∧x = .slice L done.length lc∧i = .int .i64 (k:Int)∧k8c wd ws ks w w1 k vs done A L c lc wr) (fun _ _ i _=>ks.length - (intOf i).toNat)
 case atStart=>exact ⟨0,ws,[],a,none,cap,0,rfl,rfl,rfl,{ b:=Below.refl _ _,le:=Nat.zero_le _,vc:=hc,wo:=HW.out,fe:=HF.out,cu:=HKS.out.symm,ro:=World.ownsRow_nil _ _ _ _,li:=rfl,dl:=by simpa using hl }⟩
 case round=>
  obtain ⟨k,vs,done,A,L,c,lc,rfl,rfl,rfl,hR⟩:=hrel
  have HR:Hid (k8c wd ws ks w w1 k vs done A L c lc wr):=hR
  have hle:=hR.le
  have hvc:=hR.vc
  have hdl:=hR.dl
  have hsr:=hR.b.size
  clear hR
  by_cases hlt:k<ks.length
  ·have hki:(k:Int)<(ks.length:Int):=by omega
   obtain ⟨g,rfl,hg,c0⟩:=k6u HK.out k hlt
   have c1:wr.cell? ⟨g,k,none⟩=some (.int .i64 ((ks[k]:Nat):Int)):=(HR.out.b.cell (p:=⟨g,k,none⟩) hg).trans c0
   clear c0
   have hv0:0<vs.length:=by
    rcases Nat.eq_zero_or_pos vs.length with h | h
    ·have:vs=[]:=List.eq_nil_of_length_eq_zero h
     have h1:=HR.out.cu
     rw [this,q7h] at h1
     have:=congrArg List.length h1
     rw [List.length_drop,List.length_nil] at this
     omega
    ·exact h
   obtain ⟨b0,o0,ea,hb0⟩:=HR.out.wo.some hv0
   subst ea
   obtain ⟨q,hq,hq1,hq2,A',hs,hnext⟩:=HR.out.step hlt
   rw [hq] at c1
   have HNX:=(show Hid (_) from hnext)
   have hhead:=v8t (some ⟨b0,o0,none⟩) vs.length c q (by omega)
   have hbr:Below w.heap.size w wr:=HB1.out.trans (HR.out.b.mono hs1)
   have HL:Hid (Calls Tryz.prog 121 #[.slice (some ⟨b0,o0,none⟩) q c] wr fun e w'=>e = .returned (.string (jnS (vs.take q)))∧Below wr.heap.size wr w'):=
    v1y q (vs.take q) (by rw [List.length_take];omega) b0 o0 c wr (by omega) (Nat.lt_of_lt_of_le hb0 hbr.size) (HR.out.fe.take q) (Wds.below (HR.out.wo.take q) hbr)
   generalize hjn:jnS (vs.take q)=s at HL HNX
   generalize hdl2:(vs.drop q).length=dl at hs
   have HDL:Hid ((vs.drop q).length=dl):=hdl2
   clear hq hnext hjn hdl2 hbr
   go_wp2_with fail
   refine HL.out.mono ?_
   rintro e w2 ⟨rfl,hb2⟩
   have HO2:Hid (q1x w1.heap.size (.slice L done.length lc) done w2):=q1w HR.out.ro hb2
   have hbw:Below w1.heap.size w1 w2:=HR.out.b.trans (hb2.mono hsr)
   have HBW:Hid (Below w1.heap.size w1 w2):=hbw
   have hs2:=hbw.size
   clear hbw hb2
   obtain ⟨i0,hi0,hz0,hz1,hz2⟩:=info_parts z5j
   go_wp2_with (at_builtin;refine wpList_append_lies _ rfl _ _ 51 rfl w1.heap.size 9 i0 _ 1 16 Tryz.underlying51 hi0 hz0 hz1 hz2 rfl (by decide) _ _ _ rfl (World.ownsRow.alloc HO2.out _) ⟨w2.heap.size,0,none⟩ 1 1 [.string s] rfl rfl (cell_one_new w2 _ _) (by intro u hu;simp at hu;subst hu;rfl) (by decide) (by unfold maxLen;omega) (by omega) (by simp;omega) (w2.heap.size+1) (by simp) ?_)
   intro g2 cap2 w3 hown3 hgrow3 hat3 hlt3
   have hb3:=(HBW.out.alloc (by omega) (.cells #[.string s] 9)).grown hgrow3 (by simp;omega) (fun j hj=>(World.ownsRow.lt HO2.out j hj).1)
   have hO3:q1x w1.heap.size (.slice (some ⟨g2,0,none⟩) (done++[s]).length cap2) (done++[s]) w3:=by
    show w3.ownsRow _ _ _ _ _ _
    rw [q3k,List.length_append]
    exact hown3
   have HN3:=(show Hid (_) from HNX.out g2 cap2 w3 hb3 hO3)
   clear hown3 hgrow3 hb3 hO3 hat3 hlt3
   go_wp2
   go_roundw
   case rel=>exact ⟨k+1,vs.drop q,done++[s],A',some ⟨g2,0,none⟩,c - q,cap2,by rw [HDL.out],by rw [List.length_append];rfl,by go_num,HN3.out⟩
   case measure=>simp [intOf];omega
  ·have hki:¬ (k:Int)<(ks.length:Int):=by omega
   have HE:Hid (q2m wd ws=done):=by
    show q2m wd ws=done
    have h1:=HR.out.cu
    rw [List.drop_eq_nil_of_le (by omega)] at h1
    have h2:vs=[]:=by
     by_cases h:vs=[]
     ·exact h
     ·rw [q6j wd h] at h1;cases h1
    rw [HR.out.li,h2,q5a,List.append_nil]
   go_wp2
   go_ret2
   rw [HE.out]
   exact ⟨⟨L,lc,rfl,Joins.ownsRow_le HR.out.ro hs1⟩,HB1.out.trans (HR.out.b.mono hs1)⟩
def Prg (w:World) (a:Option Addr) (ps:List (List Td)):Prop:=
 ∀ i (h:i<ps.length),∃ b o a' c',a=some ⟨b,o,none⟩∧b<w.heap.size∧w.cell? ⟨b,o+i,none⟩=some (.slice a' ps[i].length c')∧ps[i].length≤c'∧Tds w a' ps[i]
theorem Prg.below {w w':World} {a:Option Addr} {ps:List (List Td)} (h:Prg w a ps) (hb:Below w.heap.size w w'):Prg w' a ps:=by
 intro i hi
 obtain ⟨b,o,a',c',e,hlt,c1,c2,c3⟩:=h i hi
 have:=hb.size
 exact ⟨b,o,a',c',e,by omega,((q0w hb).1 _ _ hlt).trans c1,c2,c3.below hb⟩
theorem Prg.nil (w:World) (a:Option Addr):Prg w a []:=fun i hi=>by simp at hi
def v9r (ps:List (List Td)):ByteArray:=if (q0p ps).2=0 then wbS (q2d ps) else ⟨#[]⟩
theorem j4b {ps:List (List Td)} (h:(q0p ps).2=0):v9r ps=wbS (q2d ps):=by rw [v9r,if_pos h]
theorem v8p {ps:List (List Td)} (h:(q0p ps).2≠0):v9r ps=⟨#[]⟩:=by rw [v9r,if_neg h]
def z2m (s:ByteArray) (W:World) (e:Ending) (w':World):Prop:=∃ ps k f A c,e = .returned (.tuple #[.slice A ps.length c,.int .i64 k,q1f f])∧q6i s ps k f∧Prg w' A ps∧ps.length≤c∧Below W.heap.size W w'
end Go.Proofs.YtchdplceopegoaaGreatDoor
