/- Texts as one: LexY, LexW. -/
import Derived.Test.YtchdplceopegoaaGreatDoorPw37
import Derived.Test.YtchdplceopegoaaGreatDoorPw36
namespace Go.Proofs.YtchdplceopegoaaGreatDoor
open Go Go.RowKit
set_option maxRecDepth 100000
set_option maxHeartbeats 2000000
theorem q3b (l:List UInt8):(wbS l).size=l.length:=by
 rw [←q0b];rfl
theorem q5b {t:ByteArray} (h:0<t.size):btL t=t[0]::(btL t).drop 1:=by
 have hd:=q1s h
 rw [List.drop_zero,Nat.zero_add] at hd
 exact hd
theorem k8s (n m:Nat):decide (n≤m)=decide ((n:Int)≤(m:Int)):=by
 by_cases h:n≤m
 ·rw [decide_eq_true h,decide_eq_true (by omega)]
 ·rw [decide_eq_false h,decide_eq_false (by omega)]
theorem j7u {w:World} {a:Nat} {bs:ByteArray} (h:q9h w a bs):q9h w.drew a bs:=h
abbrev q9f (t:ByteArray) (w:World) (e:Ending) (w':World):Prop:=e = .returned (.tuple #[.string (wbS (tkW (btL t))),.bool (q4g (btL t))])∧Below w.heap.size w w'
theorem k9h (t:ByteArray) (w:World) (h0:0<t.size) (hs:t.size≤60000) (hl:q3a t[0]=true):Calls Tryz.prog 76 #[.string t] w fun e w'=>q9f t w e w':=by
 obtain ⟨e1,e2⟩:=y1f (c:=t[0]) (r:=(btL t).drop 1) hl
 rw [←q5b h0] at e1 e2
 have HL:Hid (q7g 97 122 t[0]=true):=hl
 have HN:Hid (wbS ((btL t).takeWhile (q7g 97 122))=wbS (tkW (btL t))):=by
  show _=_
  rw [e1];rfl
 have HS:Hid (q4g (btL t)=decide (((wbS (tkW (btL t))).size:Int)≤8)):=by
  show _=_
  rw [e2,q3b,e1,k8s];rfl
 have hz:(wbS (tkW (btL t))).size≤60000:=by
  rw [q3b]
  exact Nat.le_trans (z0c _) (by rw [q0b];exact hs)
 generalize hW:wbS (tkW (btL t))=W at HN HS hz
 generalize hO:q4g (btL t)=O at HS
 have HW:=(show Hid (_=_) from hW)
 have HO:=(show Hid (_=_) from hO)
 clear e1 e2 hl hW hO
 go_enter Tryz.func76,Tryz.ntmps76
 go_wp2_with fail
 refine (q3q 97 122 _).mono ?_
 rintro e w1 ⟨⟨a1,b1,rfl,hF1⟩,hb1⟩
 go_wp2_with fail
 refine (q3q 48 57 _).mono ?_
 rintro e w2 ⟨⟨a2,b2,rfl,hF2⟩,hb2⟩
 have HF:Hid (q3l w2 a1 b1 97 122):=hF1.below hb2
 have HG:Hid (q3l w2 a2 b2 48 57):=hF2
 have HB:Hid (Below w.heap.size w w2):=q0h hb1 (Nat.le_refl _) hb2
 clear hF1 hF2 hb1 hb2
 go_wp2_with fail
 refine (q2o t[0] HF.out).mono ?_
 rintro e w3 ⟨rfl,rfl⟩
 rw [HL.out]
 go_wp2_with fail
 refine (k1k t HF.out hs).mono ?_
 rintro e w3 ⟨rfl,rfl⟩
 rw [HN.out]
 go_wp2
 refine bodyPost_ret (v:=.tuple #[.string W,.bool O]) (by rw [HS.out];simp [results,Tryz.results76,go_sem]) rfl ?_
 exact ⟨by rw [HW.out,HO.out],HB.out⟩
theorem k9g (t:ByteArray) (w:World) (h0:0<t.size) (hs:t.size≤60000) (hl:q3a t[0]=false) (hf:q3w t[0]=true):Calls Tryz.prog 76 #[.string t] w fun e w'=>q9f t w e w':=by
 obtain ⟨e1,e2⟩:=y1e (c:=t[0]) (r:=(btL t).drop 1) hl hf
 rw [←q5b h0] at e1 e2
 have HL:Hid (q7g 97 122 t[0]=false):=hl
 have HD:Hid (q7g 48 57 t[0]=true):=hf
 have HN:Hid (wbS ((btL t).takeWhile (q7g 48 57))=wbS (tkW (btL t))):=by
  show _=_
  rw [e1];rfl
 have HS:Hid (q4g (btL t)=(decide (((wbS (tkW (btL t))).size:Int)≤6) && ((t[0].toNat:Int) != 48 || (wbS (tkW (btL t))).toList == [48]))):=by
  show _=_
  have e48:((t[0].toNat:Int) != 48)=(t[0] != 48):=by
   show (!((t[0].toNat:Int) == 48))=(!(t[0] == 48))
   rw [show (48:Int)=((48:Nat):Int) from rfl,k6i _ 48 (by decide)];rfl
  have el:(wbS (tkW (btL t))).toList=tkW (btL t):=by rw [Lib.toList_data];rfl
  rw [e48,el,e2,q3b,e1,k8s];rfl
 have hz:(wbS (tkW (btL t))).size≤60000:=by
  rw [q3b]
  exact Nat.le_trans (z0c _) (by rw [q0b];exact hs)
 generalize hW:wbS (tkW (btL t))=W at HN HS hz
 generalize hO:q4g (btL t)=O at HS
 have HW:=(show Hid (_=_) from hW)
 have HO:=(show Hid (_=_) from hO)
 have hcs:(¬ (W.size:Int)≤6∧Hid (O=false))∨((W.size:Int)≤6∧((t[0].toNat:Int) != 48)=true∧Hid (O=true))∨((W.size:Int)≤6∧((t[0].toNat:Int) != 48)=false∧Hid (O=(W.toList == [48]))):=by
  have hS:=HS.out
  by_cases g1:(W.size:Int)≤6
  ·rw [decide_eq_true g1,Bool.true_and] at hS
   cases g2:((t[0].toNat:Int) != 48) with
   | true=>rw [g2,Bool.true_or] at hS;exact .inr (.inl ⟨g1,rfl,hS⟩)
   | false=>rw [g2,Bool.false_or] at hS;exact .inr (.inr ⟨g1,rfl,hS⟩)
  ·rw [decide_eq_false g1,Bool.false_and] at hS
   exact .inl ⟨g1,hS⟩
 clear e1 e2 hl hf hW hO HS
 go_enter Tryz.func76,Tryz.ntmps76
 go_wp2_with fail
 refine (q3q 97 122 _).mono ?_
 rintro e w1 ⟨⟨a1,b1,rfl,hF1⟩,hb1⟩
 go_wp2_with fail
 refine (q3q 48 57 _).mono ?_
 rintro e w2 ⟨⟨a2,b2,rfl,hF2⟩,hb2⟩
 have HF:Hid (q3l w2 a1 b1 97 122):=hF1.below hb2
 have HG:Hid (q3l w2 a2 b2 48 57):=hF2
 have HB:Hid (Below w.heap.size w w2):=q0h hb1 (Nat.le_refl _) hb2
 clear hF1 hF2 hb1 hb2
 go_wp2_with fail
 refine (q2o t[0] HF.out).mono ?_
 rintro e w3 ⟨rfl,rfl⟩
 rw [HL.out]
 go_wp2_with fail
 refine (q2o t[0] HG.out).mono ?_
 rintro e w3 ⟨rfl,rfl⟩
 rw [HD.out]
 go_wp2_with fail
 refine (k1k t HG.out hs).mono ?_
 rintro e w3 ⟨rfl,rfl⟩
 rw [HN.out]
 rcases hcs with ⟨c1,HC⟩ | ⟨c1,c2,HC⟩ | ⟨c1,c2,HC⟩
 all_goals
  go_wp2
  refine bodyPost_ret (v:=.tuple #[.string W,.bool O]) (by rw [HC.out];simp [results,Tryz.results76,go_sem]) rfl ?_
  exact ⟨by rw [HW.out,HO.out],HB.out⟩
theorem k5b (t:ByteArray) (w:World) (h0:0<t.size) (hs:t.size≤60000) (hl:q3a t[0]=false) (hf:q3w t[0]=false) (hn:t[0]=35):Calls Tryz.prog 76 #[.string t] w fun e w'=>q9f t w e w':=by
 obtain ⟨e1,e2⟩:=v7g (c:=t[0]) (r:=(btL t).drop 1) hl hf hn
 rw [←q5b h0] at e1 e2
 have HL:Hid (q7g 97 122 t[0]=false):=hl
 have HD:Hid (q7g 48 57 t[0]=false):=hf
 have hni:((t[0].toNat:Int) == 35)=true:=by rw [hn];rfl
 have HN:Hid (wbS (q1a (btL (z8c t)))=wbS (tkW (btL t))):=by
  show _=_
  rw [e1];rfl
 have hll:(z8c t).size≤60000∧0<(z8c t).size:=by
  have h1:=k4e nlB (btL t)
  rw [q0b] at h1
  rw [z8c,q3b]
  refine ⟨by omega,?_⟩
  rw [q5b h0,List.takeWhile_cons,if_pos (by rw [hn];rfl)]
  simp
 have HS:Hid (q4g (btL t)=((wbS ((btL (wbS (tkW (btL t)))).takeWhile (q7g 32 126))).toList == (wbS (tkW (btL t))).toList)):=by
  show _=_
  rw [Lib.toList_data,Lib.toList_data,e2,e1];rfl
 have hz:(wbS (tkW (btL t))).size≤60000:=by
  rw [q3b]
  exact Nat.le_trans (z0c _) (by rw [q0b];exact hs)
 generalize hW:wbS (tkW (btL t))=W at HN HS hz
 generalize hO:q4g (btL t)=O at HS
 have HW:=(show Hid (_=_) from hW)
 have HO:=(show Hid (_=_) from hO)
 generalize hM:wbS ((btL W).takeWhile (q7g 32 126))=M at HS
 have HM:=(show Hid (_=_) from hM)
 obtain ⟨hl1,hl2⟩:=hll
 clear e1 e2 hl hf hn hW hO hM
 go_enter Tryz.func76,Tryz.ntmps76
 go_wp2_with fail
 refine (q3q 97 122 _).mono ?_
 rintro e w1 ⟨⟨a1,b1,rfl,hF1⟩,hb1⟩
 go_wp2_with fail
 refine (q3q 48 57 _).mono ?_
 rintro e w2 ⟨⟨a2,b2,rfl,hF2⟩,hb2⟩
 have HF:Hid (q3l w2 a1 b1 97 122):=hF1.below hb2
 have HG:Hid (q3l w2 a2 b2 48 57):=hF2
 have HB:Hid (Below w.heap.size w w2):=q0h hb1 (Nat.le_refl _) hb2
 clear hF1 hF2 hb1 hb2
 go_wp2_with fail
 refine (q2o t[0] HF.out).mono ?_
 rintro e w3 ⟨rfl,rfl⟩
 rw [HL.out]
 go_wp2_with fail
 refine (q2o t[0] HG.out).mono ?_
 rintro e w3 ⟨rfl,rfl⟩
 rw [HD.out]
 go_wp2_with fail
 refine (j8e t _ hs).mono ?_
 rintro e w3 ⟨⟨r,b,rfl⟩,hb3⟩
 go_wp2_with fail
 refine (j3p (z8c t) _ hl2 hl1).mono ?_
 rintro e w4 ⟨rfl,rfl⟩
 rw [HN.out]
 go_wp2_with fail
 refine (q3q 32 126 _).mono ?_
 rintro e w4 ⟨⟨a4,b4,rfl,hF4⟩,hb4⟩
 have HK:Hid (q3l w4 a4 b4 32 126):=hF4
 have HB4:Hid (Below w.heap.size w w4):=q0h (q0h HB.out (Nat.le_refl _) hb3) (Nat.le_refl _) hb4
 clear hF4 hb3 hb4
 go_wp2_with fail
 refine (k1k W HK.out hz).mono ?_
 rintro e w5 ⟨rfl,rfl⟩
 rw [HM.out]
 go_wp2
 refine bodyPost_ret (v:=.tuple #[.string W,.bool O]) (by rw [HS.out];simp [results,Tryz.results76,go_sem]) rfl ?_
 exact ⟨by rw [HW.out,HO.out],HB4.out⟩
theorem k5a (t:ByteArray) (w:World) (h0:0<t.size) (hs:t.size≤60000) (hsp:spB t[0]=false) (hl:q3a t[0]=false) (hf:q3w t[0]=false) (hn:(t[0] == 35)=false):Calls Tryz.prog 76 #[.string t] w fun e w'=>q9f t w e w':=by
 obtain ⟨e1,e2⟩:=v7f (c:=t[0]) (r:=(btL t).drop 1) hsp hl hf hn
 rw [←q5b h0] at e1 e2
 have HL:Hid (q7g 97 122 t[0]=false):=hl
 have HD:Hid (q7g 48 57 t[0]=false):=hf
 have h1i:(1:Int)≤(t.size:Int):=by omega
 have h2i:(0:Int)<(t.size:Int):=by omega
 have hni:((t[0].toNat:Int) == 35)=false:=by rw [show (35:Int)=((35:Nat):Int) from rfl,k6i _ 35 (by decide)];exact hn
 have HN:Hid (t.extract 0 1=wbS (tkW (btL t))):=by
  show _=_
  have e3:(btL t).take 1=[t[0]]:=by
   have h3:=congrArg (List.take 1) (q5b h0)
   rw [List.take_succ_cons,List.take_zero] at h3
   exact h3
  rw [e1,k2q,e3]
 have HS:Hid (q4g (btL t)=(btL (⟨#[40,41,91,93,44,43,42,61,59]⟩:ByteArray)).any (· == t[0])):=by
  show _=_
  rw [e2];rfl
 have hz:(wbS (tkW (btL t))).size≤60000:=by
  rw [q3b]
  exact Nat.le_trans (z0c _) (by rw [q0b];exact hs)
 generalize hW:wbS (tkW (btL t))=W at HN HS hz
 generalize hO:q4g (btL t)=O at HS
 have HW:=(show Hid (_=_) from hW)
 have HO:=(show Hid (_=_) from hO)
 clear e1 e2 hl hf hn hsp hW hO
 go_enter Tryz.func76,Tryz.ntmps76
 go_wp2_with fail
 refine (q3q 97 122 _).mono ?_
 rintro e w1 ⟨⟨a1,b1,rfl,hF1⟩,hb1⟩
 go_wp2_with fail
 refine (q3q 48 57 _).mono ?_
 rintro e w2 ⟨⟨a2,b2,rfl,hF2⟩,hb2⟩
 have HF:Hid (q3l w2 a1 b1 97 122):=hF1.below hb2
 have HG:Hid (q3l w2 a2 b2 48 57):=hF2
 have HB:Hid (Below w.heap.size w w2):=q0h hb1 (Nat.le_refl _) hb2
 clear hF1 hF2 hb1 hb2
 go_wp2_with fail
 refine (q2o t[0] HF.out).mono ?_
 rintro e w3 ⟨rfl,rfl⟩
 rw [HL.out]
 go_wp2_with fail
 refine (q2o t[0] HG.out).mono ?_
 rintro e w3 ⟨rfl,rfl⟩
 rw [HD.out]
 go_wp2_with fail
 go_region_held3 (fun _=>True) (trivial) (first | (go_at_call 75;refine (z8t _ _).mono ?_;rintro e w3 ⟨rfl,rfl⟩) | (go_at_call 97;refine (q6w t[0] (q9h.new _ _)).mono ?_;rintro e w4 ⟨rfl,rfl⟩;rw [←HS.out]) | (go_at_call 97;refine (q6w t[0] (j7u (q9h.new _ _))).mono ?_;rintro e w4 ⟨rfl,rfl⟩;rw [←HS.out]))
 all_goals
  go_wp2
  refine bodyPost_ret (v:=.tuple #[.string (t.extract 0 1),.bool O]) (by simp [results,Tryz.results76,go_sem]) rfl ?_
  exact ⟨by rw [HN.out,HW.out,HO.out],(HB.out.alloc HB.out.size _).trans ⟨rfl,rfl,rfl,Nat.le_refl _,fun _ _=>rfl⟩⟩
theorem k9f (t:ByteArray) (w:World) (h0:0<t.size) (hs:t.size≤60000) (hsp:spB t[0]=false):Calls Tryz.prog 76 #[.string t] w fun e w'=>q9f t w e w':=by
 cases hl:q3a t[0] with
 | true=>exact k9h t w h0 hs hl
 | false=>
  cases hf:q3w t[0] with
  | true=>exact k9g t w h0 hs hl hf
  | false=>
   cases hn:(t[0] == 35) with
   | true=>exact k5b t w h0 hs hl hf (beq_iff_eq.1 hn)
   | false=>exact k5a t w h0 hs hsp hl hf hn
set_option maxHeartbeats 4000000
theorem q6q (s:ByteArray) (w:World) (h:s.size≤281474976710656) :
  Calls Tryz.prog 77 #[.string s] w fun e w'=>e = .returned (.string s)∧Below w.heap.size w w':=by
 go_enter Tryz.func77,Tryz.ntmps77
 go_wp2_with fail
 refine (clone_sh s _ h).mono ?_
 rintro e w2 ⟨rfl,hb⟩
 go_wp2
 go_ret
 exact ⟨rfl,hb⟩
theorem v1f (c:UInt8):(btL (⟨#[32,10]⟩:ByteArray)).any (· == c)=spB c:=by
 show ((32 == c) || ((10 == c) || false))=(c == 32 || c == 10)
 rw [Bool.or_false,BEq.comm (a:=(32:UInt8)),BEq.comm (a:=(10:UInt8))]
theorem q3n.later {s:ByteArray} {w:World} {i:Nat} {dn:List (Nat × List UInt8)} {A P:Option Addr} {ac pc:Nat} {wr wr':World} (h:q3n s w i dn A P ac pc wr) (hb:Below wr.heap.size wr wr'):q3n s w i dn A P ac pc wr':=
 { b:=h.b.trans (hb.mono h.b.size),le:=h.le,ln:=h.ln,eq:=h.eq,ws:=q1v h.ws hb,ps:=q1v h.ps hb }
theorem v7c {s:ByteArray} {k:Nat} (h:k<s.size):0<(s.extract k s.size).size∧∀ h0:0<(s.extract k s.size).size,(s.extract k s.size)[0]=s[k]:=by
 have h1:0<(s.extract k s.size).size:=by rw [ByteArray.size_extract];omega
 refine ⟨h1,fun h0=>?_⟩
 have e1:=q5b h0
 rw [k2p,q1s h,List.cons.injEq] at e1
 exact e1.1.symm
theorem j0s {s:ByteArray} {k:Nat} (h:k<s.size) (hs:s.size≤60000) (hsp:spB s[k]=false) (W:World) :
  Calls Tryz.prog 76 #[.string (s.extract k s.size)] W fun e w'=>e = .returned (.tuple #[.string (wbS (tkW ((btL s).drop k))),.bool (tOk s k)])∧Below W.heap.size W w':=by
 obtain ⟨h1,h2⟩:=v7c h
 have:=k9f (s.extract k s.size) W h1 (by rw [ByteArray.size_extract];omega) (by rw [h2 h1];exact hsp)
 unfold q9f at this
 rw [k2p] at this
 exact this
theorem v6b {l:List UInt8} {c:UInt8} {z:List UInt8} (h:l=c::z) (h0:0<(wbS l).size):(wbS l)[0]=c:=by
 subst h;rfl
theorem j4f {s:ByteArray} {k:Nat} (h:k<s.size) (hsp:spB s[k]=false):0<(wbS (tkW ((btL s).drop k))).size∧∀ h0:0<(wbS (tkW ((btL s).drop k))).size,(wbS (tkW ((btL s).drop k)))[0]=s[k]:=by
 have h1:∃ z,tkW ((btL s).drop k)=s[k]::z:=by
  rw [tkW,q1s h]
  have hp:=q3z s[k] ((btL s).drop (k+1))
  obtain ⟨m,hm⟩:∃ m,q0o (s[k]::(btL s).drop (k+1))=m+1:=⟨_,(Nat.sub_add_cancel hp).symm⟩
  rw [hm,List.take_succ_cons]
  exact z0d (k5y hsp) _
 obtain ⟨z,hz⟩:=h1
 exact ⟨by rw [q3b,hz];simp,fun h0=>v6b hz h0⟩
theorem q3n.next {s:ByteArray} {w:World} {i:Nat} {dn:List (Nat × List UInt8)} {A P:Option Addr} {ac pc:Nat} {wr:World} (h:q3n s w i dn A P ac pc wr) (hi:i<s.size) (hs:spB s[i]=false) (ho:tOk s i=true) {A' P':Option Addr} {ac' pc':Nat} {w':World} (hb:Below w.heap.size w w')
  (h1:w'.ownsRow w.heap.size 9 1 (.slice A' (dn.length+1) ac') (dn.length+1) (strCells (dn.map fun x=>wbS x.2)++[.string (wbS (tkW ((btL s).drop i)))])) (h2:w'.ownsRow w.heap.size 3 1 (.slice P' (dn.length+1) pc') (dn.length+1) (q1u (dn.map (·.1))++[.int .i64 (i:Int)])) :
  q3n s w (i+(tkW ((btL s).drop i)).length) (dn++[(i,tkW ((btL s).drop i))]) A' P' ac' pc' w':=by
 have hn:=h.word hi hs ho hb h1 h2
 have hp:1≤(tkW ((btL s).drop i)).length:=by
  rw [tOk,q1s hi] at ho
  rw [q1s hi]
  exact v5u hs ho
 have hle:(tkW ((btL s).drop i)).length+i≤s.size:=by
  have:=z0c ((btL s).drop i)
  rw [List.length_drop,q0b] at this
  omega
 have e:=hn.eq
 have es:=j7c ((btL s).drop i) i
 rw [List.drop_drop,List.drop_drop] at es
 refine { b:=hn.b,le:=by omega,ln:=by have:=h.ln;simp;omega,eq:=?_,ws:=hn.ws,ps:=hn.ps }
 rw [e,lxW,lxF,lxW,lxF,es]
 rfl
theorem k3l {w:World} {B B' e size n:Nat} {v:Value} {xs:List Value} (h:w.ownsRow B e size v n xs) (hB:B'≤B):w.ownsRow B' e size v n xs:=by
 refine ⟨h.1,?_⟩
 rcases h.2 with h0 | ⟨g,c,cur,hv,hg,rest⟩
 ·exact .inl h0
 ·exact .inr ⟨g,c,cur,hv,by omega,rest⟩
def z4s (s:ByteArray) (w:World) (e:Ending) (w':World):Prop:=
 (q6t (btL s)≠0∧e = .returned (.tuple #[.slice none 0 0,.slice none 0 0,.int .i64 ((z8b (btL s):Nat):Int),q1e (q6t (btL s))]))∨
 (q6t (btL s)=0∧∃ A P ac pc,e = .returned (.tuple #[.slice A (q2u (btL s)).length ac,.slice P (q2u (btL s)).length pc,.int .i64 0,.nilIface])∧q1w w.heap.size (.slice A (q2u (btL s)).length ac) ((q2u (btL s)).map wbS) w'∧z1j w.heap.size (.slice P (q2u (btL s)).length pc) (z6v (btL s)) w')
theorem k1s (s:ByteArray) (w:World) (hl:(btL s).length≤60000):Calls Tryz.prog 48 #[.string s] w fun e w'=>z4s s w e w'∧Below w.heap.size w w':=by
 have hsz:s.size≤60000:=by rw [←q0b];exact hl
 clear hl
 have hszi:¬ 60000<(s.size:Int):=by omega
 go_enter Tryz.func48,Tryz.ntmps48
 go_wp2_with fail
 refine (z8t _ _).mono ?_
 rintro e w1 ⟨rfl,hw1⟩
 have HO:Hid (q9h w1 w.heap.size ⟨#[32,10]⟩):=by rw [hw1];exact q9h.new _ _
 have HB1:Hid (Below w.heap.size w w1):=by rw [hw1];exact (Below.refl _ _).alloc (Nat.le_refl _) _
 have hs1:=HO.out.1
 generalize hbk:w.heap.size=bk at HO HB1 hs1 ⊢
 have HBK:Hid (w.heap.size=bk):=hbk
 clear hw1 hbk
 go_wp2_with fail
 go_loopw [2,3,7,8] (fun x p m i wr=>∃ (k:Nat) (dn:List (Nat × List UInt8)) (A P:Option Addr) (ac pc:Nat),x = .slice A dn.length ac∧p = .slice P dn.length pc∧m = .int .i64 ((many (dn.map (·.2)):Nat):Int)∧i = .int .i64 (k:Int)∧q3n s w1 k dn A P ac pc wr) (fun _ _ _ i _=>s.size - (intOf i).toNat)
 case atStart=>exact ⟨0,[],none,none,0,0,rfl,rfl,rfl,rfl,{ b:=Below.refl _ _,le:=Nat.zero_le _,ln:=Nat.le_refl _,eq:=rfl,ws:=World.ownsRow_nil _ _ _ _,ps:=World.ownsRow_nil _ _ _ _ }⟩
 case round=>
  obtain ⟨k,dn,A,P,ac,pc,rfl,rfl,rfl,rfl,hR⟩:=hrel
  have HR:Hid (q3n s w1 k dn A P ac pc wr):=hR
  have HOr:Hid (q9h wr bk ⟨#[32,10]⟩):=HO.out.below hs1 hR.b
  have HBr:Hid (Below bk w wr):=HB1.out.trans (hR.b.mono (Nat.le_of_lt hs1))
  have hle:=hR.le
  have hln:=hR.ln
  have hmn:many (dn.map (·.2))≤60000:=by
   have h1:many (dn.map (·.2))≤(dn.map (·.2)).length:=List.length_filter_le _ _
   rw [List.length_map] at h1
   omega
  clear hR
  generalize hmm:many (dn.map (·.2))=mm at hmn
  have HMM:Hid (many (dn.map (·.2))=mm):=hmm
  clear hmm
  by_cases hlt:k<s.size
  ·have hki:(k:Int)<(s.size:Int):=by omega
   cases hs:spB s[k] with
   | true=>
    have HN:Hid (q3n s w1 (k+1) dn A P ac pc wr):=HR.out.space hlt hs
    have HP:=(show Hid (_=_) from v1f s[k])
    go_wp2_with fail
    refine (q6w s[k] HOr.out).mono ?_
    rintro e w2 ⟨rfl,rfl⟩
    rw [HP.out,hs]
    clear hs
    go_wp2
    go_roundw
    case rel=>exact ⟨k+1,dn,A,P,ac,pc,rfl,rfl,by rw [HMM.out],by go_num,HN.out⟩
    case measure=>simp [intOf];omega
   | false=>
    have HP:=(show Hid (_=_) from v1f s[k])
    have HS:Hid (spB s[k]=false):=hs
    have hkm:(k:Int)≤(s.size:Int):=by omega
    clear hs
    go_wp2_with fail
    refine (q6w s[k] HOr.out).mono ?_
    rintro e w2 ⟨rfl,rfl⟩
    rw [HP.out,HS.out]
    go_wp2_with fail
    refine (j0s hlt hsz HS.out _).mono ?_
    rintro e w2 ⟨rfl,hb2⟩
    have HR2:Hid (q3n s w1 k dn A P ac pc w2):=HR.out.later hb2
    have HB2:Hid (Below bk w w2):=HB1.out.trans (HR2.out.b.mono (Nat.le_of_lt hs1))
    clear HR HBr HOr hb2
    cases hok:tOk s k with
    | false=>
     have HF:Hid (q6t (btL s)=5∧z8b (btL s)=k):=j6w (by rw [q0b];exact hsz) (j0n HR2.out hlt HS.out hok)
     generalize hu:wbS (tkW ((btL s).drop k))=u
     clear hok hu
     go_wp2
     refine bodyPost_ret (v:=.tuple #[.slice none 0 0,.slice none 0 0,.int .i64 (k:Int),.iface 24 (.int .i64 5)]) (by simp [results,Tryz.results48,go_sem]) rfl ?_
     exact ⟨.inl ⟨by rw [HF.out.1];decide,by rw [HF.out.1,HF.out.2,v0f]⟩,by rw [HBK.out];exact HB2.out⟩
    | true=>
     have HOK:Hid (tOk s k=true):=hok
     obtain ⟨hu0,hu1⟩:=j4f hlt HS.out
     have hus:(wbS (tkW ((btL s).drop k))).size+k≤s.size:=by
      have:=z0c ((btL s).drop k)
      rw [List.length_drop,q0b] at this
      rw [q3b]
      omega
     have HMY:Hid (many (dn.map (·.2)++[tkW ((btL s).drop k)])=mm+(if s[k] != 35 then 1 else 0)):=by
      show _=_
      rw [j7e,HMM.out,j7f hlt HS.out]
     have HUZ:Hid ((tkW ((btL s).drop k)).length=(wbS (tkW ((btL s).drop k))).size):=(q3b _).symm
     generalize hW:tkW ((btL s).drop k)=W at HMY HUZ hu0 hu1 hus ⊢
     have HW:Hid (tkW ((btL s).drop k)=W):=hW
     generalize hu:wbS W=u at HUZ hu0 hu1 hus ⊢
     have HU:Hid (wbS W=u):=hu
     have hu0i:(0:Int)<(u.size:Int):=by omega
     clear hok hW hu
     cases hn:(s[k] != 35) with
     | true=>
      have hni:((u[0].toNat:Int) != 35)=true:=by
       rw [hu1 hu0]
       show (!((s[k].toNat:Int) == 35))=true
       rw [show (35:Int)=((35:Nat):Int) from rfl,k6i _ 35 (by decide)]
       exact hn
      have HMW:Hid (many ((dn++[(k,W)]).map (·.2))=mm+1):=by
       show _=_
       rw [List.map_append]
       have:=HMY.out
       rw [hn] at this
       exact this
      clear hn hu1 HMY
      go_wp2_with fail
      refine (q6q u _ (by omega)).mono ?_
      rintro e w3 ⟨rfl,hb3⟩
      have HR3:Hid (q3n s w1 k dn A P ac pc w3):=HR2.out.later hb3
      have hsr:=HR3.out.b.size
      clear HR2 HB2 hb3
      obtain ⟨i0,hi0,hz0,hz1,hz2⟩:=info_parts z4i
      go_wp2_with (at_builtin;refine wpList_append_lies _ rfl _ _ 51 rfl w1.heap.size 9 i0 _ 1 16 Tryz.underlying51 hi0 hz0 hz1 hz2 rfl (by decide) _ _ _ rfl (World.ownsRow.alloc HR3.out.ws _) ⟨w3.heap.size,0,none⟩ 1 1 [.string u] rfl rfl (cell_one_new w3 _ _) (by intro u hu;simp at hu;subst hu;rfl) (by decide) (by unfold maxLen;omega) (by omega) (by simp;omega) (w3.heap.size+1) (by simp) ?_)
      intro g2 cap2 w4 hown2 hgrow2 hat2 hlt2
      have hb2:=(HR3.out.b.alloc (by omega) (.cells #[.string u] 9)).grown hgrow2 (by simp;omega) (fun j hj=>(World.ownsRow.lt HR3.out.ws j hj).1)
      have HB2:=(show Hid (Below _ _ _) from hb2)
      have HP2:Hid (w4.ownsRow w1.heap.size 3 1 (.slice P dn.length pc) dn.length (q1u (dn.map (·.1)))):=z6e (World.ownsRow.alloc HR3.out.ps _) (World.ownsRow.alloc HR3.out.ws _) (by decide) hgrow2
      have HW2:=(show Hid (w4.ownsRow _ _ _ _ _ _) from hown2)
      have hs2:=hb2.size
      clear hown2 hgrow2 hb2 hat2 hlt2
      obtain ⟨i1,hi1,hy0,hy1,hy2⟩:=info_parts z3u
      go_wp2_with (at_builtin;refine wpList_append_lies _ rfl _ _ 63 rfl w1.heap.size 3 i1 _ 1 8 Tryz.underlying63 hi1 hy0 hy1 hy2 rfl (by decide) _ _ _ rfl (World.ownsRow.alloc HP2.out _) ⟨w4.heap.size,0,none⟩ 1 1 [.int .i64 (k:Int)] rfl rfl (cell_one_new w4 _ _) (by intro u hu;simp at hu;subst hu;rfl) (by decide) (by unfold maxLen;omega) (by omega) (by simp;omega) (w4.heap.size+1) (by simp) ?_)
      intro g3 cap3 w5 hown3 hgrow3 hat3 hlt3
      have hb3:=(HB2.out.alloc (by omega) (.cells #[.int .i64 (k:Int)] 3)).grown hgrow3 (by simp;omega) (fun j hj=>(World.ownsRow.lt HP2.out j hj).1)
      have hW3:=z6e (World.ownsRow.alloc HW2.out _) (World.ownsRow.alloc HP2.out _) (by decide) hgrow3
      have HN:Hid (q3n s w1 (k+u.size) (dn++[(k,W)]) (some ⟨g2,0,none⟩) (some ⟨g3,0,none⟩) cap2 cap3 w5):=by
       show q3n _ _ _ _ _ _ _ _ _
       rw [←HUZ.out,←HW.out]
       refine HR3.out.next hlt HS.out HOK.out hb3 ?_ ?_
       ·rw [HW.out,HU.out];exact hW3
       ·exact hown3
      clear hown3 hgrow3 hat3 hlt3 hb3 hW3
      go_wp2
      go_roundw
      case rel=>exact ⟨k+u.size,dn++[(k,W)],some ⟨g2,0,none⟩,some ⟨g3,0,none⟩,cap2,cap3,by rw [List.length_append];rfl,by rw [List.length_append];rfl,by rw [HMW.out];go_num,by go_num,HN.out⟩
      case measure=>simp [intOf];omega
     | false=>
      have hni:((u[0].toNat:Int) != 35)=false:=by
       rw [hu1 hu0]
       show (!((s[k].toNat:Int) == 35))=false
       rw [show (35:Int)=((35:Nat):Int) from rfl,k6i _ 35 (by decide)]
       exact hn
      have HMW:Hid (many ((dn++[(k,W)]).map (·.2))=mm):=by
       show _=_
       rw [List.map_append]
       have:=HMY.out
       rw [hn] at this
       exact this
      clear hn hu1 HMY
      go_wp2_with fail
      refine (q6q u _ (by omega)).mono ?_
      rintro e w3 ⟨rfl,hb3⟩
      have HR3:Hid (q3n s w1 k dn A P ac pc w3):=HR2.out.later hb3
      have hsr:=HR3.out.b.size
      clear HR2 HB2 hb3
      obtain ⟨i0,hi0,hz0,hz1,hz2⟩:=info_parts z4i
      go_wp2_with (at_builtin;refine wpList_append_lies _ rfl _ _ 51 rfl w1.heap.size 9 i0 _ 1 16 Tryz.underlying51 hi0 hz0 hz1 hz2 rfl (by decide) _ _ _ rfl (World.ownsRow.alloc HR3.out.ws _) ⟨w3.heap.size,0,none⟩ 1 1 [.string u] rfl rfl (cell_one_new w3 _ _) (by intro u hu;simp at hu;subst hu;rfl) (by decide) (by unfold maxLen;omega) (by omega) (by simp;omega) (w3.heap.size+1) (by simp) ?_)
      intro g2 cap2 w4 hown2 hgrow2 hat2 hlt2
      have hb2:=(HR3.out.b.alloc (by omega) (.cells #[.string u] 9)).grown hgrow2 (by simp;omega) (fun j hj=>(World.ownsRow.lt HR3.out.ws j hj).1)
      have HB2:=(show Hid (Below _ _ _) from hb2)
      have HP2:Hid (w4.ownsRow w1.heap.size 3 1 (.slice P dn.length pc) dn.length (q1u (dn.map (·.1)))):=z6e (World.ownsRow.alloc HR3.out.ps _) (World.ownsRow.alloc HR3.out.ws _) (by decide) hgrow2
      have HW2:=(show Hid (w4.ownsRow _ _ _ _ _ _) from hown2)
      have hs2:=hb2.size
      clear hown2 hgrow2 hb2 hat2 hlt2
      obtain ⟨i1,hi1,hy0,hy1,hy2⟩:=info_parts z3u
      go_wp2_with (at_builtin;refine wpList_append_lies _ rfl _ _ 63 rfl w1.heap.size 3 i1 _ 1 8 Tryz.underlying63 hi1 hy0 hy1 hy2 rfl (by decide) _ _ _ rfl (World.ownsRow.alloc HP2.out _) ⟨w4.heap.size,0,none⟩ 1 1 [.int .i64 (k:Int)] rfl rfl (cell_one_new w4 _ _) (by intro u hu;simp at hu;subst hu;rfl) (by decide) (by unfold maxLen;omega) (by omega) (by simp;omega) (w4.heap.size+1) (by simp) ?_)
      intro g3 cap3 w5 hown3 hgrow3 hat3 hlt3
      have hb3:=(HB2.out.alloc (by omega) (.cells #[.int .i64 (k:Int)] 3)).grown hgrow3 (by simp;omega) (fun j hj=>(World.ownsRow.lt HP2.out j hj).1)
      have hW3:=z6e (World.ownsRow.alloc HW2.out _) (World.ownsRow.alloc HP2.out _) (by decide) hgrow3
      have HN:Hid (q3n s w1 (k+u.size) (dn++[(k,W)]) (some ⟨g2,0,none⟩) (some ⟨g3,0,none⟩) cap2 cap3 w5):=by
       show q3n _ _ _ _ _ _ _ _ _
       rw [←HUZ.out,←HW.out]
       refine HR3.out.next hlt HS.out HOK.out hb3 ?_ ?_
       ·rw [HW.out,HU.out];exact hW3
       ·exact hown3
      clear hown3 hgrow3 hat3 hlt3 hb3 hW3
      go_wp2
      go_roundw
      case rel=>exact ⟨k+u.size,dn++[(k,W)],some ⟨g2,0,none⟩,some ⟨g3,0,none⟩,cap2,cap3,by rw [List.length_append];rfl,by rw [List.length_append];rfl,by rw [HMW.out],by go_num,HN.out⟩
      case measure=>simp [intOf];omega
  ·have hki:¬ (k:Int)<(s.size:Int):=by omega
   have HX:Hid (lxF (btL s) 0=none∧lxW (btL s) 0=dn):=j0o HR.out hlt
   have HL:Hid ((q2u (btL s)).length=dn.length∧many (q2u (btL s))=mm):=by
    refine ⟨?_,?_⟩
    ·rw [q2u,HX.out.2,List.length_map]
    ·rw [q2u,HX.out.2];exact HMM.out
   by_cases h300:300<mm
   ·have hmi:(300:Int)<(mm:Int):=by omega
    have HF:Hid (q6t (btL s)=3∧z8b (btL s)=0):=j0l (by rw [q0b];exact hsz) HX.out.1 (by rw [HL.out.2];exact h300)
    go_wp2
    refine bodyPost_ret (v:=.tuple #[.slice none 0 0,.slice none 0 0,.int .i64 0,.iface 24 (.int .i64 3)]) (by simp [results,Tryz.results48,go_sem]) rfl ?_
    exact ⟨.inl ⟨by rw [HF.out.1];decide,by rw [HF.out.1,HF.out.2,k2o];rfl⟩,by rw [HBK.out];exact HBr.out⟩
   ·have hmi:¬ (300:Int)<(mm:Int):=by omega
    have HF:Hid (q6t (btL s)=0∧z8b (btL s)=0):=j0m (by rw [q0b];exact hsz) HX.out.1 (by rw [HL.out.2];exact h300)
    go_wp2
    refine bodyPost_ret (v:=.tuple #[.slice A dn.length ac,.slice P dn.length pc,.int .i64 0,.nilIface]) (by simp [results,Tryz.results48,go_sem]) rfl ?_
    refine ⟨.inr ⟨HF.out.1,A,P,ac,pc,by rw [HL.out.1],k3l (B:=w1.heap.size) ?_ (by rw [HBK.out];omega),k3l (B:=w1.heap.size) ?_ (by rw [HBK.out];omega)⟩,by rw [HBK.out];exact HBr.out⟩
    ·show wr.ownsRow _ _ _ _ _ _
     rw [List.length_map,HL.out.1,q2u,HX.out.2,List.map_map]
     exact HR.out.ws
    ·show wr.ownsRow _ _ _ _ _ _
     rw [←j4i,HL.out.1,z6v,HX.out.2]
     exact HR.out.ps
theorem j4h (s:ByteArray) (w:World):Calls Tryz.prog 48 #[.string s] w fun e w'=>z4s s w e w'∧Below w.heap.size w w':=by
 by_cases h:(btL s).length≤60000
 ·exact k1s s w h
 ·have HF:Hid (q6t (btL s)=3∧z8b (btL s)=0):=j0k (by omega)
  have hsz:60000<(s.size:Int):=by rw [q0b] at h;omega
  clear h
  go_enter Tryz.func48,Tryz.ntmps48
  go_wp2
  refine bodyPost_ret (v:=.tuple #[.slice none 0 0,.slice none 0 0,.int .i64 0,.iface 24 (.int .i64 3)]) (by simp [results,Tryz.results48,go_sem]) rfl ?_
  exact ⟨.inl ⟨by rw [HF.out.1];decide,by rw [HF.out.1,HF.out.2,k2o];rfl⟩,Below.refl _ _⟩
end Go.Proofs.YtchdplceopegoaaGreatDoor
