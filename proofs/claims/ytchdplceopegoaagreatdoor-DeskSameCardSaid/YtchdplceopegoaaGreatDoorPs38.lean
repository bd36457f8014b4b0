/- Texts as one: LexW. -/
import Derived.Test.YtchdplceopegoaaGreatDoorPs36
import Derived.Test.YtchdplceopegoaaGreatDoorPs37
namespace Go.Proofs.YtchdplceopegoaaGreatDoor
open Go Go.RowKit
set_option maxRecDepth 100000
set_option maxHeartbeats 4000000
theorem q7j (s:ByteArray) (w:World) (h:s.size≤281474976710656) :
  Calls Tryz.prog 77 #[.string s] w fun e w'=>e = .returned (.string s)∧Below w.heap.size w w':=by
 go_enter Tryz.func77,Tryz.ntmps77
 go_wp2_with fail
 refine (clone_sh s _ h).mono ?_
 rintro e w2 ⟨rfl,hb⟩
 go_wp2
 go_ret
 exact ⟨rfl,hb⟩
theorem v3w (c:UInt8):(btL (⟨#[32,10]⟩:ByteArray)).any (· == c)=spB c:=by
 show ((32 == c) || ((10 == c) || false))=(c == 32 || c == 10)
 rw [Bool.or_false,BEq.comm (a:=(32:UInt8)),BEq.comm (a:=(10:UInt8))]
theorem q3t.later {s:ByteArray} {w:World} {i:Nat} {dn:List (Nat × List UInt8)} {A P:Option Addr} {ac pc:Nat} {wr wr':World} (h:q3t s w i dn A P ac pc wr) (hb:Below wr.heap.size wr wr'):q3t s w i dn A P ac pc wr':=
 { b:=h.b.trans (hb.mono h.b.size),le:=h.le,ln:=h.ln,eq:=h.eq,ws:=q1w h.ws hb,ps:=q1w h.ps hb }
theorem y0n {s:ByteArray} {k:Nat} (h:k<s.size):0<(s.extract k s.size).size∧∀ h0:0<(s.extract k s.size).size,(s.extract k s.size)[0]=s[k]:=by
 have h1:0<(s.extract k s.size).size:=by rw [ByteArray.size_extract];omega
 refine ⟨h1,fun h0=>?_⟩
 have e1:=q5j h0
 rw [k3t,q1s h,List.cons.injEq] at e1
 exact e1.1.symm
theorem j2h {s:ByteArray} {k:Nat} (h:k<s.size) (hs:s.size≤60000) (hsp:spB s[k]=false) (W:World) :
  Calls Tryz.prog 76 #[.string (s.extract k s.size)] W fun e w'=>e = .returned (.tuple #[.string (wbS (tkW ((btL s).drop k))),.bool (tOk s k)])∧Below W.heap.size W w':=by
 obtain ⟨h1,h2⟩:=y0n h
 have:=j0r (s.extract k s.size) W h1 (by rw [ByteArray.size_extract];omega) (by rw [h2 h1];exact hsp)
 unfold z0f at this
 rw [k3t] at this
 exact this
theorem v9h {l:List UInt8} {c:UInt8} {z:List UInt8} (h:l=c::z) (h0:0<(wbS l).size):(wbS l)[0]=c:=by
 subst h;rfl
theorem j6f {s:ByteArray} {k:Nat} (h:k<s.size) (hsp:spB s[k]=false):0<(wbS (tkW ((btL s).drop k))).size∧∀ h0:0<(wbS (tkW ((btL s).drop k))).size,(wbS (tkW ((btL s).drop k)))[0]=s[k]:=by
 have h1:∃ z,tkW ((btL s).drop k)=s[k]::z:=by
  rw [tkW,q1s h]
  have hp:=q4g s[k] ((btL s).drop (k+1))
  obtain ⟨m,hm⟩:∃ m,q0o (s[k]::(btL s).drop (k+1))=m+1:=⟨_,(Nat.sub_add_cancel hp).symm⟩
  rw [hm,List.take_succ_cons]
  exact z1g (k7g hsp) _
 obtain ⟨z,hz⟩:=h1
 exact ⟨by rw [q3h,hz];simp,fun h0=>v9h hz h0⟩
theorem q3t.next {s:ByteArray} {w:World} {i:Nat} {dn:List (Nat × List UInt8)} {A P:Option Addr} {ac pc:Nat} {wr:World} (h:q3t s w i dn A P ac pc wr) (hi:i<s.size) (hs:spB s[i]=false) (ho:tOk s i=true) {A' P':Option Addr} {ac' pc':Nat} {w':World} (hb:Below w.heap.size w w')
  (h1:w'.ownsRow w.heap.size 9 1 (.slice A' (dn.length+1) ac') (dn.length+1) (strCells (dn.map fun x=>wbS x.2)++[.string (wbS (tkW ((btL s).drop i)))])) (h2:w'.ownsRow w.heap.size 3 1 (.slice P' (dn.length+1) pc') (dn.length+1) (q1v (dn.map (·.1))++[.int .i64 (i:Int)])) :
  q3t s w (i+(tkW ((btL s).drop i)).length) (dn++[(i,tkW ((btL s).drop i))]) A' P' ac' pc' w':=by
 have hn:=h.word hi hs ho hb h1 h2
 have hp:1≤(tkW ((btL s).drop i)).length:=by
  rw [tOk,q1s hi] at ho
  rw [q1s hi]
  exact v8z hs ho
 have hle:(tkW ((btL s).drop i)).length+i≤s.size:=by
  have:=z1f ((btL s).drop i)
  rw [List.length_drop,q0b] at this
  omega
 have e:=hn.eq
 have es:=j9o ((btL s).drop i) i
 rw [List.drop_drop,List.drop_drop] at es
 refine { b:=hn.b,le:=by omega,ln:=by have:=h.ln;simp;omega,eq:=?_,ws:=hn.ws,ps:=hn.ps }
 rw [e,lxW,lxF,lxW,lxF,es]
 rfl
theorem k4s {w:World} {B B' e size n:Nat} {v:Value} {xs:List Value} (h:w.ownsRow B e size v n xs) (hB:B'≤B):w.ownsRow B' e size v n xs:=by
 refine ⟨h.1,?_⟩
 rcases h.2 with h0 | ⟨g,c,cur,hv,hg,rest⟩
 ·exact .inl h0
 ·exact .inr ⟨g,c,cur,hv,by omega,rest⟩
def z5t (s:ByteArray) (w:World) (e:Ending) (w':World):Prop:=
 (q6d (btL s)≠0∧e = .returned (.tuple #[.slice none 0 0,.slice none 0 0,.int .i64 ((z9b (btL s):Nat):Int),q1f (q6d (btL s))]))∨
 (q6d (btL s)=0∧∃ A P ac pc,e = .returned (.tuple #[.slice A (q2x (btL s)).length ac,.slice P (q2x (btL s)).length pc,.int .i64 0,.nilIface])∧q1x w.heap.size (.slice A (q2x (btL s)).length ac) ((q2x (btL s)).map wbS) w'∧z2l w.heap.size (.slice P (q2x (btL s)).length pc) (z7v (btL s)) w')
theorem k2w (s:ByteArray) (w:World) (hl:(btL s).length≤60000):Calls Tryz.prog 48 #[.string s] w fun e w'=>z5t s w e w'∧Below w.heap.size w w':=by
 have hsz:s.size≤60000:=by rw [←q0b];exact hl
 clear hl
 have hszi:¬ 60000<(s.size:Int):=by omega
 go_enter Tryz.func48,Tryz.ntmps48
 go_wp2_with fail
 refine (z9t _ _).mono ?_
 rintro e w1 ⟨rfl,hw1⟩
 have HO:Hid (z0h w1 w.heap.size ⟨#[32,10]⟩):=by rw [hw1];exact z0h.new _ _
 have HB1:Hid (Below w.heap.size w w1):=by rw [hw1];exact (Below.refl _ _).alloc (Nat.le_refl _) _
 have hs1:=HO.out.1
 generalize hbk:w.heap.size=bk at HO HB1 hs1 ⊢
 have HBK:Hid (w.heap.size=bk):=hbk
 clear hw1 hbk
 go_wp2_with fail
 go_loopw [2,3,7,8] (fun x p m i wr=>∃ (k:Nat) (dn:List (Nat × List UInt8)) (A P:Option Addr) (ac pc:Nat),x = .slice A dn.length ac∧p = .slice P dn.length pc∧m = .int .i64 ((many (dn.map (·.2)):Nat):Int)∧i = .int .i64 (k:Int)∧q3t s w1 k dn A P ac pc wr) (fun _ _ _ i _=>s.size - (intOf i).toNat)
 case atStart=>exact ⟨0,[],none,none,0,0,rfl,rfl,rfl,rfl,{ b:=Below.refl _ _,le:=Nat.zero_le _,ln:=Nat.le_refl _,eq:=rfl,ws:=World.ownsRow_nil _ _ _ _,ps:=World.ownsRow_nil _ _ _ _ }⟩
 case round=>
  obtain ⟨k,dn,A,P,ac,pc,rfl,rfl,rfl,rfl,hR⟩:=hrel
  have HR:Hid (q3t s w1 k dn A P ac pc wr):=hR
  have HOr:Hid (z0h wr bk ⟨#[32,10]⟩):=HO.out.below hs1 hR.b
  have HBr:Hid (Below bk w wr):=HB1.out.trans (hR.b.mono (Nat.le_of_lt hs1))
  have hle:=hR.le
  have hln:=hR.ln
  have hmn:many (dn.map (·.2))≤60000:=by
   have h1:many (dn.map (·.2))≤(dn.map (·.2)).length:=List.length_filter_le _ _
   rw [List.length_map] at h1
   omega
  clear hR
  generalize hmm:many (dn.map (·.2))=mm at hmn
  have HMM:Hid (many (dn.map (·.2))=mm):=hmm
  clear hmm
  by_cases hlt:k<s.size
  ·have hki:(k:Int)<(s.size:Int):=by omega
   cases hs:spB s[k] with
   | true=>
    have HN:Hid (q3t s w1 (k+1) dn A P ac pc wr):=HR.out.space hlt hs
    have HP:=(show Hid (_=_) from v3w s[k])
    go_wp2_with fail
    refine (q7o s[k] HOr.out).mono ?_
    rintro e w2 ⟨rfl,rfl⟩
    rw [HP.out,hs]
    clear hs
    go_wp2
    go_roundw
    case rel=>exact ⟨k+1,dn,A,P,ac,pc,rfl,rfl,by rw [HMM.out],by go_num,HN.out⟩
    case measure=>simp [intOf];omega
   | false=>
    have HP:=(show Hid (_=_) from v3w s[k])
    have HS:Hid (spB s[k]=false):=hs
    have hkm:(k:Int)≤(s.size:Int):=by omega
    clear hs
    go_wp2_with fail
    refine (q7o s[k] HOr.out).mono ?_
    rintro e w2 ⟨rfl,rfl⟩
    rw [HP.out,HS.out]
    go_wp2_with fail
    refine (j2h hlt hsz HS.out _).mono ?_
    rintro e w2 ⟨rfl,hb2⟩
    have HR2:Hid (q3t s w1 k dn A P ac pc w2):=HR.out.later hb2
    have HB2:Hid (Below bk w w2):=HB1.out.trans (HR2.out.b.mono (Nat.le_of_lt hs1))
    clear HR HBr HOr hb2
    cases hok:tOk s k with
    | false=>
     have HF:Hid (q6d (btL s)=5∧z9b (btL s)=k):=j9e (by rw [q0b];exact hsz) (j2c HR2.out hlt HS.out hok)
     generalize hu:wbS (tkW ((btL s).drop k))=u
     clear hok hu
     go_wp2
     refine bodyPost_ret (v:=.tuple #[.slice none 0 0,.slice none 0 0,.int .i64 (k:Int),.iface 24 (.int .i64 5)]) (by simp [results,Tryz.results48,go_sem]) rfl ?_
     exact ⟨.inl ⟨by rw [HF.out.1];decide,by rw [HF.out.1,HF.out.2,v2s]⟩,by rw [HBK.out];exact HB2.out⟩
    | true=>
     have HOK:Hid (tOk s k=true):=hok
     obtain ⟨hu0,hu1⟩:=j6f hlt HS.out
     have hus:(wbS (tkW ((btL s).drop k))).size+k≤s.size:=by
      have:=z1f ((btL s).drop k)
      rw [List.length_drop,q0b] at this
      rw [q3h]
      omega
     have HMY:Hid (many (dn.map (·.2)++[tkW ((btL s).drop k)])=mm+(if s[k] != 35 then 1 else 0)):=by
      show _=_
      rw [q9l,HMM.out,j9r hlt HS.out]
     have HUZ:Hid ((tkW ((btL s).drop k)).length=(wbS (tkW ((btL s).drop k))).size):=(q3h _).symm
     generalize hW:tkW ((btL s).drop k)=W at HMY HUZ hu0 hu1 hus ⊢
     have HW:Hid (tkW ((btL s).drop k)=W):=hW
     generalize hu:wbS W=u at HUZ hu0 hu1 hus ⊢
     have HU:Hid (wbS W=u):=hu
     have hu0i:(0:Int)<(u.size:Int):=by omega
     clear hok hW hu
     cases hn:(s[k] != 35) with
     | true=>
      have hni:((u[0].toNat:Int) != 35)=true:=by
       rw [hu1 hu0]
       show (!((s[k].toNat:Int) == 35))=true
       rw [show (35:Int)=((35:Nat):Int) from rfl,k7r _ 35 (by decide)]
       exact hn
      have HMW:Hid (many ((dn++[(k,W)]).map (·.2))=mm+1):=by
       show _=_
       rw [List.map_append]
       have:=HMY.out
       rw [hn] at this
       exact this
      clear hn hu1 HMY
      go_wp2_with fail
      refine (q7j u _ (by omega)).mono ?_
      rintro e w3 ⟨rfl,hb3⟩
      have HR3:Hid (q3t s w1 k dn A P ac pc w3):=HR2.out.later hb3
      have hsr:=HR3.out.b.size
      clear HR2 HB2 hb3
      obtain ⟨i0,hi0,hz0,hz1,hz2⟩:=info_parts z5j
      go_wp2_with (at_builtin;refine wpList_append_lies _ rfl _ _ 51 rfl w1.heap.size 9 i0 _ 1 16 Tryz.underlying51 hi0 hz0 hz1 hz2 rfl (by decide) _ _ _ rfl (World.ownsRow.alloc HR3.out.ws _) ⟨w3.heap.size,0,none⟩ 1 1 [.string u] rfl rfl (cell_one_new w3 _ _) (by intro u hu;simp at hu;subst hu;rfl) (by decide) (by unfold maxLen;omega) (by omega) (by simp;omega) (w3.heap.size+1) (by simp) ?_)
      intro g2 cap2 w4 hown2 hgrow2 hat2 hlt2
      have hb2:=(HR3.out.b.alloc (by omega) (.cells #[.string u] 9)).grown hgrow2 (by simp;omega) (fun j hj=>(World.ownsRow.lt HR3.out.ws j hj).1)
      have HB2:=(show Hid (Below _ _ _) from hb2)
      have HP2:Hid (w4.ownsRow w1.heap.size 3 1 (.slice P dn.length pc) dn.length (q1v (dn.map (·.1)))):=z7g (World.ownsRow.alloc HR3.out.ps _) (World.ownsRow.alloc HR3.out.ws _) (by decide) hgrow2
      have HW2:=(show Hid (w4.ownsRow _ _ _ _ _ _) from hown2)
      have hs2:=hb2.size
      clear hown2 hgrow2 hb2 hat2 hlt2
      obtain ⟨i1,hi1,hy0,hy1,hy2⟩:=info_parts z4t
      go_wp2_with (at_builtin;refine wpList_append_lies _ rfl _ _ 63 rfl w1.heap.size 3 i1 _ 1 8 Tryz.underlying63 hi1 hy0 hy1 hy2 rfl (by decide) _ _ _ rfl (World.ownsRow.alloc HP2.out _) ⟨w4.heap.size,0,none⟩ 1 1 [.int .i64 (k:Int)] rfl rfl (cell_one_new w4 _ _) (by intro u hu;simp at hu;subst hu;rfl) (by decide) (by unfold maxLen;omega) (by omega) (by simp;omega) (w4.heap.size+1) (by simp) ?_)
      intro g3 cap3 w5 hown3 hgrow3 hat3 hlt3
      have hb3:=(HB2.out.alloc (by omega) (.cells #[.int .i64 (k:Int)] 3)).grown hgrow3 (by simp;omega) (fun j hj=>(World.ownsRow.lt HP2.out j hj).1)
      have hW3:=z7g (World.ownsRow.alloc HW2.out _) (World.ownsRow.alloc HP2.out _) (by decide) hgrow3
      have HN:Hid (q3t s w1 (k+u.size) (dn++[(k,W)]) (some ⟨g2,0,none⟩) (some ⟨g3,0,none⟩) cap2 cap3 w5):=by
       show q3t _ _ _ _ _ _ _ _ _
       rw [←HUZ.out,←HW.out]
       refine HR3.out.next hlt HS.out HOK.out hb3 ?_ ?_
       ·rw [HW.out,HU.out];exact hW3
       ·exact hown3
      clear hown3 hgrow3 hat3 hlt3 hb3 hW3
      go_wp2
      go_roundw
      case rel=>exact ⟨k+u.size,dn++[(k,W)],some ⟨g2,0,none⟩,some ⟨g3,0,none⟩,cap2,cap3,by rw [List.length_append];rfl,by rw [List.length_append];rfl,by rw [HMW.out];go_num,by go_num,HN.out⟩
      case measure=>simp [intOf];omega
     | false=>
      have hni:((u[0].toNat:Int) != 35)=false:=by
       rw [hu1 hu0]
       show (!((s[k].toNat:Int) == 35))=false
       rw [show (35:Int)=((35:Nat):Int) from rfl,k7r _ 35 (by decide)]
       exact hn
      have HMW:Hid (many ((dn++[(k,W)]).map (·.2))=mm):=by
       show _=_
       rw [List.map_append]
       have:=HMY.out
       rw [hn] at this
       exact this
      clear hn hu1 HMY
      go_wp2_with fail
      refine (q7j u _ (by omega)).mono ?_
      rintro e w3 ⟨rfl,hb3⟩
      have HR3:Hid (q3t s w1 k dn A P ac pc w3):=HR2.out.later hb3
      have hsr:=HR3.out.b.size
      clear HR2 HB2 hb3
      obtain ⟨i0,hi0,hz0,hz1,hz2⟩:=info_parts z5j
      go_wp2_with (at_builtin;refine wpList_append_lies _ rfl _ _ 51 rfl w1.heap.size 9 i0 _ 1 16 Tryz.underlying51 hi0 hz0 hz1 hz2 rfl (by decide) _ _ _ rfl (World.ownsRow.alloc HR3.out.ws _) ⟨w3.heap.size,0,none⟩ 1 1 [.string u] rfl rfl (cell_one_new w3 _ _) (by intro u hu;simp at hu;subst hu;rfl) (by decide) (by unfold maxLen;omega) (by omega) (by simp;omega) (w3.heap.size+1) (by simp) ?_)
      intro g2 cap2 w4 hown2 hgrow2 hat2 hlt2
      have hb2:=(HR3.out.b.alloc (by omega) (.cells #[.string u] 9)).grown hgrow2 (by simp;omega) (fun j hj=>(World.ownsRow.lt HR3.out.ws j hj).1)
      have HB2:=(show Hid (Below _ _ _) from hb2)
      have HP2:Hid (w4.ownsRow w1.heap.size 3 1 (.slice P dn.length pc) dn.length (q1v (dn.map (·.1)))):=z7g (World.ownsRow.alloc HR3.out.ps _) (World.ownsRow.alloc HR3.out.ws _) (by decide) hgrow2
      have HW2:=(show Hid (w4.ownsRow _ _ _ _ _ _) from hown2)
      have hs2:=hb2.size
      clear hown2 hgrow2 hb2 hat2 hlt2
      obtain ⟨i1,hi1,hy0,hy1,hy2⟩:=info_parts z4t
      go_wp2_with (at_builtin;refine wpList_append_lies _ rfl _ _ 63 rfl w1.heap.size 3 i1 _ 1 8 Tryz.underlying63 hi1 hy0 hy1 hy2 rfl (by decide) _ _ _ rfl (World.ownsRow.alloc HP2.out _) ⟨w4.heap.size,0,none⟩ 1 1 [.int .i64 (k:Int)] rfl rfl (cell_one_new w4 _ _) (by intro u hu;simp at hu;subst hu;rfl) (by decide) (by unfold maxLen;omega) (by omega) (by simp;omega) (w4.heap.size+1) (by simp) ?_)
      intro g3 cap3 w5 hown3 hgrow3 hat3 hlt3
      have hb3:=(HB2.out.alloc (by omega) (.cells #[.int .i64 (k:Int)] 3)).grown hgrow3 (by simp;omega) (fun j hj=>(World.ownsRow.lt HP2.out j hj).1)
      have hW3:=z7g (World.ownsRow.alloc HW2.out _) (World.ownsRow.alloc HP2.out _) (by decide) hgrow3
      have HN:Hid (q3t s w1 (k+u.size) (dn++[(k,W)]) (some ⟨g2,0,none⟩) (some ⟨g3,0,none⟩) cap2 cap3 w5):=by
       show q3t _ _ _ _ _ _ _ _ _
       rw [←HUZ.out,←HW.out]
       refine HR3.out.next hlt HS.out HOK.out hb3 ?_ ?_
       ·rw [HW.out,HU.out];exact hW3
       ·exact hown3
      clear hown3 hgrow3 hat3 hlt3 hb3 hW3
      go_wp2
      go_roundw
      case rel=>exact ⟨k+u.size,dn++[(k,W)],some ⟨g2,0,none⟩,some ⟨g3,0,none⟩,cap2,cap3,by rw [List.length_append];rfl,by rw [List.length_append];rfl,by rw [HMW.out],by go_num,HN.out⟩
      case measure=>simp [intOf];omega
  ·have hki:¬ (k:Int)<(s.size:Int):=by omega
   have HX:Hid (lxF (btL s) 0=none∧lxW (btL s) 0=dn):=j2d HR.out hlt
   have HL:Hid ((q2x (btL s)).length=dn.length∧many (q2x (btL s))=mm):=by
    refine ⟨?_,?_⟩
    ·rw [q2x,HX.out.2,List.length_map]
    ·rw [q2x,HX.out.2];exact HMM.out
   by_cases h300:300<mm
   ·have hmi:(300:Int)<(mm:Int):=by omega
    have HF:Hid (q6d (btL s)=3∧z9b (btL s)=0):=j2a (by rw [q0b];exact hsz) HX.out.1 (by rw [HL.out.2];exact h300)
    go_wp2
    refine bodyPost_ret (v:=.tuple #[.slice none 0 0,.slice none 0 0,.int .i64 0,.iface 24 (.int .i64 3)]) (by simp [results,Tryz.results48,go_sem]) rfl ?_
    exact ⟨.inl ⟨by rw [HF.out.1];decide,by rw [HF.out.1,HF.out.2,k3s];rfl⟩,by rw [HBK.out];exact HBr.out⟩
   ·have hmi:¬ (300:Int)<(mm:Int):=by omega
    have HF:Hid (q6d (btL s)=0∧z9b (btL s)=0):=j2b (by rw [q0b];exact hsz) HX.out.1 (by rw [HL.out.2];exact h300)
    go_wp2
    refine bodyPost_ret (v:=.tuple #[.slice A dn.length ac,.slice P dn.length pc,.int .i64 0,.nilIface]) (by simp [results,Tryz.results48,go_sem]) rfl ?_
    refine ⟨.inr ⟨HF.out.1,A,P,ac,pc,by rw [HL.out.1],k4s (B:=w1.heap.size) ?_ (by rw [HBK.out];omega),k4s (B:=w1.heap.size) ?_ (by rw [HBK.out];omega)⟩,by rw [HBK.out];exact HBr.out⟩
    ·show wr.ownsRow _ _ _ _ _ _
     rw [List.length_map,HL.out.1,q2x,HX.out.2,List.map_map]
     exact HR.out.ws
    ·show wr.ownsRow _ _ _ _ _ _
     rw [←j6i,HL.out.1,z7v,HX.out.2]
     exact HR.out.ps
theorem j6h (s:ByteArray) (w:World):Calls Tryz.prog 48 #[.string s] w fun e w'=>z5t s w e w'∧Below w.heap.size w w':=by
 by_cases h:(btL s).length≤60000
 ·exact k2w s w h
 ·have HF:Hid (q6d (btL s)=3∧z9b (btL s)=0):=j1z (by omega)
  have hsz:60000<(s.size:Int):=by rw [q0b] at h;omega
  clear h
  go_enter Tryz.func48,Tryz.ntmps48
  go_wp2
  refine bodyPost_ret (v:=.tuple #[.slice none 0 0,.slice none 0 0,.int .i64 0,.iface 24 (.int .i64 3)]) (by simp [results,Tryz.results48,go_sem]) rfl ?_
  exact ⟨.inl ⟨by rw [HF.out.1];decide,by rw [HF.out.1,HF.out.2,k3s];rfl⟩,Below.refl _ _⟩
end Go.Proofs.YtchdplceopegoaaGreatDoor
