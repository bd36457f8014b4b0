/- Texts as one: FilE, FilF, TreH, SyO, PgP. -/
import Derived.Test.YthjapabokcajhaaGreatDoorPf06
import Derived.BigQuiet
import Derived.Deep.QuietTactic
import Derived.Test.YthjapabokcajhaaGreatDoorShf
import Derived.Test.YthjapabokcajhaaGreatDoorPf05
import Derived.Test.YthjapabokcajhaaGreatDoorPf02
import Derived.Test.YthjapabokcajhaaGreatDoorPf03
namespace Go.Proofs.YthjapabokcajhaaGreatDoor
open Go Go.RowKit
set_option maxRecDepth 100000
set_option maxHeartbeats 4000000
theorem v1z{i q n:Nat}(h:i+q<=n):((i:Int)+(q:Int)==(n:Int))=(q==n-i):=by
 by_cases e:q=n-i
 ·rw[beq_iff_eq.2 e,beq_iff_eq.2 (by omega)]
 ·rw[beq_false_of_ne e,beq_false_of_ne (by omega)]
theorem j3d{ws:List ByteArray}{i q:Nat}(h1:1<=q)(h2:i+q<=ws.length):((ws.drop i).take q).length=q/\(ws.drop i).take q≠[]:=by
 have e:((ws.drop i).take q).length=q:=by rw[List.length_take,List.length_drop];omega
 exact⟨e,fun h=>by rw[h]at e;simp at e;omega⟩
theorem j6f{ws:List ByteArray}{b0 o0:Nat}{w wr:World}(hW:Wds w (some ⟨b0,o0,none⟩) ws)(hF:Few ws)(hb:Below w.heap.size w wr)(i q c n:Nat)(h1:1<=q)(h2:i+q<=ws.length):
  Calls Tryz.prog 158 #[.slice (some ⟨b0,o0+i,none⟩) q c] (wr.drewN n) fun e w'=>e=.returned (.int .i64 (ln ((ws.drop i).take q)))/\wr.drewN n=w':=
 j2i q _ (j3d h1 h2).1 _ c _ (j3d h1 h2).2 ((hF.drop i).take q) (Wds.below ((z0h.drop hW i).take q) (q2u hb n))
theorem k4y{wd:Nat}{ws:List ByteArray}{bL bF i q bv sv nq:Nat}{w:World}(h:Mid wd ws bL bF i (q-1) w)(hi:i<ws.length)(hq:1<=q)(ho:fOf wd (ws.drop i) q=bv+sv)(h1:q=1\/bv+sv<=z0i (fOf wd (ws.drop i)) (q-1)):
  Mid wd ws bL bF i (q+1-1) (((w.drewN nq).setCell ⟨bL,i,none⟩ (.int .i64 ((bv:Int)+(sv:Int)))).setCell ⟨bF,i,none⟩ (.int .i64 (q:Int))):=by
 obtain⟨m,rfl⟩:∃m,q=m+1:=⟨q-1,by omega⟩;simp only[Nat.add_sub_cancel]at h h1⊢;have hk:Mid wd ws bL bF i m (w.drewN nq):=h.kept rfl rfl
 have:=hk.put hi (by rw[ho];omega)
 rw[ho]at this;have e1:((bv+sv:Nat):Int)=(bv:Int)+(sv:Int):=by omega
 have e2:((m+1:Nat):Int)=(m:Int)+1:=by omega
 rw[e1]at this;rw[e2];exact this
theorem j0r{wd:Nat}{ws:List ByteArray}{bL bF i q nq:Nat}{w:World}(h:Mid wd ws bL bF i (q-1) w)(hq:1<=q)(h1:¬fOf wd (ws.drop i) q<=z0i (fOf wd (ws.drop i)) (q-1))(h2:¬q=1):Mid wd ws bL bF i (q+1-1) (w.drewN nq):=by
 obtain⟨m,rfl⟩:∃m,q=m+1:=⟨q-1,by omega⟩;simp only[Nat.add_sub_cancel]at h h1⊢;have hk:Mid wd ws bL bF i m (w.drewN nq):=h.kept rfl rfl;exact hk.skip (by omega)
theorem z4k(ws:List ByteArray)(a:Option Addr)(cap wd:Nat)(w:World)(hc:ws.length<=cap)(hF:Few ws)(hw:wd<=100)(hW:Wds w a ws):
  Calls Tryz.prog 105 #[.slice a ws.length cap,.int .i64 wd] w fun e w'=>(∃A c,e=.returned (.slice A (q7s wd ws).length c)/\z9p w.heap.size (.slice A (q7s wd ws).length c) (q7s wd ws) w')/\Below w.heap.size w w':=by
 have hl:=hF.1;have HW:Hid (Wds w a ws):=hW;have HF:Hid (Few ws):=hF
 have hm1:∀W:World,(Instr.makeSlice 45 (.int .i64 ((ws.length:Int)+1)) (.int .i64 ((ws.length:Int)+1))).run Tryz.prog W=.ok (.slice (some ⟨W.heap.size,0,none⟩) (ws.length+1) (ws.length+1)) (W.alloc (.cells (madeCells #[.int .i64 0] (ws.length+1)) 3)):=fun W=>by
  have:=run_make_row' 45 3 _ 8 Tryz.underlying45 k4c rfl .i64 .i64 (ws.length+1) (by omega) (by omega) W
  have e:((ws.length+1:Nat):Int)=(ws.length:Int)+1:=by omega
  rw[e]at this;exact this
 have hm2:∀W:World,(Instr.makeSlice 45 (.int .i64 (ws.length:Int)) (.int .i64 (ws.length:Int))).run Tryz.prog W=.ok (.slice (some ⟨W.heap.size,0,none⟩) ws.length ws.length) (W.alloc (.cells (madeCells #[.int .i64 0] ws.length) 3)):=fun W=>
  run_make_row' 45 3 _ 8 Tryz.underlying45 k4c rfl .i64 .i64 ws.length (by omega) (by omega) W
 have HM:Hid (Lst wd ws w.heap.size (w.heap.size+1) ws.length ((w.alloc (.cells (madeCells #[.int .i64 0] (ws.length+1)) 3)).alloc (.cells (madeCells #[.int .i64 0] ws.length) 3))):=Lst.made wd ws w;clear hW hF;go_in;go_wp2
 go_loopw [7] (fun i wr=>Below w.heap.size w wr/\∃k:Nat,k<=ws.length/\i=.int .i64 ((k:Int)-1)/\Lst wd ws w.heap.size (w.heap.size+1) k wr) (fun i _=>(intOf i+1).toNat)
 case atStart=>exact⟨((Below.refl _ w).alloc (Nat.le_refl _) _).alloc (by simp) _,ws.length,Nat.le_refl _,by go_num,HM.out⟩
 case round=>
  obtain⟨hb,k,hk,rfl,hL⟩:=hrel;have HB:Hid (Below w.heap.size w wr):=hb;have HL:Hid (Lst wd ws w.heap.size (w.heap.size+1) k wr):=hL;clear hb hL;by_cases hk0:k=0
  ·subst hk0;have hneg:¬((0:Int)<=((0:Nat):Int)-1):=by omega
   have hwr:w.heap.size+2<=wr.heap.size:=HL.out.rf.lt;go_wp2
   go_loopw [10,11] (fun l i wx=>Below (w.heap.size+2) wr wx/\∃(k:Nat)(ks:List Nat)(A:Option Addr)(c:Nat),k<=ws.length/\ks.length<=k/\i=.int .i64 (k:Int)/\l=.slice A ks.length c/\z9p (w.heap.size+2) (.slice A ks.length c) ks wx/\q7s wd ws=ks++q7s wd (ws.drop k)) (fun _ i _=>ws.length-(intOf i).toNat)
   case atStart=>exact⟨Below.refl _ _,0,[],none,0,Nat.zero_le _,Nat.le_refl _,rfl,rfl,World.ownsRow_nil _ _ _ _,rfl⟩
   case round=>
    rename_i wo0 wo1 wo2;obtain⟨hbx,k,ks,A,c,hk1,hk2,rfl,rfl,hO,hcut⟩:=hrel;have HBx:Hid (Below (w.heap.size+2) _ wr):=hbx;have HO:Hid (z9p (w.heap.size+2) (.slice A ks.length c) ks wr):=hO;have HC:Hid (q7s wd ws=ks++q7s wd (ws.drop k)):=hcut;have HLx:Hid (Lst wd ws w.heap.size (w.heap.size+1) 0 wr):=HL.out.kept (hbx.block _ (by omega)) (hbx.block _ (by omega));have hsx:=hbx.size;clear hbx hO hcut;by_cases hlt:k<ws.length
    ·have hki:(k:Int)<(ws.length:Int):=by omega
     have hdn:ws.drop k≠[]:=fun e=>by
      have:=congrArg List.length e
      rw[List.length_drop,List.length_nil]at this;omega
     have c1:=HLx.out.cf k (Nat.zero_le _) hlt
     have HC2:Hid (q7s wd ws=(ks++[agF wd (ws.drop k)])++q7s wd (ws.drop (k+agF wd (ws.drop k)))):=by
      show q7s wd ws=_;rw[HC.out,q3n wd hdn,List.drop_drop,List.append_assoc];rfl
     obtain⟨hg1,hg2⟩:=q5v wd hdn;rw[List.length_drop]at hg2;have HCF:Hid (∀W:World,Lst wd ws w.heap.size (w.heap.size+1) 0 W->W.cell? ⟨w.heap.size+1,k,none⟩=some (.int .i64 ((agF wd (ws.drop k):Nat):Int))):=fun W h=>h.cf k (Nat.zero_le _) hlt
     generalize agF wd (ws.drop k)=av at c1 HC2 hg1 hg2 HCF;clear hdn;obtain⟨i0,hi0,hz0,hz1,hz2⟩:=info_parts k4c;go_wp2_with(at_builtin;refine wpList_append_lies _ rfl _ _ 45 rfl (w.heap.size+2) 3 i0 _ 1 8 Tryz.underlying45 hi0 hz0 hz1 hz2 rfl (by decide) _ _ _ rfl (World.ownsRow.alloc HO.out _) ⟨wr.heap.size,0,none⟩ 1 1 [.int .i64 (av:Int)] rfl rfl (cell_one_new wr _ _) (by intro u hu;simp at hu;subst hu;rfl) (by decide) (by unfold maxLen;omega) (by omega) (by simp;omega) (wr.heap.size+1) (by simp) ?_);intro g2 cap2 w2 hown2 hgrow2 hat2 hlt2;have hb2:=(HBx.out.alloc (by omega) (.cells #[.int .i64 (av:Int)] 3)).grown hgrow2 (by simp;omega) (fun j hj=>(World.ownsRow.lt HO.out j hj).1);have HB2:=(show Hid (Below _ _ _)from hb2);have c2:=HCF.out w2 (HL.out.kept (hb2.block _ (by omega)) (hb2.block _ (by omega)))
     have HO2:Hid (z9p (w.heap.size+2) (.slice (some ⟨g2,0,none⟩) (ks.length+1) cap2) (ks++[av]) w2):=by
      show w2.ownsRow _ _ _ _ _ _;rw[z4y,List.length_append];exact hown2
     clear hown2 hgrow2 hb2 hat2 hlt2;go_wp2
     go_roundw
     case rel=>exact⟨HB2.out,k+av,ks++[av],some ⟨g2,0,none⟩,cap2,by omega,by simp;omega,by go_num,by rw[List.length_append];rfl,by rw[List.length_append];exact HO2.out,HC2.out⟩
     case measure=>simp[intOf];omega
    ·have hke:¬(k:Int)<(ws.length:Int):=by omega
     have HE:Hid (q7s wd ws=ks):=by
      show q7s wd ws=ks;rw[HC.out,List.drop_eq_nil_of_le (by omega),q4b,List.append_nil]
     go_wp2;go_ret;rw[HE.out];exact⟨⟨A,c,rfl,Joins.ownsRow_le HO.out (by omega)⟩,HB.out.trans (HBx.out.mono (by omega))⟩
  ·obtain⟨i,rfl⟩:∃i,k=i+1:=⟨k-1,by omega⟩;have hki:(((i+1:Nat):Int)-1)=(i:Int):=by omega
   rw[hki];have hi:i<ws.length:=by omega
   clear hki hk0;go_wp2
   go_loopw [8] (fun n wx=>Below w.heap.size w wx/\∃q:Nat,1<=q/\i+q<=ws.length+1/\n=.int .i64 (q:Int)/\Mid wd ws w.heap.size (w.heap.size+1) i (q-1) wx) (fun n _=>(ws.length+1-(intOf n).toNat))
   case atStart=>exact⟨HB.out,1,by omega,by omega,by go_num,Mid.start HL.out⟩
   case round=>
    rename_i wy;obtain⟨hb,q,hq1,hq2,rfl,hM⟩:=hrel;have HBy:Hid (Below w.heap.size w wr):=hb;have HMy:Hid (Mid wd ws w.heap.size (w.heap.size+1) i (q-1) wr):=hM;clear hb hM;by_cases hlt:i+q<=ws.length
    ·obtain⟨b0,o0,ea,hb0⟩:=HW.out.some (show 0<ws.length by omega);subst ea;have hlti:(i:Int)+(q:Int)<=(ws.length:Int):=by omega
     have hsl:=v0f b0 o0 ws.length cap i q (by omega) (by omega);have hcell:wr.cell? ⟨w.heap.size,i+q,none⟩=some (.int .i64 ((best wd (ws.drop (i+q)):Nat):Int)):=HMy.out.l.cl (i+q) (by omega) hlt
     have HLc:Hid (∀n,Calls Tryz.prog 158 #[.slice (some ⟨b0,o0+i,none⟩) q (cap-i)] (wr.drewN n) fun e w'=>e=.returned (.int .i64 (ln ((ws.drop i).take q)))/\w'=wr.drewN n):=fun n=>
      (j6f HW.out HF.out HBy.out i q (cap-i) n hq1 hlt).mono fun _ _ h=>⟨h.1,h.2.symm⟩
     have HBc:Hid (∀n,Calls Tryz.prog 157 #[.int .i64 (ln ((ws.drop i).take q)),.int .i64 wd,.bool ((i:Int)+(q:Int)==(ws.length:Int))] (wr.drewN n) fun e w'=>e=.returned (.int .i64 (bd (ln ((ws.drop i).take q)) wd (q==ws.length-i)))/\w'=wr.drewN n):=fun n=>by
      rw[v1z hlt];exact(j2e _ wd _ _ ((HF.out.drop i).take q).ln hw).mono fun _ _ h=>⟨h.1,h.2.symm⟩
     have HO:Hid (fOf wd (ws.drop i) q=bd (ln ((ws.drop i).take q)) wd (q==ws.length-i)+best wd (ws.drop (i+q))):=j8v wd ws i q;have hfb:=j8w hw (HF.out.drop i) q;rw[HO.out]at hfb;generalize ln ((ws.drop i).take q)=lv at HLc HBc HO hfb;generalize bd lv wd (q==ws.length-i)=bv at HBc HO hfb;generalize best wd (ws.drop (i+q))=sv at hcell HO hfb;go_wp2_with fail
     go_quiet (first|(go_at_call 158;exact Calls.quiet_of_same (HLc.out _))|(go_at_call 157;exact Calls.quiet_of_same (HBc.out _)))
     obtain⟨y1,e1⟩:=HMy.out.l.rl.cell (show i<ws.length+1 by omega);obtain⟨y2,e2⟩:=HMy.out.l.rf.cell hi;have f1:wr.frozen? ⟨w.heap.size,i,none⟩=false:=HMy.out.l.rl.frozen;have f2:wr.frozen? ⟨w.heap.size+1,i,none⟩=false:=HMy.out.l.rf.frozen;have hwr:w.heap.size+1<wr.heap.size:=HMy.out.l.rf.lt;by_cases hq:q=1
     ·have hqb:((q:Int)==1)=true:=by simp[hq]
      have HP:=(show Hid (_)from k4y (nq:=nq) HMy.out hi hq1 HO.out (.inl hq));clear hq;go_wp2
      go_roundw
      case rel=>exact⟨k1x (q2u HBy.out nq) (Nat.le_refl _) (by omega),q+1,by omega,by omega,by go_num,HP.out⟩
      case measure=>simp[intOf];omega
     ·have hqb:((q:Int)==1)=false:=by simp;omega
      have e1':=(HMy.out.c (by omega)).1;generalize hmv:z0i (fOf wd (ws.drop i)) (q-1)=mv at e1';have HMV:Hid (z0i (fOf wd (ws.drop i)) (q-1)=mv):=hmv;clear hmv e1;by_cases hle:bv+sv<=mv
      ·have HP:=(show Hid (_)from k4y (nq:=nq) HMy.out hi hq1 HO.out (.inr (by rw[HMV.out];exact hle)));have hlei:(bv:Int)+(sv:Int)<=(mv:Int):=by omega
       clear hq hle;go_wp2
       go_roundw
       case rel=>exact⟨k1x (q2u HBy.out nq) (Nat.le_refl _) (by omega),q+1,by omega,by omega,by go_num,HP.out⟩
       case measure=>simp[intOf];omega
      ·have HP:=(show Hid (_)from j0r (nq:=nq) HMy.out hq1 (by rw[HO.out,HMV.out];omega) hq);have hlei:¬(bv:Int)+(sv:Int)<=(mv:Int):=by omega
       clear hq hle;go_wp2
       go_roundw
       case rel=>exact⟨q2u HBy.out nq,q+1,by omega,by omega,by go_num,HP.out⟩
       case measure=>simp[intOf];omega
    ·have hgt:¬(i:Int)+(q:Int)<=(ws.length:Int):=by omega
     have HD:Hid (Lst wd ws w.heap.size (w.heap.size+1) i wr):=HMy.out.done hi (by omega);go_wp2
     go_roundw
     case rel=>exact⟨HBy.out,i,by omega,by go_num,HD.out⟩
     case measure=>simp[intOf]
end Go.Proofs.YthjapabokcajhaaGreatDoor
namespace Go.Proofs.YthjapabokcajhaaGreatDoor
open Go Go.RowKit
set_option maxRecDepth 100000
set_option maxHeartbeats 4000000
def q2b(wd:Nat)(ws:List ByteArray):List ByteArray:=z4p ws (q7s wd ws)
theorem q3p(wd:Nat){ws:List ByteArray}(h:ws≠[]):q2b wd ws=jnS (ws.take (agF wd ws))::q2b wd (ws.drop (agF wd ws)):=by
 rw[q2b,q3n wd h];rfl
theorem q3q(wd:Nat):q2b wd []=[]:=by rw[q2b,q4b];rfl
theorem q6t(wd:Nat):∀(n:Nat)(ws:List ByteArray),ws.length<=n->(q2b wd ws).length<=ws.length
 | 0,ws,h=>by
  have:ws=[]:=List.eq_nil_of_length_eq_zero (by omega)
  subst this;rw[q3q];simp
 | n+1,ws,h=>by
  by_cases h0:ws=[]
  ·subst h0;rw[q3q];simp
  ·have hp:=q5v wd h0;have ih:=q6t wd n (ws.drop (agF wd ws)) (by simp only[List.length_drop];omega);rw[q3p wd h0,List.length_cons];simp only[List.length_drop]at ih;omega
theorem k1d(s:ByteArray)(w:World)(h:s.size<=281474976710656):
  Calls Tryz.prog 78 #[.string s] w fun e w'=>e=.returned (.string s)/\Below w.heap.size w w':=by
 go_in;go_wp2_with fail;refine(clone_sh s _ h).mono ?_;rintro e w2⟨rfl,hb⟩;go_wp2;go_ret;exact⟨rfl,hb⟩
theorem j2h(n:Nat)(ws:List ByteArray)(hn:ws.length=n)(b o c:Nat)(w:World)(hc:n<=c)(hb:b<w.heap.size)(hF:Few ws)(hW:Wds w (some ⟨b,o,none⟩) ws):
  Calls Tryz.prog 106 #[.slice (some ⟨b,o,none⟩) n c] w fun e w'=>e=.returned (.string (jnS ws))/\Below w.heap.size w w':=by
 subst hn
 have HJ:Hid (∀W:World,Below w.heap.size w W->Calls Tryz.prog 70 #[.slice (some ⟨b,o,none⟩) ws.length c,.string ⟨#[32]⟩] W fun e w'=>e=.returned (.string (jnS ws))/\Below W.heap.size W w'):=fun W hB=>by
  have hl:=hF.ln;have hl2:=hF.1;refine join_sh b o c ws ⟨#[32]⟩ W ?_ (Nat.lt_of_lt_of_le hb hB.size) (by omega) hc ?_
  ·intro j x hx;obtain⟨hj,rfl⟩:=List.getElem?_eq_some_iff.1 hx;obtain⟨b',o',e,_,c1⟩:=Wds.below hW hB j hj;simp only[Option.some.injEq,Addr.mk.injEq,and_true]at e;obtain⟨rfl,rfl⟩:=e;exact c1
  ·have:=z6l ws
   show(jnL ws).length<=_
   omega
 have hs:(jnS ws).size<=281474976710656:=by
  rw[z8j]
  have:=hF.ln
  omega
 clear hW hF;generalize jnS ws=s at HJ hs;go_in;go_wp2_with fail;refine(HJ.out _ (Below.refl _ _)).mono ?_;rintro e w2⟨rfl,hb2⟩;go_wp2_with fail;refine(k1d s _ hs).mono ?_;rintro e w3⟨rfl,hb3⟩;go_wp2;go_ret;exact⟨rfl,q0g hb2 (Nat.le_refl _) hb3⟩
structure k1p(wd:Nat)(ws:List ByteArray)(ks:List Nat)(w w1:World)(k:Nat)(vs done:List ByteArray)(A L:Option Addr)(c lc:Nat)(wr:World):Prop where
 b:Below w1.heap.size w1 wr
 le:k<=ks.length
 vc:vs.length<=c
 wo:Wds w A vs
 fe:Few vs
 cu:ks.drop k=q7s wd vs
 ro:q6l w1.heap.size (.slice L done.length lc) done wr
 li:q2b wd ws=done++q2b wd vs
 dl:done.length+vs.length<=60
theorem k1p.step{wd:Nat}{ws:List ByteArray}{ks:List Nat}{w w1:World}{k:Nat}{vs done:List ByteArray}{b o:Nat}{L:Option Addr}{c lc:Nat}{wr:World}(h:k1p wd ws ks w w1 k vs done (some ⟨b,o,none⟩) L c lc wr)(hk:k<ks.length):
  ∃q,ks[k]=q/\1<=q/\q<=vs.length/\∃A',(∀W:World,(Instr.slice 58 (.slice (some ⟨b,o,none⟩) vs.length c) (some (.int .i64 (q:Int))) none none).run Tryz.prog W=.ok (.slice A' (vs.drop q).length (c-q)) W)/\
   ∀g cap2 w2,Below w1.heap.size w1 w2->q6l w1.heap.size (.slice (some ⟨g,0,none⟩) (done++[jnS (vs.take q)]).length cap2) (done++[jnS (vs.take q)]) w2->k1p wd ws ks w w1 (k+1) (vs.drop q) (done++[jnS (vs.take q)]) A' (some ⟨g,0,none⟩) (c-q) cap2 w2:=by
 have hne:vs≠[]:=fun e=>by
  have h1:=h.cu;rw[e,q4b]at h1
  have:=congrArg List.length h1
  rw[List.length_drop,List.length_nil]at this;omega
 have h1:=h.cu;rw[List.drop_eq_getElem_cons hk,q3n wd hne,List.cons.injEq]at h1;obtain⟨p1,p2⟩:=q5v wd hne;obtain⟨A',e1,e2⟩:=j7r h.wo p2 h.vc;refine⟨agF wd vs,h1.1,p1,p2,A',e1,fun g cap2 w2 hb hs=>?_⟩;exact{b:=hb,le:=hk,vc:=by have:=h.vc;rw[List.length_drop];omega,wo:=e2,fe:=h.fe.drop _,cu:=h1.2,ro:=hs,li:=by rw[h.li,q3p wd hne,List.append_assoc];rfl,dl:=by have:=h.dl;rw[List.length_append,List.length_drop];simp;omega}
theorem j2g(ws:List ByteArray)(a:Option Addr)(cap wd:Nat)(w:World)(hc:ws.length<=cap)(hW:Wds w a ws)(h0:q4c ws wd=0):
  Calls Tryz.prog 69 #[.slice a ws.length cap,.int .i64 wd] w fun e w'=>(∃L c,e=.returned (.tuple #[.slice L (q2b wd ws).length c,.nilIface])/\q6l w.heap.size (.slice L (q2b wd ws).length c) (q2b wd ws) w')/\Below w.heap.size w w':=by
 obtain⟨hf0,n,hn0,hn1,hn2⟩:=k0h h0;obtain rfl:wd=n:=by omega
 have H0:Hid (q4c ws wd=0):=h0;have HF:Hid (Few ws):=j2u hf0;have hl:=HF.out.1;have HW:Hid (Wds w a ws):=hW;clear h0 hf0 hn0 hW;go_in;go_wp2_with fail;refine(k8k ws a cap wd _ HW.out).mono ?_;rintro e w2⟨rfl,rfl⟩;rw[H0.out,q0u];go_wp2_with fail;refine(z4k ws a cap wd _ hc HF.out hn2 HW.out).mono ?_;rintro e w1⟨⟨K,kc,rfl,hO⟩,hb1⟩;generalize hks:q7s wd ws=ks at hO;have HK:Hid (z9p w.heap.size (.slice K ks.length kc) ks w1):=hO;have HKS:Hid (q7s wd ws=ks):=hks;have HB1:Hid (Below w.heap.size w w1):=hb1
 have hkl:ks.length<=60:=by
  have:=q6t wd _ ws (Nat.le_refl _)
  have e:∀(ks:List Nat)(ws:List ByteArray),(z4p ws ks).length=ks.length:=by
   intro ks
   induction ks with
   | nil=>intro ws;rfl
   | cons k r ih=>intro ws;simp[z4p,ih]
  rw[q2b,e,hks]at this;omega
 have hs1:=hb1.size;clear hO hks hb1;go_wp2
 go_loopw [0,7,20] (fun l x i wr=>∃(k:Nat)(vs done:List ByteArray)(A L:Option Addr)(c lc:Nat),l=.slice A vs.length c/\x=.slice L done.length lc/\i=.int .i64 (k:Int)/\k1p wd ws ks w w1 k vs done A L c lc wr) (fun _ _ i _=>ks.length-(intOf i).toNat)
 case atStart=>exact⟨0,ws,[],a,none,cap,0,rfl,rfl,rfl,{b:=Below.refl _ _,le:=Nat.zero_le _,vc:=hc,wo:=HW.out,fe:=HF.out,cu:=HKS.out.symm,ro:=World.ownsRow_nil _ _ _ _,li:=rfl,dl:=by simpa using hl}⟩
 case round=>
  obtain⟨k,vs,done,A,L,c,lc,rfl,rfl,rfl,hR⟩:=hrel;have HR:Hid (k1p wd ws ks w w1 k vs done A L c lc wr):=hR;have hle:=hR.le;have hvc:=hR.vc;have hdl:=hR.dl;have hsr:=hR.b.size;clear hR;by_cases hlt:k<ks.length
  ·have hki:(k:Int)<(ks.length:Int):=by omega
   obtain⟨g,rfl,hg,c0⟩:=k0s HK.out k hlt;have c1:wr.cell? ⟨g,k,none⟩=some (.int .i64 ((ks[k]:Nat):Int)):=(HR.out.b.cell (p:=⟨g,k,none⟩) hg).trans c0;clear c0
   have hv0:0<vs.length:=by
    rcases Nat.eq_zero_or_pos vs.length with h|h
    ·have:vs=[]:=List.eq_nil_of_length_eq_zero h
     have h1:=HR.out.cu;rw[this,q4b]at h1
     have:=congrArg List.length h1
     rw[List.length_drop,List.length_nil]at this;omega
    ·exact h
   obtain⟨b0,o0,ea,hb0⟩:=HR.out.wo.some hv0;subst ea;obtain⟨q,hq,hq1,hq2,A',hs,hnext⟩:=HR.out.step hlt;rw[hq]at c1;have HNX:=(show Hid (_)from hnext);have hhead:=j7q (some ⟨b0,o0,none⟩) vs.length c q (by omega);have hbr:Below w.heap.size w wr:=HB1.out.trans (HR.out.b.mono hs1)
   have HL:Hid (Calls Tryz.prog 106 #[.slice (some ⟨b0,o0,none⟩) q c] wr fun e w'=>e=.returned (.string (jnS (vs.take q)))/\Below wr.heap.size wr w'):=
    j2h q (vs.take q) (by rw[List.length_take];omega) b0 o0 c wr (by omega) (Nat.lt_of_lt_of_le hb0 hbr.size) (HR.out.fe.take q) (Wds.below (HR.out.wo.take q) hbr)
   generalize hjn:jnS (vs.take q)=s at HL HNX;generalize hdl2:(vs.drop q).length=dl at hs;have HDL:Hid ((vs.drop q).length=dl):=hdl2;clear hq hnext hjn hdl2 hbr;go_wp2_with fail;refine HL.out.mono ?_;rintro e w2⟨rfl,hb2⟩;have HO2:Hid (q6l w1.heap.size (.slice L done.length lc) done w2):=j7n HR.out.ro hb2;have hbw:Below w1.heap.size w1 w2:=HR.out.b.trans (hb2.mono hsr);have HBW:Hid (Below w1.heap.size w1 w2):=hbw;have hs2:=hbw.size;clear hbw hb2;obtain⟨i0,hi0,hz0,hz1,hz2⟩:=info_parts z9i;go_wp2_with(at_builtin;refine wpList_append_lies _ rfl _ _ 58 rfl w1.heap.size 9 i0 _ 1 16 Tryz.underlying58 hi0 hz0 hz1 hz2 rfl (by decide) _ _ _ rfl (World.ownsRow.alloc HO2.out _) ⟨w2.heap.size,0,none⟩ 1 1 [.string s] rfl rfl (cell_one_new w2 _ _) (by intro u hu;simp at hu;subst hu;rfl) (by decide) (by unfold maxLen;omega) (by omega) (by simp;omega) (w2.heap.size+1) (by simp) ?_);intro g2 cap2 w3 hown3 hgrow3 hat3 hlt3;have hb3:=(HBW.out.alloc (by omega) (.cells #[.string s] 9)).grown hgrow3 (by simp;omega) (fun j hj=>(World.ownsRow.lt HO2.out j hj).1)
   have hO3:q6l w1.heap.size (.slice (some ⟨g2,0,none⟩) (done++[s]).length cap2) (done++[s]) w3:=by
    show w3.ownsRow _ _ _ _ _ _;rw[q5b,List.length_append];exact hown3
   have HN3:=(show Hid (_)from HNX.out g2 cap2 w3 hb3 hO3);clear hown3 hgrow3 hb3 hO3 hat3 hlt3;go_wp2
   go_roundw
   case rel=>exact⟨k+1,vs.drop q,done++[s],A',some ⟨g2,0,none⟩,c-q,cap2,by rw[HDL.out],by rw[List.length_append];rfl,by go_num,HN3.out⟩
   case measure=>simp[intOf];omega
  ·have hki:¬(k:Int)<(ks.length:Int):=by omega
   have HE:Hid (q2b wd ws=done):=by
    show q2b wd ws=done;have h1:=HR.out.cu;rw[List.drop_eq_nil_of_le (by omega)]at h1
    have h2:vs=[]:=by
     by_cases h:vs=[]
     ·exact h
     ·rw[q3n wd h]at h1;cases h1
    rw[HR.out.li,h2,q3q,List.append_nil]
   go_wp2;go_ret2;rw[HE.out];exact⟨⟨L,lc,rfl,Joins.ownsRow_le HR.out.ro hs1⟩,HB1.out.trans (HR.out.b.mono hs1)⟩
end Go.Proofs.YthjapabokcajhaaGreatDoor
namespace Go.Proofs.YthjapabokcajhaaGreatDoor
open Go Go.RowKit
def Prg(w:World)(a:Option Addr)(ps:List (List Td)):Prop:=
 ∀i(h:i<ps.length),∃b o a' c',a=some ⟨b,o,none⟩/\b<w.heap.size/\w.cell? ⟨b,o+i,none⟩=some (.slice a' ps[i].length c')/\ps[i].length<=c'/\Tds w a' ps[i]
theorem Prg.below{w w':World}{a:Option Addr}{ps:List (List Td)}(h:Prg w a ps)(hb:Below w.heap.size w w'):Prg w' a ps:=by
 intro i hi;obtain⟨b,o,a',c',e,hlt,c1,c2,c3⟩:=h i hi
 have:=hb.size
 exact⟨b,o,a',c',e,by omega,((q1g hb).1 _ _ hlt).trans c1,c2,c3.below hb⟩
end Go.Proofs.YthjapabokcajhaaGreatDoor
namespace Go.Proofs.YthjapabokcajhaaGreatDoor
open Go Go.RowKit
def v0a(ps:List (List Td)):ByteArray:=if(q1i ps).2=0 then wbS (q2z ps)else⟨#[]⟩
theorem k6t{ps:List (List Td)}(h:(q1i ps).2=0):v0a ps=wbS (q2z ps):=by rw[v0a,if_pos h]
theorem j7o{ps:List (List Td)}(h:(q1i ps).2≠0):v0a ps=⟨#[]⟩:=by rw[v0a,if_neg h]
end Go.Proofs.YthjapabokcajhaaGreatDoor
namespace Go.Proofs.YthjapabokcajhaaGreatDoor
open Go
theorem q5u(l:List UInt8):(wbS l).size=l.length:=by rw[<-q0h];rfl
def pgE(t:List Td):Int:=if opT t=9 then 0 else if 400<(q0i t).nodes.length then 3 else 0
theorem z6w{t:List Td}{wd:Int}(hw:¬(wd<10\/100<wd))(h:q0b t=0):q8r t wd=pgE t:=by
 rw[q8r,if_neg hw,if_neg (by simp[h])];rfl
theorem z3c{t:List Td}(h9:opT t=9):pgE t=0:=by rw[pgE,if_pos h9]
theorem k6n{t:List Td}(h:q0b t=0)(h9:opT t≠9):pgE t=q4v t:=by
 have e:q4v t=if opT t=9 then 2 else if 400<(q0i t).nodes.length then 3 else 0:=by rw[q4v,if_neg (by simp[h])]
 rw[e,if_neg h9,pgE,if_neg h9]
def k8r(t:List Td)(wd:Int):ByteArray:=if q8r t wd=0 then wbS (q5s wd.toNat t)else⟨#[]⟩
def fmE:List (List Td)->Int
 | []=>0
 | t::r=>if pgE t≠0 then pgE t else fmE r
theorem z8d{t:List Td}{r:List (List Td)}(h:pgE t=0):fmE (t::r)=fmE r:=by rw[fmE,if_neg (by simp[h])]
theorem k3u{t:List Td}{r:List (List Td)}(h:pgE t≠0):fmE (t::r)=pgE t:=by rw[fmE,if_pos h]
theorem z8c(wd:Nat):∀(n:Nat)(ws:List ByteArray),ws.length<=n->Few ws->∀l∈q2b wd ws,l.size<=1260
 | 0,ws,h,hF,l,hl=>by
  have:ws=[]:=List.eq_nil_of_length_eq_zero (by omega)
  subst this;rw[q3q]at hl;cases hl
 | n+1,ws,h,hF,l,hl=>by
  by_cases h0:ws=[]
  ·subst h0;rw[q3q]at hl;cases hl
  ·have hp:=q5v wd h0;rw[q3p wd h0]at hl;rcases List.mem_cons.1 hl with rfl|hl
   ·rw[z8j];exact(hF.take _).ln
   ·exact z8c wd n (ws.drop (agF wd ws)) (by simp only[List.length_drop];omega) (hF.drop _) l hl
abbrev ntF(l:ByteArray):List UInt8:=35::32::(btL l++[10])
theorem k3x{f:ByteArray->List UInt8}{b:Nat}:∀(ls:List ByteArray),(∀l∈ls,(f l).length<=b)->(ls.flatMap f).length<=ls.length*b
 | [],_=>by simp
 | l::r,h=>by
  have h1:=k3x r fun x hx=>h x (by simp[hx])
  have h2:=h l (by simp);rw[List.flatMap_cons,List.length_append,List.length_cons,Nat.add_mul];omega
theorem z8p{tx:ByteArray}(h:q1s tx=0):Few ((q0f (btL tx)).map wbS):=j2u h
theorem k6c{tx:ByteArray}(h:q1s tx=0)(wd:Nat):(ntL wd tx).length<=100000:=by
 have hF:=z8p h;rw[ntL]
 split
 ·simp
 ·have h1:=q6t (wd-2) _ ((q0f (btL tx)).map wbS) (Nat.le_refl _)
  have h2:=k3x (f:=ntF) (b:=1300) (q2b (wd-2) ((q0f (btL tx)).map wbS)) fun l hl=>by
   have:=z8c (wd-2) _ _ (Nat.le_refl _) hF l hl
   simp only[ntF,List.length_cons,List.length_append,List.length_nil,q0h];omega
  have h3:=hF.1
  show((q2b (wd-2) ((q0f (btL tx)).map wbS)).flatMap ntF).length<=100000
  have h4:(q2b (wd-2) ((q0f (btL tx)).map wbS)).length*1300<=60*1300:=Nat.mul_le_mul_right _ (by omega);omega
theorem j5h{t:List Td}(h:q4v t=0)(wd:Nat):(dcL wd t).length<=2000001:=by
 obtain⟨u,_,e,hs,_⟩:=z3a (t:=t) wd
 have:=(k4k h hs).2
 rw[e,List.length_append];simp only[List.length_cons,List.length_nil];omega
theorem z5b{t:List Td}(h:q0b t=0)(h9:opT t=9)(wd:Nat):q5s wd t=ntL wd (txT t):=by
 obtain⟨x,rfl,ho,_⟩:=q9q h h9;rw[q5s,if_pos ho];rfl
theorem z2z{t:List Td}(h:q0b t=0)(h9:opT t≠9)(wd:Nat):q5s wd t=dcL wd t:=by
 cases t with
 | nil=>exact absurd h (by decide)
 | cons x r=>exact if_neg (show ¬x.op=9 from h9)
theorem j7l{t:List Td}(h:q0b t=0)(hp:pgE t=0)(wd:Nat):(q5s wd t).length<=2000001:=by
 by_cases h9:opT t=9
 ·rw[z5b h h9];obtain⟨x,rfl,_,hf,_⟩:=q9q h h9
  have:=k6c hf wd
  show(ntL wd x.tx).length<=2000001
  omega
 ·rw[z2z h h9];exact j5h (by rw[<-k6n h h9];exact hp) wd
end Go.Proofs.YthjapabokcajhaaGreatDoor
