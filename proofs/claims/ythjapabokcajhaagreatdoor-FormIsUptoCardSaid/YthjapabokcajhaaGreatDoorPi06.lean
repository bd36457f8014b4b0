/- Texts as one: FilE, FilF, TreH, SyO, PgP. -/
import Derived.Test.YthjapabokcajhaaGreatDoorPi05
import Derived.BigQuiet
import Derived.Deep.QuietTactic
import Derived.Test.YthjapabokcajhaaGreatDoorShf
open Go.Proofs.Tryz
namespace Go.Proofs.YthjapabokcajhaaGreatDoor
open Go Go.RowKit
set_option maxRecDepth 100000
set_option maxHeartbeats 4000000
theorem y4d{i q n:Nat}(h:i+q<=n):((i:Int)+(q:Int)==(n:Int))=(q==n-i):=by
 by_cases e:q=n-i
 ·rw[beq_iff_eq.2 e,beq_iff_eq.2 (by omega)]
 ·rw[beq_false_of_ne e,beq_false_of_ne (by omega)]
theorem k6u{ws:List ByteArray}{i q:Nat}(h1:1<=q)(h2:i+q<=ws.length):((ws.drop i).take q).length=q/\(ws.drop i).take q≠[]:=by
 have e:((ws.drop i).take q).length=q:=by rw[List.length_take,List.length_drop];omega
 exact⟨e,fun h=>by rw[h]at e;simp at e;omega⟩
theorem y0c{ws:List ByteArray}{b0 o0:Nat}{w wr:World}(hW:Wds w (some ⟨b0,o0,none⟩) ws)(hF:Few ws)(hb:Below w w wr)(i q c n:Nat)(h1:1<=q)(h2:i+q<=ws.length):
  Calls prog 158 #[.slice (some ⟨b0,o0+i,none⟩) q c] (wr.drewN n) fun e w'=>e=.returned (.int .i64 (ln ((ws.drop i).take q)))/\wr.drewN n=w':=
 v5y q _ (k6u h1 h2).1 _ c _ (k6u h1 h2).2 ((hF.drop i).take q) (Wds.below ((z2u.drop hW i).take q) (q0f hb n))
theorem j5u{wd:Nat}{ws:List ByteArray}{bL bF i q bv sv nq:Nat}{w:World}(h:Mid wd ws bL bF i (q-1) w)(hi:i<ws.length)(hq:1<=q)(ho:fOf wd (ws.drop i) q=bv+sv)(h1:q=1\/bv+sv<=q9c (fOf wd (ws.drop i)) (q-1)):
  Mid wd ws bL bF i (q+1-1) (((w.drewN nq).setCell ⟨bL,i,none⟩ (.int .i64 ((bv:Int)+(sv:Int)))).setCell ⟨bF,i,none⟩ (.int .i64 (q:Int))):=by
 obtain⟨m,rfl⟩:∃m,q=m+1:=⟨q-1,by omega⟩;simp only[Nat.add_sub_cancel]at h h1⊢;have hk:Mid wd ws bL bF i m (w.drewN nq):=h.kept rfl rfl
 have:=hk.put hi (by rw[ho];omega)
 rw[ho]at this;have e1:((bv+sv:Nat):Int)=(bv:Int)+(sv:Int):=by omega
 have e2:((m+1:Nat):Int)=(m:Int)+1:=by omega
 rw[e1]at this;rw[e2];exact this
theorem v3i{wd:Nat}{ws:List ByteArray}{bL bF i q nq:Nat}{w:World}(h:Mid wd ws bL bF i (q-1) w)(hq:1<=q)(h1:¬fOf wd (ws.drop i) q<=q9c (fOf wd (ws.drop i)) (q-1))(h2:¬q=1):Mid wd ws bL bF i (q+1-1) (w.drewN nq):=by
 obtain⟨m,rfl⟩:∃m,q=m+1:=⟨q-1,by omega⟩;simp only[Nat.add_sub_cancel]at h h1⊢;have hk:Mid wd ws bL bF i m (w.drewN nq):=h.kept rfl rfl;exact hk.skip (by omega)
theorem k0z(ws:List ByteArray)(a:Option Addr)(cap wd:Nat)(w:World)(hc:ws.length<=cap)(hF:Few ws)(hw:wd<=100)(hW:Wds w a ws):
  Calls prog 105 #[.slice a ws.length cap,.int .i64 wd] w fun e w'=>(∃A c,e=.returned (.slice A (z3s wd ws).length c)/\z1i w.heap.size (.slice A (z3s wd ws).length c) (z3s wd ws) w')/\Below w w w':=by
 have hl:=hF.1;have HW:Hid (Wds w a ws):=hW;have HF:Hid (Few ws):=hF
 have hm1:∀W:World,(Instr.makeSlice 45 (.int .i64 ((ws.length:Int)+1)) (.int .i64 ((ws.length:Int)+1))).run prog W=.ok (.slice (some ⟨W.heap.size,0,none⟩) (ws.length+1) (ws.length+1)) (W.alloc (.cells (madeCells #[.int .i64 0] (ws.length+1)) 3)):=fun W=>by
  have:=run_make_row' 45 3 _ 8 Tryz.underlying45 z2m rfl .i64 .i64 (ws.length+1) (by omega) (by omega) W
  have e:((ws.length+1:Nat):Int)=(ws.length:Int)+1:=by omega
  rw[e]at this;exact this
 have hm2:∀W:World,(Instr.makeSlice 45 (.int .i64 (ws.length:Int)) (.int .i64 (ws.length:Int))).run prog W=.ok (.slice (some ⟨W.heap.size,0,none⟩) ws.length ws.length) (W.alloc (.cells (madeCells #[.int .i64 0] ws.length) 3)):=fun W=>
  run_make_row' 45 3 _ 8 Tryz.underlying45 z2m rfl .i64 .i64 ws.length (by omega) (by omega) W
 have HM:Hid (Lst wd ws w.heap.size (w.heap.size+1) ws.length ((w.alloc (.cells (madeCells #[.int .i64 0] (ws.length+1)) 3)).alloc (.cells (madeCells #[.int .i64 0] ws.length) 3))):=Lst.made wd ws w;clear hW hF;go_in;go_wp2
 go_loopw [7] (fun i wr=>Below w w wr/\∃k:Nat,k<=ws.length/\i=.int .i64 ((k:Int)-1)/\Lst wd ws w.heap.size (w.heap.size+1) k wr) (fun i _=>(intOf i+1).toNat)
 case atStart=>exact⟨((Below.refl _ w).alloc Zl _).alloc (by simp) _,ws.length,Nat.le_refl _,by go_num,HM.o⟩
 case round=>
  obtain⟨hb,k,hk,rfl,hL⟩:=hrel;have HB:Hid (Below w w wr):=hb;have HL:Hid (Lst wd ws w.heap.size (w.heap.size+1) k wr):=hL;clear hb hL;by_cases hk0:k=0
  ·subst hk0;have hneg:¬((0:Int)<=((0:Nat):Int)-1):=by omega
   have hwr:w.heap.size+2<=wr.heap.size:=HL.o.rf.lt;go_wp2
   go_loopw [10,11] (fun l i wx=>Below (w.heap.size+2) wr wx/\∃(k:Nat)(ks:List Nat)(A:Option Addr)(c:Nat),k<=ws.length/\ks.length<=k/\i=.int .i64 (k:Int)/\l=.slice A ks.length c/\z1i (w.heap.size+2) (.slice A ks.length c) ks wx/\z3s wd ws=ks++z3s wd (ws.drop k)) (fun _ i _=>ws.length-(intOf i).toNat)
   case atStart=>exact⟨Below.refl _ _,0,[],none,0,Nat.zero_le _,Nat.le_refl _,rfl,rfl,World.ownsRow_nil _ _ _ _,rfl⟩
   case round=>
    rename_i wo0 wo1 wo2;obtain⟨hbx,k,ks,A,c,hk1,hk2,rfl,rfl,hO,hcut⟩:=hrel;have HBx:Hid (Below (w.heap.size+2) _ wr):=hbx;have HO:Hid (z1i (w.heap.size+2) (.slice A ks.length c) ks wr):=hO;have HC:Hid (z3s wd ws=ks++z3s wd (ws.drop k)):=hcut;have HLx:Hid (Lst wd ws w.heap.size (w.heap.size+1) 0 wr):=HL.o.kept (hbx.block _ (by omega)) (hbx.block _ (by omega));have hsx:=hbx.size;clear hbx hO hcut;by_cases hlt:k<ws.length
    ·have hki:(k:Int)<(ws.length:Int):=by omega
     have hdn:ws.drop k≠[]:=fun e=>by
      have:=congrArg List.length e
      rw[List.length_drop,List.length_nil]at this;omega
     have c1:=HLx.o.cf k (Nat.zero_le _) hlt
     have HC2:Hid (z3s wd ws=(ks++[agF wd (ws.drop k)])++z3s wd (ws.drop (k+agF wd (ws.drop k)))):=by
      show z3s wd ws=_;rw[HC.o,z0d wd hdn,List.drop_drop,List.append_assoc];rfl
     obtain⟨hg1,hg2⟩:=z1j wd hdn;rw[List.length_drop]at hg2;have HCF:Hid (∀W:World,Lst wd ws w.heap.size (w.heap.size+1) 0 W->W.cell? ⟨w.heap.size+1,k,none⟩=some (.int .i64 ((agF wd (ws.drop k):Nat):Int))):=fun W h=>h.cf k (Nat.zero_le _) hlt
     generalize agF wd (ws.drop k)=av at c1 HC2 hg1 hg2 HCF;clear hdn;obtain⟨i0,hi0,hz0,hz1,hz2⟩:=info_parts z2m;go_wp2_with(at_builtin;refine wpList_append_lies _ rfl _ _ 45 rfl (w.heap.size+2) 3 i0 _ 1 8 Tryz.underlying45 hi0 hz0 hz1 hz2 rfl (by decide) _ _ _ rfl (World.ownsRow.alloc HO.o _) ⟨wr.heap.size,0,none⟩ 1 1 [.int .i64 (av:Int)] rfl rfl (cell_one_new wr _ _) (by intro u hu;simp at hu;subst hu;rfl) (by decide) (by unfold maxLen;omega) (by omega) (by simp;omega) (wr.heap.size+1) (by simp) ?_);intro g2 cap2 w2 hown2 hgrow2 hat2 hlt2;have hb2:=(HBx.o.alloc (by omega) (.cells #[.int .i64 (av:Int)] 3)).grown hgrow2 (by simp;omega) (fun j hj=>(World.ownsRow.lt HO.o j hj).1);have HB2:=(show Hid (Below _ _ _)from hb2);have c2:=HCF.o w2 (HL.o.kept (hb2.block _ (by omega)) (hb2.block _ (by omega)))
     have HO2:Hid (z1i (w.heap.size+2) (.slice (some ⟨g2,0,none⟩) (ks.length+1) cap2) (ks++[av]) w2):=by
      show w2.ownsRow _ _ _ _ _ _;rw[z2o,List.length_append];exact hown2
     clear hown2 hgrow2 hb2 hat2 hlt2;go_wp2
     go_roundw
     case rel=>exact⟨HB2.o,k+av,ks++[av],some ⟨g2,0,none⟩,cap2,by omega,by simp;omega,by go_num,by rw[List.length_append];rfl,by rw[List.length_append];exact HO2.o,HC2.o⟩
     case measure=>simp[intOf];omega
    ·have hke:¬(k:Int)<(ws.length:Int):=by omega
     have HE:Hid (z3s wd ws=ks):=by
      show z3s wd ws=ks;rw[HC.o,List.drop_eq_nil_of_le (by omega),z2y,List.append_nil]
     go_wp2;go_ret;rw[HE.o];exact⟨⟨A,c,rfl,Joins.ownsRow_le HO.o (by omega)⟩,HB.o.trans (HBx.o.mono (by omega))⟩
  ·obtain⟨i,rfl⟩:∃i,k=i+1:=⟨k-1,by omega⟩;have hki:(((i+1:Nat):Int)-1)=(i:Int):=by omega
   rw[hki];have hi:i<ws.length:=by omega
   clear hki hk0;go_wp2
   go_loopw [8] (fun n wx=>Below w w wx/\∃q:Nat,1<=q/\i+q<=ws.length+1/\n=.int .i64 (q:Int)/\Mid wd ws w.heap.size (w.heap.size+1) i (q-1) wx) (fun n _=>(ws.length+1-(intOf n).toNat))
   case atStart=>exact⟨HB.o,1,by omega,by omega,by go_num,Mid.start HL.o⟩
   case round=>
    rename_i wy;obtain⟨hb,q,hq1,hq2,rfl,hM⟩:=hrel;have HBy:Hid (Below w w wr):=hb;have HMy:Hid (Mid wd ws w.heap.size (w.heap.size+1) i (q-1) wr):=hM;clear hb hM;by_cases hlt:i+q<=ws.length
    ·obtain⟨b0,o0,ea,hb0⟩:=HW.o.some (show 0<ws.length by omega);subst ea;have hlti:(i:Int)+(q:Int)<=(ws.length:Int):=by omega
     have hsl:=j8m b0 o0 ws.length cap i q (by omega) (by omega);have hcell:wr.cell? ⟨w.heap.size,i+q,none⟩=some (.int .i64 ((best wd (ws.drop (i+q)):Nat):Int)):=HMy.o.l.cl (i+q) (by omega) hlt
     have HLc:Hid (∀n,Calls prog 158 #[.slice (some ⟨b0,o0+i,none⟩) q (cap-i)] (wr.drewN n) fun e w'=>e=.returned (.int .i64 (ln ((ws.drop i).take q)))/\w'=wr.drewN n):=fun n=>
      (y0c HW.o HF.o HBy.o i q (cap-i) n hq1 hlt).mono fun _ _ h=>⟨h.1,h.2.symm⟩
     have HBc:Hid (∀n,Calls prog 157 #[.int .i64 (ln ((ws.drop i).take q)),.int .i64 wd,.bool ((i:Int)+(q:Int)==(ws.length:Int))] (wr.drewN n) fun e w'=>e=.returned (.int .i64 (bd (ln ((ws.drop i).take q)) wd (q==ws.length-i)))/\w'=wr.drewN n):=fun n=>by
      rw[y4d hlt];exact(v5v _ wd _ _ ((HF.o.drop i).take q).ln hw).mono fun _ _ h=>⟨h.1,h.2.symm⟩
     have HO:Hid (fOf wd (ws.drop i) q=bd (ln ((ws.drop i).take q)) wd (q==ws.length-i)+best wd (ws.drop (i+q))):=j3l wd ws i q;have hfb:=j3m hw (HF.o.drop i) q;rw[HO.o]at hfb;generalize ln ((ws.drop i).take q)=lv at HLc HBc HO hfb;generalize bd lv wd (q==ws.length-i)=bv at HBc HO hfb;generalize best wd (ws.drop (i+q))=sv at hcell HO hfb;go_wp2_with fail
     go_quiet (first|(go_at_call 158;exact Calls.quiet_of_same (HLc.o _))|(go_at_call 157;exact Calls.quiet_of_same (HBc.o _)))
     obtain⟨y1,e1⟩:=HMy.o.l.rl.cell (show i<ws.length+1 by omega);obtain⟨y2,e2⟩:=HMy.o.l.rf.cell hi;have f1:wr.frozen? ⟨w.heap.size,i,none⟩=false:=HMy.o.l.rl.frozen;have f2:wr.frozen? ⟨w.heap.size+1,i,none⟩=false:=HMy.o.l.rf.frozen;have hwr:w.heap.size+1<wr.heap.size:=HMy.o.l.rf.lt;by_cases hq:q=1
     ·have hqb:((q:Int)==1)=true:=by simp[hq]
      have HP:=(show Hid (_)from j5u (nq:=nq) HMy.o hi hq1 HO.o (.inl hq));clear hq;go_wp2
      go_roundw
      case rel=>exact⟨j1w (q0f HBy.o nq) Zl (by omega),q+1,by omega,by omega,by go_num,HP.o⟩
      case measure=>simp[intOf];omega
     ·have hqb:((q:Int)==1)=false:=by simp;omega
      have e1':=(HMy.o.c (by omega)).1;generalize hmv:q9c (fOf wd (ws.drop i)) (q-1)=mv at e1';have HMV:Hid (q9c (fOf wd (ws.drop i)) (q-1)=mv):=hmv;clear hmv e1;by_cases hle:bv+sv<=mv
      ·have HP:=(show Hid (_)from j5u (nq:=nq) HMy.o hi hq1 HO.o (.inr (by rw[HMV.o];exact hle)));have hlei:(bv:Int)+(sv:Int)<=(mv:Int):=by omega
       clear hq hle;go_wp2
       go_roundw
       case rel=>exact⟨j1w (q0f HBy.o nq) Zl (by omega),q+1,by omega,by omega,by go_num,HP.o⟩
       case measure=>simp[intOf];omega
      ·have HP:=(show Hid (_)from v3i (nq:=nq) HMy.o hq1 (by rw[HO.o,HMV.o];omega) hq);have hlei:¬(bv:Int)+(sv:Int)<=(mv:Int):=by omega
       clear hq hle;go_wp2
       go_roundw
       case rel=>exact⟨q0f HBy.o nq,q+1,by omega,by omega,by go_num,HP.o⟩
       case measure=>simp[intOf];omega
    ·have hgt:¬(i:Int)+(q:Int)<=(ws.length:Int):=by omega
     have HD:Hid (Lst wd ws w.heap.size (w.heap.size+1) i wr):=HMy.o.done hi (by omega);go_wp2
     go_roundw
     case rel=>exact⟨HBy.o,i,by omega,by go_num,HD.o⟩
     case measure=>simp[intOf]
def q1q(wd:Nat)(ws:List ByteArray):List ByteArray:=j5k ws (z3s wd ws)
theorem q3t(wd:Nat){ws:List ByteArray}(h:ws≠[]):q1q wd ws=jnS (ws.take (agF wd ws))::q1q wd (ws.drop (agF wd ws)):=by
 rw[q1q,z0d wd h];rfl
theorem q4c(wd:Nat):q1q wd []=[]:=by rw[q1q,z2y];rfl
theorem q7s(wd:Nat):∀(n:Nat)(ws:List ByteArray),ws.length<=n->(q1q wd ws).length<=ws.length
 | 0,ws,h=>by
  have:ws=[]:=List.eq_nil_of_length_eq_zero (by omega)
  subst this;rw[q4c];simp
 | n+1,ws,h=>by
  by_cases h0:ws=[]
  ·subst h0;rw[q4c];simp
  ·have hp:=z1j wd h0;have ih:=q7s wd n (ws.drop (agF wd ws)) (by simp only[List.length_drop];omega);rw[q3t wd h0,List.length_cons];simp only[List.length_drop]at ih;omega
theorem k9y(s:ByteArray)(w:World)(h:s.size<=281474976710656):
  Calls prog 78 #[.string s] w fun e w'=>e=.returned (.string s)/\Below w w w':=by
 go_in;go_wp2_with fail;refine(clone_sh s _ h).mono ?_;rintro e w2⟨rfl,hb⟩;go_wp2;go_ret;exact⟨rfl,hb⟩
theorem v5x(n:Nat)(ws:List ByteArray)(hn:ws.length=n)(b o c:Nat)(w:World)(hc:n<=c)(hb:b<w.heap.size)(hF:Few ws)(hW:Wds w (some ⟨b,o,none⟩) ws):
  Calls prog 106 #[.slice (some ⟨b,o,none⟩) n c] w fun e w'=>e=.returned (.string (jnS ws))/\Below w w w':=by
 subst hn
 have HJ:Hid (∀W:World,Below w w W->Calls prog 70 #[.slice (some ⟨b,o,none⟩) ws.length c,.string ⟨#[32]⟩] W fun e w'=>e=.returned (.string (jnS ws))/\Below W W w'):=fun W hB=>by
  have hl:=hF.ln;have hl2:=hF.1;refine join_sh b o c ws ⟨#[32]⟩ W ?_ (Nat.lt_of_lt_of_le hb hB.size) (by omega) hc ?_
  ·intro j x hx;obtain⟨hj,rfl⟩:=List.getElem?_eq_some_iff.1 hx;obtain⟨b',o',e,_,c1⟩:=Wds.below hW hB j hj;simp only[Option.some.injEq,Addr.mk.injEq,and_true]at e;obtain⟨rfl,rfl⟩:=e;exact c1
  ·have:=j4k ws
   show(jnL ws).length<=_
   omega
 have hs:(jnS ws).size<=281474976710656:=by
  rw[z3b]
  have:=hF.ln
  omega
 clear hW hF;generalize jnS ws=s at HJ hs;go_in;go_wp2_with fail;refine(HJ.o _ Zb).mono ?_;rintro e w2⟨rfl,hb2⟩;go_wp2_with fail;refine(k9y s _ hs).mono ?_;rintro e w3⟨rfl,hb3⟩;go_wp2;go_ret;exact⟨rfl,q0d hb2 Zl hb3⟩
structure j1c(wd:Nat)(ws:List ByteArray)(ks:List Nat)(w w1:World)(k:Nat)(vs done:List ByteArray)(A L:Option Addr)(c lc:Nat)(wr:World):Prop where
 b:Below w1 w1 wr
 le:k<=ks.length
 vc:vs.length<=c
 wo:Wds w A vs
 fe:Few vs
 cu:ks.drop k=z3s wd vs
 ro:q2r w1 (.slice L done.length lc) done wr
 li:q1q wd ws=done++q1q wd vs
 dl:done.length+vs.length<=60
theorem j1c.step{wd:Nat}{ws:List ByteArray}{ks:List Nat}{w w1:World}{k:Nat}{vs done:List ByteArray}{b o:Nat}{L:Option Addr}{c lc:Nat}{wr:World}(h:j1c wd ws ks w w1 k vs done (some ⟨b,o,none⟩) L c lc wr)(hk:k<ks.length):
  ∃q,ks[k]=q/\1<=q/\q<=vs.length/\∃A',(∀W:World,(Instr.slice 58 (.slice (some ⟨b,o,none⟩) vs.length c) (some (.int .i64 (q:Int))) none none).run prog W=.ok (.slice A' (vs.drop q).length (c-q)) W)/\
   ∀g cap2 w2,Below w1 w1 w2->q2r w1 (.slice (some ⟨g,0,none⟩) (done++[jnS (vs.take q)]).length cap2) (done++[jnS (vs.take q)]) w2->j1c wd ws ks w w1 (k+1) (vs.drop q) (done++[jnS (vs.take q)]) A' (some ⟨g,0,none⟩) (c-q) cap2 w2:=by
 have hne:vs≠[]:=fun e=>by
  have h1:=h.cu;rw[e,z2y]at h1
  have:=congrArg List.length h1
  rw[List.length_drop,List.length_nil]at this;omega
 have h1:=h.cu;rw[List.drop_eq_getElem_cons hk,z0d wd hne,List.cons.injEq]at h1;obtain⟨p1,p2⟩:=z1j wd hne;obtain⟨A',e1,e2⟩:=y1s h.wo p2 h.vc;refine⟨agF wd vs,h1.1,p1,p2,A',e1,fun g cap2 w2 hb hs=>?_⟩;exact{b:=hb,le:=hk,vc:=by have:=h.vc;rw[List.length_drop];omega,wo:=e2,fe:=h.fe.drop _,cu:=h1.2,ro:=hs,li:=by rw[h.li,q3t wd hne,List.append_assoc];rfl,dl:=by have:=h.dl;rw[List.length_append,List.length_drop];simp;omega}
theorem v5w(ws:List ByteArray)(a:Option Addr)(cap wd:Nat)(w:World)(hc:ws.length<=cap)(hW:Wds w a ws)(h0:q6o ws wd=0):
  Calls prog 69 #[.slice a ws.length cap,.int .i64 wd] w fun e w'=>(∃L c,e=.returned (.tuple #[.slice L (q1q wd ws).length c,.nilIface])/\q2r w (.slice L (q1q wd ws).length c) (q1q wd ws) w')/\Below w w w':=by
 obtain⟨hf0,n,hn0,hn1,hn2⟩:=k8q h0;obtain rfl:wd=n:=by omega
 have H0:Hid (q6o ws wd=0):=h0;have HF:Hid (Few ws):=v6r hf0;have hl:=HF.o.1;have HW:Hid (Wds w a ws):=hW;clear h0 hf0 hn0 hW;go_in;go_wp2_with fail;refine(v0f ws a cap wd _ HW.o).mono ?_;rintro e w2⟨rfl,rfl⟩;rw[H0.o,q1m];go_wp2_with fail;refine(k0z ws a cap wd _ hc HF.o hn2 HW.o).mono ?_;rintro e w1⟨⟨K,kc,rfl,hO⟩,hb1⟩;generalize hks:z3s wd ws=ks at hO;have HK:Hid (z1i w.heap.size (.slice K ks.length kc) ks w1):=hO;have HKS:Hid (z3s wd ws=ks):=hks;have HB1:Hid (Below w w w1):=hb1
 have hkl:ks.length<=60:=by
  have:=q7s wd _ ws Zl
  have e:∀(ks:List Nat)(ws:List ByteArray),(j5k ws ks).length=ks.length:=by
   intro ks
   induction ks with
   | nil=>intro ws;rfl
   | cons k r ih=>intro ws;simp[j5k,ih]
  rw[q1q,e,hks]at this;omega
 have hs1:=hb1.size;clear hO hks hb1;go_wp2
 go_loopw [0,7,20] (fun l x i wr=>∃(k:Nat)(vs done:List ByteArray)(A L:Option Addr)(c lc:Nat),l=.slice A vs.length c/\x=.slice L done.length lc/\i=.int .i64 (k:Int)/\j1c wd ws ks w w1 k vs done A L c lc wr) (fun _ _ i _=>ks.length-(intOf i).toNat)
 case atStart=>exact⟨0,ws,[],a,none,cap,0,rfl,rfl,rfl,{b:=Below.refl _ _,le:=Nat.zero_le _,vc:=hc,wo:=HW.o,fe:=HF.o,cu:=HKS.o.symm,ro:=World.ownsRow_nil _ _ _ _,li:=rfl,dl:=by simpa using hl}⟩
 case round=>
  obtain⟨k,vs,done,A,L,c,lc,rfl,rfl,rfl,hR⟩:=hrel;have HR:Hid (j1c wd ws ks w w1 k vs done A L c lc wr):=hR;have hle:=hR.le;have hvc:=hR.vc;have hdl:=hR.dl;have hsr:=hR.b.size;clear hR;by_cases hlt:k<ks.length
  ·have hki:(k:Int)<(ks.length:Int):=by omega
   obtain⟨g,rfl,hg,c0⟩:=z6y HK.o k hlt;have c1:wr.cell? ⟨g,k,none⟩=some (.int .i64 ((ks[k]:Nat):Int)):=(HR.o.b.cell (p:=⟨g,k,none⟩) hg).trans c0;clear c0
   have hv0:0<vs.length:=by
    rcases Nat.eq_zero_or_pos vs.length with h|h
    ·have:vs=[]:=List.eq_nil_of_length_eq_zero h
     have h1:=HR.o.cu;rw[this,z2y]at h1
     have:=congrArg List.length h1
     rw[List.length_drop,List.length_nil]at this;omega
    ·exact h
   obtain⟨b0,o0,ea,hb0⟩:=HR.o.wo.some hv0;subst ea;obtain⟨q,hq,hq1,hq2,A',hs,hnext⟩:=HR.o.step hlt;rw[hq]at c1;have HNX:=(show Hid (_)from hnext);have hhead:=y1r (some ⟨b0,o0,none⟩) vs.length c q (by omega);have hbr:Below w w wr:=HB1.o.trans (HR.o.b.mono hs1)
   have HL:Hid (Calls prog 106 #[.slice (some ⟨b0,o0,none⟩) q c] wr fun e w'=>e=.returned (.string (jnS (vs.take q)))/\Below wr wr w'):=
    v5x q (vs.take q) (by rw[List.length_take];omega) b0 o0 c wr (by omega) (Nat.lt_of_lt_of_le hb0 hbr.size) (HR.o.fe.take q) (Wds.below (HR.o.wo.take q) hbr)
   generalize hjn:jnS (vs.take q)=s at HL HNX;generalize hdl2:(vs.drop q).length=dl at hs;have HDL:Hid ((vs.drop q).length=dl):=hdl2;clear hq hnext hjn hdl2 hbr;go_wp2_with fail;refine HL.o.mono ?_;rintro e w2⟨rfl,hb2⟩;have HO2:Hid (q2r w1 (.slice L done.length lc) done w2):=q3n HR.o.ro hb2;have hbw:Below w1 w1 w2:=HR.o.b.trans (hb2.mono hsr);have HBW:Hid (Below w1 w1 w2):=hbw;have hs2:=hbw.size;clear hbw hb2;obtain⟨i0,hi0,hz0,hz1,hz2⟩:=info_parts z0v;go_wp2_with(at_builtin;refine wpList_append_lies _ rfl _ _ 58 rfl w1.heap.size 9 i0 _ 1 16 Tryz.underlying58 hi0 hz0 hz1 hz2 rfl (by decide) _ _ _ rfl (World.ownsRow.alloc HO2.o _) ⟨w2.heap.size,0,none⟩ 1 1 [.string s] rfl rfl (cell_one_new w2 _ _) (by intro u hu;simp at hu;subst hu;rfl) (by decide) (by unfold maxLen;omega) (by omega) (by simp;omega) (w2.heap.size+1) (by simp) ?_);intro g2 cap2 w3 hown3 hgrow3 hat3 hlt3;have hb3:=(HBW.o.alloc (by omega) (.cells #[.string s] 9)).grown hgrow3 (by simp;omega) (fun j hj=>(World.ownsRow.lt HO2.o j hj).1)
   have hO3:q2r w1 (.slice (some ⟨g2,0,none⟩) (done++[s]).length cap2) (done++[s]) w3:=by
    show w3.ownsRow _ _ _ _ _ _;rw[q2b,List.length_append];exact hown3
   have HN3:=(show Hid (_)from HNX.o g2 cap2 w3 hb3 hO3);clear hown3 hgrow3 hb3 hO3 hat3 hlt3;go_wp2
   go_roundw
   case rel=>exact⟨k+1,vs.drop q,done++[s],A',some ⟨g2,0,none⟩,c-q,cap2,by rw[HDL.o],by rw[List.length_append];rfl,by go_num,HN3.o⟩
   case measure=>simp[intOf];omega
  ·have hki:¬(k:Int)<(ks.length:Int):=by omega
   have HE:Hid (q1q wd ws=done):=by
    show q1q wd ws=done;have h1:=HR.o.cu;rw[List.drop_eq_nil_of_le (by omega)]at h1
    have h2:vs=[]:=by
     by_cases h:vs=[]
     ·exact h
     ·rw[z0d wd h]at h1;cases h1
    rw[HR.o.li,h2,q4c,List.append_nil]
   go_wp2;go_ret2;rw[HE.o];exact⟨⟨L,lc,rfl,Joins.ownsRow_le HR.o.ro hs1⟩,HB1.o.trans (HR.o.b.mono hs1)⟩
def Prg(w:World)(a:Option Addr)(ps:List (List Td)):Prop:=
 ∀i(h:i<ps.length),∃b o a' c',a=some ⟨b,o,none⟩/\b<w.heap.size/\w.cell? ⟨b,o+i,none⟩=some (.slice a' ps[i].length c')/\ps[i].length<=c'/\Tds w a' ps[i]
theorem Prg.below{w w':World}{a:Option Addr}{ps:List (List Td)}(h:Prg w a ps)(hb:Below w w w'):Prg w' a ps:=by
 intro i hi;obtain⟨b,o,a',c',e,hlt,c1,c2,c3⟩:=h i hi
 have:=hb.size
 exact⟨b,o,a',c',e,by omega,((q1v hb).1 _ _ hlt).trans c1,c2,c3.below hb⟩
theorem Prg.nil(w:World)(a:Option Addr):Prg w a []:=fun i hi=>by simp at hi
def z3h(s:ByteArray)(W:World)(e:Ending)(w':World):Prop:=∃ps k f A c,e=.returned (.tuple #[.slice A ps.length c,.int .i64 k,q1y f])/\q8j s ps k f/\Prg w' A ps/\ps.length<=c/\Below W W w'
theorem z2q(l:List UInt8):(wbS l).size=l.length:=by rw[<-q0c];rfl
def pgE(t:List Td):Int:=if opT t=9 then 0 else if 400<(q0r t).nodes.length then 3 else 0
theorem k4l{t:List Td}{wd:Int}(hw:¬(wd<10\/100<wd))(h:q0b t=0):z5w t wd=pgE t:=by
 rw[z5w,if_neg hw,if_neg (by simp[h])];rfl
theorem z9f{t:List Td}(h9:opT t=9):pgE t=0:=by rw[pgE,if_pos h9]
theorem k4q{t:List Td}(h:q0b t=0)(h9:opT t≠9):pgE t=q9a t:=by
 have e:q9a t=if opT t=9 then 2 else if 400<(q0r t).nodes.length then 3 else 0:=by rw[q9a,if_neg (by simp[h])]
 rw[e,if_neg h9,pgE,if_neg h9]
def k7a(t:List Td)(wd:Int):ByteArray:=if z5w t wd=0 then wbS (z3c wd.toNat t)else⟨#[]⟩
def fmE:List (List Td)->Int
 | []=>0
 | t::r=>if pgE t≠0 then pgE t else fmE r
theorem k6e{t:List Td}{r:List (List Td)}(h:pgE t=0):fmE (t::r)=fmE r:=by rw[fmE,if_neg (by simp[h])]
theorem j4b{t:List Td}{r:List (List Td)}(h:pgE t≠0):fmE (t::r)=pgE t:=by rw[fmE,if_pos h]
inductive z5y (s:ByteArray) (wd:Int):ByteArray->Int->Int->Prop where
 | range (h:wd<10\/100<wd):z5y s wd ⟨#[]⟩ 0 1
 | bad {ps k f} (h:¬(wd<10\/100<wd)) (hp:q8j s ps k f) (hf:f≠0):z5y s wd ⟨#[]⟩ k f
 | full {ps} (h:¬(wd<10\/100<wd)) (hp:q8j s ps 0 0) (hf:fmE ps≠0):z5y s wd ⟨#[]⟩ 0 (fmE ps)
 | ok {ps} (h:¬(wd<10\/100<wd)) (hp:q8j s ps 0 0) (hf:fmE ps=0):z5y s wd (wbS (q9i wd.toNat ps)) 0 0
theorem v2o{s t:ByteArray}{wd:Int}{ps:List (List Td)}(hs:q8j s ps 0 0)(ht:q8j t ps 0 0){a b:ByteArray}{k k' f f':Int}(ha:z5y s wd a k f)(hb:z5y t wd b k' f'):a=b/\k=k'/\f=f':=by
 cases ha with
 | range h=>cases hb with
  | range=>exact⟨rfl,rfl,rfl⟩
  | bad h'=>exact absurd h h'
  | full h'=>exact absurd h h'
  | ok h'=>exact absurd h h'
 | bad h hp hf=>exact absurd (q2x hp hs).2.2 hf
 | full h hp hf=>cases hb with
  | range h'=>exact absurd h' h
  | bad h' hp' hf'=>exact absurd (q2x hp' ht).2.2 hf'
  | full h' hp' hf'=>
   obtain⟨rfl,_⟩:=q2x hp hs;obtain⟨rfl,_⟩:=q2x hp' ht;exact⟨rfl,rfl,rfl⟩
  | ok h' hp' hf'=>
   obtain⟨rfl,_⟩:=q2x hp hs;obtain⟨rfl,_⟩:=q2x hp' ht;exact absurd hf' hf
 | ok h hp hf=>cases hb with
  | range h'=>exact absurd h' h
  | bad h' hp' hf'=>exact absurd (q2x hp' ht).2.2 hf'
  | full h' hp' hf'=>
   obtain⟨rfl,_⟩:=q2x hp hs;obtain⟨rfl,_⟩:=q2x hp' ht;exact absurd hf hf'
  | ok h' hp' hf'=>
   obtain⟨rfl,_⟩:=q2x hp hs;obtain⟨rfl,_⟩:=q2x hp' ht;exact⟨rfl,rfl,rfl⟩
theorem q6q{s:ByteArray}{wd:Int}{a b:ByteArray}{k k' f f':Int}(ha:z5y s wd a k f)(hb:z5y s wd b k' f'):a=b/\k=k'/\f=f':=by
 have key:∀{ps:List (List Td)},q8j s ps 0 0->a=b/\k=k'/\f=f':=fun hp=>v2o hp hp ha hb
 cases ha with
 | range h=>cases hb with
  | range=>exact⟨rfl,rfl,rfl⟩
  | bad h'=>exact absurd h h'
  | full h' hp' _=>exact key hp'
  | ok h' hp' _=>exact key hp'
 | bad h hp hf=>cases hb with
  | range h'=>exact absurd h' h
  | bad h' hp' hf'=>
   obtain⟨_,rfl,rfl⟩:=q2x hp hp';exact⟨rfl,rfl,rfl⟩
  | full h' hp' _=>exact key hp'
  | ok h' hp' _=>exact key hp'
 | full h hp hf=>exact key hp
 | ok h hp hf=>exact key hp
theorem q4p{s:ByteArray}{ps:List (List Td)}{k:Int}(h:q8j s ps k 0):k=0/\(q1i ps).2=0/\ps.length<=20/\∀t∈ps,q0b t=0:=by
 generalize hz:(0:Int)=z at h;cases h with
 | lex h1=>exact absurd hz.symm h1
 | bad=>cases hz
 | full _ _ h1=>exact absurd hz.symm h1
 | ok h1 h2 h3=>exact⟨rfl,h3,(k4s h3).1,k4k _ _ (k4s h3).2⟩
theorem z8j(wd:Nat):∀(n:Nat)(ws:List ByteArray),ws.length<=n->Few ws->∀l∈q1q wd ws,l.size<=1260
 | 0,ws,h,hF,l,hl=>by
  have:ws=[]:=List.eq_nil_of_length_eq_zero (by omega)
  subst this;rw[q4c]at hl;cases hl
 | n+1,ws,h,hF,l,hl=>by
  by_cases h0:ws=[]
  ·subst h0;rw[q4c]at hl;cases hl
  ·have hp:=z1j wd h0;rw[q3t wd h0]at hl;rcases List.mem_cons.1 hl with rfl|hl
   ·rw[z3b];exact(hF.take _).ln
   ·exact z8j wd n (ws.drop (agF wd ws)) (by simp only[List.length_drop];omega) (hF.drop _) l hl
abbrev ntF(l:ByteArray):List UInt8:=35::32::(btL l++[10])
theorem k3q{f:ByteArray->List UInt8}{b:Nat}:∀(ls:List ByteArray),(∀l∈ls,(f l).length<=b)->(ls.flatMap f).length<=ls.length*b
 | [],_=>by simp
 | l::r,h=>by
  have h1:=k3q r fun x hx=>h x (by simp[hx])
  have h2:=h l (by simp);rw[List.flatMap_cons,List.length_append,List.length_cons,Nat.add_mul];omega
theorem z8z{tx:ByteArray}(h:q2u tx=0):Few ((q0e (btL tx)).map wbS):=v6r h
theorem j7f{tx:ByteArray}(h:q2u tx=0)(wd:Nat):(ntL wd tx).length<=100000:=by
 have hF:=z8z h;rw[ntL]
 split
 ·simp
 ·have h1:=q7s (wd-2) _ ((q0e (btL tx)).map wbS) Zl
  have h2:=k3q (f:=ntF) (b:=1300) (q1q (wd-2) ((q0e (btL tx)).map wbS)) fun l hl=>by
   have:=z8j (wd-2) _ _ Zl hF l hl
   simp only[ntF,List.length_cons,List.length_append,List.length_nil,q0c];omega
  have h3:=hF.1
  show((q1q (wd-2) ((q0e (btL tx)).map wbS)).flatMap ntF).length<=100000
  have h4:(q1q (wd-2) ((q0e (btL tx)).map wbS)).length*1300<=60*1300:=Nat.mul_le_mul_right _ (by omega);omega
theorem v9i{t:List Td}(h:q9a t=0)(wd:Nat):(dcL wd t).length<=2000001:=by
 obtain⟨u,_,e,hs,_⟩:=v3s (t:=t) wd
 have:=(j4s h hs).2
 rw[e,List.length_append];simp only[List.length_cons,List.length_nil];omega
theorem z4m{t:List Td}(h:q0b t=0)(h9:opT t=9)(wd:Nat):z3c wd t=ntL wd (txT t):=by
 obtain⟨x,rfl,ho,_⟩:=k1w h h9;rw[z3c,if_pos ho];rfl
theorem z9c{t:List Td}(h:q0b t=0)(h9:opT t≠9)(wd:Nat):z3c wd t=dcL wd t:=by
 cases t with
 | nil=>exact absurd h (by decide)
 | cons x r=>exact if_neg (show ¬x.op=9 from h9)
theorem j7q{t:List Td}(h:q0b t=0)(hp:pgE t=0)(wd:Nat):(z3c wd t).length<=2000001:=by
 by_cases h9:opT t=9
 ·rw[z4m h h9];obtain⟨x,rfl,_,hf,_⟩:=k1w h h9
  have:=j7f hf wd
  show(ntL wd x.tx).length<=2000001
  omega
 ·rw[z9c h h9];exact v9i (by rw[<-k4q h h9];exact hp) wd
end Go.Proofs.YthjapabokcajhaaGreatDoor
