import Derived.Test.YthcpdohdppkmkaaGreatDoorPl04
import Derived.BigQuiet
import Derived.Deep.QuietTactic
import Derived.Test.YthcpdohdppkmkaaGreatDoorShf
open Go.Proofs.Tryz
namespace Go.Proofs.YthcpdohdppkmkaaGreatDoor
open Go Go.RowKit
set_option maxRecDepth 100000
set_option maxHeartbeats 4000000
theorem y5b{i q n:Nat}(h:i+q<=n):((i:Int)+(q:Int)==(n:Int))=(q==n-i):=by
 by_cases e:q=n-i
 ·rw[beq_iff_eq.2 e,beq_iff_eq.2 (by omega)]
 ·rw[beq_false_of_ne e,beq_false_of_ne (by omega)]
theorem k7g{ws:List ByteArray}{i q:Nat}(h1:1<=q)(h2:i+q<=ws.length):((ws.drop i).take q).length=q/\(ws.drop i).take q≠[]:=by
 have e:((ws.drop i).take q).length=q:=by rw[List.length_take,List.length_drop];omega
 exact⟨e,fun h=>by rw[h]at e;simp at e;omega⟩
theorem y1n{ws:List ByteArray}{b0 o0:Nat}{w wr:World}(hW:Wds w (some ⟨b0,o0,none⟩) ws)(hF:Few ws)(hb:Below w w wr)(i q c n:Nat)(h1:1<=q)(h2:i+q<=ws.length):
  Calls prog 211 #[.slice (some ⟨b0,o0+i,none⟩) q c] (wr.drewN n) fun e w'=>e=.returned (.int .i64 (ln ((ws.drop i).take q)))/\wr.drewN n=w':=
 v7f q _ (k7g h1 h2).1 _ c _ (k7g h1 h2).2 ((hF.drop i).take q) (Wds.W ((z2r.drop hW i).take q) (q0d hb n))
theorem j6s{wd:Nat}{ws:List ByteArray}{bL bF i q bv sv nq:Nat}{w:World}(h:Mid wd ws bL bF i (q-1) w)(hi:i<ws.length)(hq:1<=q)(ho:fOf wd (ws.drop i) q=bv+sv)(h1:q=1\/bv+sv<=q9b (fOf wd (ws.drop i)) (q-1)):
  Mid wd ws bL bF i (q+1-1) (((w.drewN nq).setCell ⟨bL,i,none⟩ (.int .i64 ((bv:Int)+(sv:Int)))).setCell ⟨bF,i,none⟩ (.int .i64 (q:Int))):=by
 obtain⟨m,rfl⟩:∃m,q=m+1:=⟨q-1,by omega⟩;simp only[Nat.add_sub_cancel]at h h1⊢;have C:Mid wd ws bL bF i m (w.drewN nq):=h.kept rfl rfl
 have:=C.put hi (by rw[ho];omega)
 rw[ho]at this;have A:((bv+sv:Nat):Int)=(bv:Int)+(sv:Int):=by omega
 have B:((m+1:Nat):Int)=(m:Int)+1:=by omega
 rw[A]at this;rw[B];exact this
theorem v4s{wd:Nat}{ws:List ByteArray}{bL bF i q nq:Nat}{w:World}(h:Mid wd ws bL bF i (q-1) w)(hq:1<=q)(h1:¬fOf wd (ws.drop i) q<=q9b (fOf wd (ws.drop i)) (q-1))(h2:¬q=1):Mid wd ws bL bF i (q+1-1) (w.drewN nq):=by
 obtain⟨m,rfl⟩:∃m,q=m+1:=⟨q-1,by omega⟩;simp only[Nat.add_sub_cancel]at h h1⊢;have A:Mid wd ws bL bF i m (w.drewN nq):=h.kept rfl rfl;exact A.skip (by omega)
theorem k1a(ws:List ByteArray)(a:Option Addr)(cap wd:Nat)(w:World)(hc:ws.length<=cap)(hF:Few ws)(hw:wd<=100)(hW:Wds w a ws):
  Calls prog 166 #[.slice a ws.length cap,.int .i64 wd] w fun e w'=>(∃A c,e=.returned (.slice A (z3s wd ws).length c)/\z1g w.heap.size (.slice A (z3s wd ws).length c) (z3s wd ws) w')/\Below w w w':=by
 have hl:=hF.1;have HW:Hid (Wds w a ws):=hW;have y:Hid (Few ws):=hF
 have Aq:∀W:World,(Instr.makeSlice 43 (.int .i64 ((ws.length:Int)+1)) (.int .i64 ((ws.length:Int)+1))).run prog W=.ok (.slice (some ⟨W,0,none⟩) (ws.length+1) (ws.length+1)) (W.alloc (.cells (madeCells #[.int .i64 0] (ws.length+1)) 3)):=fun W=>by
  have:=run_make_row' 43 3 _ 8 Tryz.underlying43 z2l rfl .i64 .i64 (ws.length+1) (by omega) (by omega) W
  have e:((ws.length+1:Nat):Int)=(ws.length:Int)+1:=by omega
  rw[e]at this;exact this
 have Ar:∀W:World,(Instr.makeSlice 43 (.int .i64 (ws.length:Int)) (.int .i64 (ws.length:Int))).run prog W=.ok (.slice (some ⟨W,0,none⟩) ws.length ws.length) (W.alloc (.cells (madeCells #[.int .i64 0] ws.length) 3)):=fun W=>
  run_make_row' 43 3 _ 8 Tryz.underlying43 z2l rfl .i64 .i64 ws.length (by omega) (by omega) W
 have HM:Hid (Lst wd ws w.heap.size (w.heap.size+1) ws.length ((w.alloc (.cells (madeCells #[.int .i64 0] (ws.length+1)) 3)).alloc (.cells (madeCells #[.int .i64 0] ws.length) 3))):=Lst.made wd ws w;clear hW hF;go_in;go_wp2
 go_loopw [7] (fun i wr=>Below w w wr/\∃k:Nat,k<=ws.length/\i=.int .i64 ((k:Int)-1)/\Lst wd ws w.heap.size (w.heap.size+1) k wr) (fun i _=>(intOf i+1).toNat)
 case atStart=>exact⟨((Below.refl _ w).alloc Zl _).alloc (by simp) _,ws.length,Nat.le_refl _,by go_num,HM.o⟩
 case round=>
  obtain⟨g,k,hk,rfl,hL⟩:=hrel;have HB:Hid (Below w w wr):=g;have t:Hid (Lst wd ws w.heap.size (w.heap.size+1) k wr):=hL;clear g hL;by_cases o:k=0
  ·subst o;have Ak:¬((0:Int)<=((0:Nat):Int)-1):=by omega
   have Af:w.heap.size+2<=wr.heap.size:=t.o.rf.lt;go_wp2
   go_loopw [10,11] (fun l i wx=>Below (w.heap.size+2) wr wx/\∃(k:Nat)(C:List Nat)(A:Option Addr)(c:Nat),k<=ws.length/\C.length<=k/\i=.int .i64 (k:Int)/\l=.slice A C.length c/\z1g (w.heap.size+2) (.slice A C.length c) C wx/\z3s wd ws=C++z3s wd (ws.drop k)) (fun _ i _=>ws.length-(intOf i).toNat)
   case atStart=>exact⟨Below.refl _ _,0,[],none,0,Nat.zero_le _,Nat.le_refl _,rfl,rfl,World.ownsRow_nil _ _ _ _,rfl⟩
   case round=>
    rename_i wo0 wo1 wo2;obtain⟨I,k,C,A,c,An,Ao,rfl,rfl,hO,hcut⟩:=hrel;have V:Hid (Below (w.heap.size+2) _ wr):=I;have H:Hid (z1g (w.heap.size+2) (.slice A C.length c) C wr):=hO;have HC:Hid (z3s wd ws=C++z3s wd (ws.drop k)):=hcut;have z:Hid (Lst wd ws w.heap.size (w.heap.size+1) 0 wr):=t.o.kept (I.block _ (by omega)) (I.block _ (by omega));have Au:=I.size;clear I hO hcut;by_cases E:k<ws.length
    ·have R:(k:Int)<(ws.length:Int):=by omega
     have Q:ws.drop k≠[]:=fun e=>by
      have:=congrArg List.length e
      rw[List.length_drop,List.length_nil]at this;omega
     have c1:=z.o.cf k (Nat.zero_le _) E
     have X:Hid (z3s wd ws=(C++[agF wd (ws.drop k)])++z3s wd (ws.drop (k+agF wd (ws.drop k)))):=by
      show z3s wd ws=_;rw[HC.o,q9z wd Q,List.drop_drop,List.append_assoc];rfl
     obtain⟨Ac,m⟩:=z1i wd Q;rw[List.length_drop]at m;have Y:Hid (∀W:World,Lst wd ws w.heap.size (w.heap.size+1) 0 W->W.cell? ⟨w.heap.size+1,k,none⟩=some (.int .i64 ((agF wd (ws.drop k):Nat):Int))):=fun W h=>h.cf k (Nat.zero_le _) E
     generalize agF wd (ws.drop k)=av at c1 X Ac m Y;clear Q;obtain⟨i0,Ad,Ag,Ah,Ai⟩:=info_parts z2l;go_wp2_with(at_builtin;refine wpList_append_lies _ rfl _ _ 43 rfl (w.heap.size+2) 3 i0 _ 1 8 Tryz.underlying43 Ad Ag Ah Ai rfl (by decide) _ _ _ rfl (World.ownsRow.alloc H.o _) ⟨wr,0,none⟩ 1 1 [.int .i64 (av:Int)] rfl rfl (cell_one_new wr _ _) (by intro u hu;simp at hu;subst hu;rfl) (by decide) (by unfold maxLen;omega) (by omega) (by simp;omega) (wr.heap.size+1) (by simp) ?_);intro g2 N w2 J D f r;have K:=(V.o.alloc (by omega) (.cells #[.int .i64 (av:Int)] 3)).grown D (by simp;omega) (fun j hj=>(World.ownsRow.lt H.o j hj).1);have x:=(show Hid (Below _ _ _)from K);have c2:=Y.o w2 (t.o.kept (K.block _ (by omega)) (K.block _ (by omega)))
     have Aa:Hid (z1g (w.heap.size+2) (.slice (some ⟨g2,0,none⟩) (C.length+1) N) (C++[av]) w2):=by
      show w2.ownsRow _ _ _ _ _ _;rw[z2n,List.length_append];exact J
     clear J D K f r;go_wp2
     go_roundw
     case rel=>exact⟨x.o,k+av,C++[av],some ⟨g2,0,none⟩,N,by omega,by simp;omega,by go_num,by rw[List.length_append];rfl,by rw[List.length_append];exact Aa.o,X.o⟩
     case measure=>simp[intOf];omega
    ·have Ap:¬(k:Int)<(ws.length:Int):=by omega
     have HE:Hid (z3s wd ws=C):=by
      show z3s wd ws=C;rw[HC.o,List.drop_eq_nil_of_le (by omega),z2x,List.append_nil]
     go_wp2;go_ret;rw[HE.o];exact⟨⟨A,c,rfl,Joins.ownsRow_le H.o (by omega)⟩,HB.o.trans (V.o.mono (by omega))⟩
  ·obtain⟨i,rfl⟩:∃i,k=i+1:=⟨k-1,by omega⟩;have R:(((i+1:Nat):Int)-1)=(i:Int):=by omega
   rw[R];have v:i<ws.length:=by omega
   clear R o;go_wp2
   go_loopw [8] (fun n wx=>Below w w wx/\∃q:Nat,1<=q/\i+q<=ws.length+1/\n=.int .i64 (q:Int)/\Mid wd ws w.heap.size (w.heap.size+1) i (q-1) wx) (fun n _=>(ws.length+1-(intOf n).toNat))
   case atStart=>exact⟨HB.o,1,by omega,by omega,by go_num,Mid.start t.o⟩
   case round=>
    rename_i wy;obtain⟨g,q,M,As,rfl,hM⟩:=hrel;have G:Hid (Below w w wr):=g;have B:Hid (Mid wd ws w.heap.size (w.heap.size+1) i (q-1) wr):=hM;clear g hM;by_cases E:i+q<=ws.length
    ·obtain⟨b0,o0,ea,Al⟩:=HW.o.some (show 0<ws.length by omega);subst ea;have Aj:(i:Int)+(q:Int)<=(ws.length:Int):=by omega
     have At:=j9o b0 o0 ws.length cap i q (by omega) (by omega);have P:wr.cell? ⟨w,i+q,none⟩=some (.int .i64 ((best wd (ws.drop (i+q)):Nat):Int)):=B.o.l.cl (i+q) (by omega) E
     have Z:Hid (∀n,Calls prog 211 #[.slice (some ⟨b0,o0+i,none⟩) q (cap-i)] (wr.drewN n) fun e w'=>e=.returned (.int .i64 (ln ((ws.drop i).take q)))/\w'=wr.drewN n):=fun n=>
      (y1n HW.o y.o G.o i q (cap-i) n M E).mono fun _ _ h=>⟨h.1,h.2.symm⟩
     have O:Hid (∀n,Calls prog 210 #[.int .i64 (ln ((ws.drop i).take q)),.int .i64 wd,.bool ((i:Int)+(q:Int)==(ws.length:Int))] (wr.drewN n) fun e w'=>e=.returned (.int .i64 (bd (ln ((ws.drop i).take q)) wd (q==ws.length-i)))/\w'=wr.drewN n):=fun n=>by
      rw[y5b E];exact(v7c _ wd _ _ ((y.o.drop i).take q).ln hw).mono fun _ _ h=>⟨h.1,h.2.symm⟩
     have H:Hid (fOf wd (ws.drop i) q=bd (ln ((ws.drop i).take q)) wd (q==ws.length-i)+best wd (ws.drop (i+q))):=j3u wd ws i q;have L:=j3v hw (y.o.drop i) q;rw[H.o]at L;generalize ln ((ws.drop i).take q)=lv at Z O H L;generalize bd lv wd (q==ws.length-i)=bv at O H L;generalize best wd (ws.drop (i+q))=sv at P H L;go_wp2_with fail
     go_quiet (first|(go_at_call 211;exact Calls.quiet_of_same (Z.o _))|(go_at_call 210;exact Calls.quiet_of_same (O.o _)))
     obtain⟨y1,e1⟩:=B.o.l.rl.cell (show i<ws.length+1 by omega);obtain⟨y2,e2⟩:=B.o.l.rf.cell v;have f1:wr.frozen? ⟨w,i,none⟩=false:=B.o.l.rl.frozen;have f2:wr.frozen? ⟨w.heap.size+1,i,none⟩=false:=B.o.l.rf.frozen;have Af:w.heap.size+1<wr.heap.size:=B.o.l.rf.lt;by_cases U:q=1
     ·have Ae:((q:Int)==1)=true:=by simp[U]
      have d:=hid (j6s (nq:=nq) B.o v M H.o (.inl U));clear U;go_wp2
      go_roundw
      case rel=>exact⟨j2j (q0d G.o nq) Zl (by omega),q+1,by omega,by omega,by go_num,d.o⟩
      case measure=>simp[intOf];omega
     ·have Ae:((q:Int)==1)=false:=by simp;omega
      have Ab:=(B.o.c (by omega)).1;generalize s:q9b (fOf wd (ws.drop i)) (q-1)=mv at Ab;have b:Hid (q9b (fOf wd (ws.drop i)) (q-1)=mv):=s;clear s e1;by_cases S:bv+sv<=mv
      ·have d:=hid (j6s (nq:=nq) B.o v M H.o (.inr (by rw[b.o];exact S)));have p:(bv:Int)+(sv:Int)<=(mv:Int):=by omega
       clear U S;go_wp2
       go_roundw
       case rel=>exact⟨j2j (q0d G.o nq) Zl (by omega),q+1,by omega,by omega,by go_num,d.o⟩
       case measure=>simp[intOf];omega
      ·have d:=hid (v4s (nq:=nq) B.o M (by rw[H.o,b.o];omega) U);have p:¬(bv:Int)+(sv:Int)<=(mv:Int):=by omega
       clear U S;go_wp2
       go_roundw
       case rel=>exact⟨q0d G.o nq,q+1,by omega,by omega,by go_num,d.o⟩
       case measure=>simp[intOf];omega
    ·have Am:¬(i:Int)+(q:Int)<=(ws.length:Int):=by omega
     have HD:Hid (Lst wd ws w.heap.size (w.heap.size+1) i wr):=B.o.done v (by omega);go_wp2
     go_roundw
     case rel=>exact⟨G.o,i,by omega,by go_num,HD.o⟩
     case measure=>simp[intOf]
def q1t(wd:Nat)(ws:List ByteArray):List ByteArray:=j5z ws (z3s wd ws)
theorem q3v(wd:Nat){ws:List ByteArray}(h:ws≠[]):q1t wd ws=jnS (ws.take (agF wd ws))::q1t wd (ws.drop (agF wd ws)):=by
 rw[q1t,q9z wd h];rfl
theorem q4g(wd:Nat):q1t wd []=[]:=by rw[q1t,z2x];rfl
theorem q7q(wd:Nat):∀(n:Nat)(ws:List ByteArray),ws.length<=n->(q1t wd ws).length<=ws.length
 | 0,ws,h=>by
  have:ws=[]:=List.eq_nil_of_length_eq_zero (by omega)
  subst this;rw[q4g];simp
 | n+1,ws,h=>by
  by_cases h0:ws=[]
  ·subst h0;rw[q4g];simp
  ·have hp:=z1i wd h0;have ih:=q7q wd n (ws.drop (agF wd ws)) (by simp only[List.length_drop];omega);rw[q3v wd h0,List.length_cons];simp only[List.length_drop]at ih;omega
theorem j0k(s:ByteArray)(w:World)(h:s.size<=281474976710656):
  Calls prog 51 #[.string s] w fun e w'=>e=.returned (.string s)/\Below w w w':=by
 go_in;go_wp2_with fail;refine(clone_sh s _ h).mono ?_;rintro e B⟨rfl,A⟩;go_wp2;go_ret;exact⟨rfl,A⟩
theorem v7e(n:Nat)(ws:List ByteArray)(hn:ws.length=n)(b o c:Nat)(w:World)(hc:n<=c)(hb:b<w.heap.size)(hF:Few ws)(hW:Wds w (some ⟨b,o,none⟩) ws):
  Calls prog 167 #[.slice (some ⟨b,o,none⟩) n c] w fun e w'=>e=.returned (.string (jnS ws))/\Below w w w':=by
 subst hn
 have C:Hid (∀W:World,Below w w W->Calls prog 103 #[.slice (some ⟨b,o,none⟩) ws.length c,.string ⟨#[32]⟩] W fun e w'=>e=.returned (.string (jnS ws))/\Below W W w'):=fun W hB=>by
  have K:=hF.ln;have H:=hF.1;refine join_sh b o c ws ⟨#[32]⟩ W ?_ (Nat.lt_of_lt_of_le hb hB.size) (by omega) hc ?_
  ·intro j x I;obtain⟨G,rfl⟩:=List.getElem?_eq_some_iff.1 I;obtain⟨J,L,e,_,E⟩:=Wds.W hW hB j G;simp only[Option.some.injEq,Addr.mk.injEq,and_true]at e;obtain⟨rfl,rfl⟩:=e;exact E
  ·have:=j4w ws
   show(jnL ws).length<=_
   omega
 have D:(jnS ws).size<=281474976710656:=by
  rw[z3a]
  have:=hF.ln
  omega
 clear hW hF;generalize jnS ws=s at C D;go_in;go_wp2_with fail;refine(C.o _ Zb).mono ?_;rintro e M⟨rfl,A⟩;go_wp2_with fail;refine(j0k s _ D).mono ?_;rintro e N⟨rfl,B⟩;go_wp2;go_ret;exact⟨rfl,q0e A Zl B⟩
structure j1q(wd:Nat)(ws:List ByteArray)(ks:List Nat)(w w1:World)(k:Nat)(vs done:List ByteArray)(A L:Option Addr)(c lc:Nat)(wr:World):Prop where
 b:Below w1 w1 wr
 le:k<=ks.length
 vc:vs.length<=c
 wo:Wds w A vs
 fe:Few vs
 cu:ks.drop k=z3s wd vs
 ro:q1x w1 (.slice L done.length lc) done wr
 li:q1t wd ws=done++q1t wd vs
 dl:done.length+vs.length<=60
theorem j1q.step{wd:Nat}{ws:List ByteArray}{ks:List Nat}{w w1:World}{k:Nat}{vs A:List ByteArray}{b o:Nat}{L:Option Addr}{c lc:Nat}{wr:World}(h:j1q wd ws ks w w1 k vs A (some ⟨b,o,none⟩) L c lc wr)(hk:k<ks.length):
  ∃q,ks[k]=q/\1<=q/\q<=vs.length/\∃A',(∀W:World,(Instr.slice 42 (.slice (some ⟨b,o,none⟩) vs.length c) (some (.int .i64 (q:Int))) none none).run prog W=.ok (.slice A' (vs.drop q).length (c-q)) W)/\
   ∀g cap2 w2,Below w1 w1 w2->q1x w1 (.slice (some ⟨g,0,none⟩) (A++[jnS (vs.take q)]).length cap2) (A++[jnS (vs.take q)]) w2->j1q wd ws ks w w1 (k+1) (vs.drop q) (A++[jnS (vs.take q)]) A' (some ⟨g,0,none⟩) (c-q) cap2 w2:=by
 have B:vs≠[]:=fun e=>by
  have C:=h.cu;rw[e,z2x]at C
  have:=congrArg List.length C
  rw[List.length_drop,List.length_nil]at this;omega
 have C:=h.cu;rw[List.drop_eq_getElem_cons hk,q9z wd B,List.cons.injEq]at C;obtain⟨H,D⟩:=z1i wd B;obtain⟨A',E,G⟩:=y2u h.wo D h.vc;refine⟨agF wd vs,C.1,H,D,A',E,fun g cap2 w2 hb hs=>?_⟩;exact{b:=hb,le:=hk,vc:=by have:=h.vc;rw[List.length_drop];omega,wo:=G,fe:=h.fe.drop _,cu:=C.2,ro:=hs,li:=by rw[h.li,q3v wd B,List.append_assoc];rfl,dl:=by have:=h.dl;rw[List.length_append,List.length_drop];simp;omega}
theorem v7d(ws:List ByteArray)(a:Option Addr)(cap wd:Nat)(w:World)(hc:ws.length<=cap)(hW:Wds w a ws)(h0:q6r ws wd=0):
  Calls prog 102 #[.slice a ws.length cap,.int .i64 wd] w fun e w'=>(∃L c,e=.returned (.tuple #[.slice L (q1t wd ws).length c,.nilIface])/\q1x w (.slice L (q1t wd ws).length c) (q1t wd ws) w')/\Below w w w':=by
 obtain⟨y,n,Ak,Au,Al⟩:=k9e h0;obtain rfl:wd=n:=by omega
 have H0:Hid (q6r ws wd=0):=h0;have HF:Hid (Few ws):=v8a y;have hl:=HF.o.1;have HW:Hid (Wds w a ws):=hW;clear h0 y Ak hW;go_in;go_wp2_with fail;refine(v1g ws a cap wd _ HW.o).mono ?_;rintro e V⟨rfl,rfl⟩;rw[H0.o,q0z];go_wp2_with fail;refine(k1a ws a cap wd _ hc HF.o Al HW.o).mono ?_;rintro e M⟨⟨K,kc,rfl,hO⟩,O⟩;generalize S:z3s wd ws=C at hO;have HK:Hid (z1g w.heap.size (.slice K C.length kc) C M):=hO;have Ad:Hid (z3s wd ws=C):=S;have d:Hid (Below w w M):=O
 have As:C.length<=60:=by
  have:=q7q wd _ ws Zl
  have e:∀(C:List Nat)(ws:List ByteArray),(j5z ws C).length=C.length:=by
   intro C
   induction C with
   | nil=>intro ws;rfl
   | cons k r ih=>intro ws;simp[j5z,ih]
  rw[q1t,e,S]at this;omega
 have U:=O.size;clear hO S O;go_wp2
 go_loopw [0,7,20] (fun l x i wr=>∃(k:Nat)(D B:List ByteArray)(A L:Option Addr)(c Z:Nat),l=.slice A D.length c/\x=.slice L B.length Z/\i=.int .i64 (k:Int)/\j1q wd ws C w M k D B A L c Z wr) (fun _ _ i _=>C.length-(intOf i).toNat)
 case atStart=>exact⟨0,ws,[],a,none,cap,0,rfl,rfl,rfl,{b:=Below.refl _ _,le:=Nat.zero_le _,vc:=hc,wo:=HW.o,fe:=HF.o,cu:=Ad.o.symm,ro:=World.ownsRow_nil _ _ _ _,li:=rfl,dl:=by simpa using hl}⟩
 case round=>
  obtain⟨k,D,B,A,L,c,Z,rfl,rfl,rfl,Y⟩:=hrel;have G:Hid (j1q wd ws C w M k D B A L c Z wr):=Y;have At:=Y.le;have Ay:=Y.vc;have Ar:=Y.dl;have Am:=Y.b.size;clear Y;by_cases z:k<C.length
  ·have Aj:(k:Int)<(C.length:Int):=by omega
   obtain⟨g,rfl,hg,c0⟩:=z6q HK.o k z;have c1:wr.cell? ⟨g,k,none⟩=some (.int .i64 ((C[k]:Nat):Int)):=(G.o.b.cell (p:=⟨g,k,none⟩) hg).trans c0;clear c0
   have An:0<D.length:=by
    rcases Nat.eq_zero_or_pos D.length with h|h
    ·have:D=[]:=List.eq_nil_of_length_eq_zero h
     have X:=G.o.cu;rw[this,z2x]at X
     have:=congrArg List.length X
     rw[List.length_drop,List.length_nil]at this;omega
    ·exact h
   obtain⟨b0,o0,ea,Af⟩:=G.o.wo.some An;subst ea;obtain⟨q,hq,Av,Aw,A',hs,I⟩:=G.o.step z;rw[hq]at c1;have f:=hid I;have Ag:=y2t (some ⟨b0,o0,none⟩) D.length c q (by omega);have Q:Below w w wr:=d.o.trans (G.o.b.mono U)
   have HL:Hid (Calls prog 167 #[.slice (some ⟨b0,o0,none⟩) q c] wr fun e w'=>e=.returned (.string (jnS (D.take q)))/\Below wr wr w'):=
    v7e q (D.take q) (by rw[List.length_take];omega) b0 o0 c wr (by omega) (Nat.lt_of_lt_of_le Af Q.size) (G.o.fe.take q) (Wds.W (G.o.wo.take q) Q)
   generalize Ai:jnS (D.take q)=s at HL f;generalize N:(D.drop q).length=dl at hs;have Ac:Hid ((D.drop q).length=dl):=N;clear hq I Ai N Q;go_wp2_with fail;refine HL.o.mono ?_;rintro e V⟨rfl,P⟩;have m:Hid (q1x M (.slice L B.length Z) B V):=q3o G.o.ro P;have R:Below M M V:=G.o.b.trans (P.mono Am);have Ab:Hid (Below M M V):=R;have Ax:=R.size;clear R P;obtain⟨i0,Ah,Ao,Ap,Aq⟩:=info_parts q9d;go_wp2_with(at_builtin;refine wpList_append_lies _ rfl _ _ 42 rfl M.heap.size 9 i0 _ 1 16 Tryz.underlying42 Ah Ao Ap Aq rfl (by decide) _ _ _ rfl (World.ownsRow.alloc m.o _) ⟨V,0,none⟩ 1 1 [.string s] rfl rfl (cell_one_new V _ _) (by intro u hu;simp at hu;subst hu;rfl) (by decide) (by unfold maxLen;omega) (by omega) (by simp;omega) (V.heap.size+1) (by simp) ?_);intro g2 H w3 J E t Aa;have v:=(Ab.o.alloc (by omega) (.cells #[.string s] 9)).grown E (by simp;omega) (fun j hj=>(World.ownsRow.lt m.o j hj).1)
   have o:q1x M (.slice (some ⟨g2,0,none⟩) (B++[s]).length H) (B++[s]) w3:=by
    show w3.ownsRow _ _ _ _ _ _;rw[q2f,List.length_append];exact J
   have Ae:=hid (f.o g2 H w3 v o);clear J E v o t Aa;go_wp2
   go_roundw
   case rel=>exact⟨k+1,D.drop q,B++[s],A',some ⟨g2,0,none⟩,c-q,H,by rw[Ac.o],by rw[List.length_append];rfl,by go_num,Ae.o⟩
   case measure=>simp[intOf];omega
  ·have Aj:¬(k:Int)<(C.length:Int):=by omega
   have HE:Hid (q1t wd ws=B):=by
    show q1t wd ws=B;have X:=G.o.cu;rw[List.drop_eq_nil_of_le (by omega)]at X
    have h2:D=[]:=by
     by_cases h:D=[]
     ·exact h
     ·rw[q9z wd h]at X;cases X
    rw[G.o.li,h2,q4g,List.append_nil]
   go_wp2;go_ret2;rw[HE.o];exact⟨⟨L,Z,rfl,Joins.ownsRow_le G.o.ro U⟩,d.o.trans (G.o.b.mono U)⟩
def Prg(w:World)(a:Option Addr)(ps:List (List Td)):Prop:=
 ∀i(h:i<ps.length),∃b o a' c',a=some ⟨b,o,none⟩/\b<w.heap.size/\w.cell? ⟨b,o+i,none⟩=some (.slice a' ps[i].length c')/\ps[i].length<=c'/\Tds w a' ps[i]
theorem Prg.W{w w':World}{a:Option Addr}{ps:List (List Td)}(h:Prg w a ps)(hb:Below w w w'):Prg w' a ps:=by
 intro i H;obtain⟨b,o,B,C,e,A,D,E,G⟩:=h i H
 have:=hb.size
 exact⟨b,o,B,C,e,by omega,((q1z hb).1 _ _ A).trans D,E,G.W hb⟩
theorem Prg.nil(w:World)(a:Option Addr):Prg w a []:=fun i hi=>by simp at hi
def z3i(s:ByteArray)(W:World)(e:Ending)(w':World):Prop:=∃ps k f A c,e=.returned (.tuple #[.slice A ps.length c,.int .i64 k,q1r f])/\q4l s ps k f/\Prg w' A ps/\ps.length<=c/\Below W W w'
theorem k7s{s:ByteArray}{ps:List (List Td)}{k f:Int}(h:q4l s ps k f):ps.length<=20/\∀t∈ps,t.length<=40:=by
 cases h with
 | lex=>exact⟨by simp,fun t ht=>by cases ht⟩
 | bad=>exact⟨by simp,fun t ht=>by cases ht⟩
 | full=>exact⟨by simp,fun t ht=>by cases ht⟩
 | ok _ _ hf=>
  obtain⟨A,B⟩:=z9c hf;exact⟨A,fun t ht=>(q4b (z8x ps 0 B t ht)).1⟩
end Go.Proofs.YthcpdohdppkmkaaGreatDoor
