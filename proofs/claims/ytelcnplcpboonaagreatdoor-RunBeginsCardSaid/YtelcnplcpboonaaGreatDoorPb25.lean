import Derived.Test.YtelcnplcpboonaaGreatDoorPb23
import Derived.Test.YtelcnplcpboonaaGreatDoorShf
open Go.Proofs.Tryz
namespace Go.Proofs.YtelcnplcpboonaaGreatDoor
open Go Go.RowKit
set_option maxRecDepth 100000
set_option maxHeartbeats 4000000
theorem y8u{i q n:Nat}(h:i+q<=n):((i:Int)+(q:Int)==(n:Int))=(q==n-i):=by
 by_cases e:q=n-i
 ·rw[beq_iff_eq.2 e,beq_iff_eq.2 (by omega)]
 ·rw[beq_false_of_ne e,beq_false_of_ne (by omega)]
theorem v6y{ws:List ByteArray}{i q:Nat}(h1:1<=q)(h2:i+q<=ws.length):((ws.drop i).take q).length=q/\(ws.drop i).take q≠[]:=by
 have e:((ws.drop i).take q).length=q:=by rw[List.length_take,List.length_drop];omega
 exact⟨e,fun h=>by rw[h]at e;simp at e;omega⟩
theorem y0b{ws:List ByteArray}{b0 o0:Nat}{w wr:World}(hW:Wds w (some ⟨b0,o0,none⟩) ws)(hF:Few ws)(hb:Below w w wr)(i q c n:Nat)(h1:1<=q)(h2:i+q<=ws.length):
  Calls prog 223 #[.slice (some ⟨b0,o0+i,none⟩) q c] (wr.drewN n) fun e w'=>e=.returned (.int .i64 (ln ((ws.drop i).take q)))/\wr.drewN n=w':=
 v5n q _ (v6y h1 h2).1 _ c _ (v6y h1 h2).2 ((hF.drop i).take q) (Wds.W ((z1s.drop hW i).take q) (q3b hb n))
theorem j5u{wd:Nat}{ws:List ByteArray}{bL bF i q bv sv nq:Nat}{w:World}(h:Mid wd ws bL bF i (q-1) w)(hi:i<ws.length)(hq:1<=q)(ho:fOf wd (ws.drop i) q=bv+sv)(h1:q=1\/bv+sv<=z4l (fOf wd (ws.drop i)) (q-1)):
  Mid wd ws bL bF i (q+1-1) (((w.drewN nq).setCell ⟨bL,i,none⟩ (.int .i64 ((bv:Int)+(sv:Int)))).setCell ⟨bF,i,none⟩ (.int .i64 (q:Int))):=by
 obtain⟨m,rfl⟩:∃m,q=m+1:=⟨q-1,by omega⟩;simp only[Nat.add_sub_cancel]at h h1⊢;have C:Mid wd ws bL bF i m (w.drewN nq):=h.kept rfl rfl
 have:=C.put hi (by rw[ho];omega)
 rw[ho]at this;have A:((bv+sv:Nat):Int)=(bv:Int)+(sv:Int):=by omega
 have B:((m+1:Nat):Int)=(m:Int)+1:=by omega
 rw[A]at this;rw[B];exact this
theorem v2y{wd:Nat}{ws:List ByteArray}{bL bF i q nq:Nat}{w:World}(h:Mid wd ws bL bF i (q-1) w)(hq:1<=q)(h1:¬fOf wd (ws.drop i) q<=z4l (fOf wd (ws.drop i)) (q-1))(h2:¬q=1):Mid wd ws bL bF i (q+1-1) (w.drewN nq):=by
 obtain⟨m,rfl⟩:∃m,q=m+1:=⟨q-1,by omega⟩;simp only[Nat.add_sub_cancel]at h h1⊢;have A:Mid wd ws bL bF i m (w.drewN nq):=h.kept rfl rfl;exact A.skip (by omega)
theorem z9n(ws:List ByteArray)(a:Option Addr)(I wd:Nat)(w:World)(hc:ws.length<=I)(hF:Few ws)(hw:wd<=100)(hW:Wds w a ws):
  Calls prog 197 #[.slice a ws.length I,.int .i64 wd] w fun e w'=>(∃A c,e=.returned (.slice A (z2q wd ws).length c)/\z2g w.heap.size (.slice A (z2q wd ws).length c) (z2q wd ws) w')/\Below w w w':=by
 have hl:=hF.1;have HW:Hid (Wds w a ws):=hW;have z:Hid (Few ws):=hF
 have Ar:∀W:World,(Instr.makeSlice 73 (.int .i64 ((ws.length:Int)+1)) (.int .i64 ((ws.length:Int)+1))).run prog W=.ok (.slice (some ⟨W,0,none⟩) (ws.length+1) (ws.length+1)) (W.alloc (.cells (madeCells #[.int .i64 0] (ws.length+1)) 3)):=fun W=>by
  have:=run_make_row' 73 3 _ 8 Tryz.underlying73 z5i rfl .i64 .i64 (ws.length+1) (by omega) (by omega) W
  have e:((ws.length+1:Nat):Int)=(ws.length:Int)+1:=by omega
  rw[e]at this;exact this
 have As:∀W:World,(Instr.makeSlice 73 (.int .i64 (ws.length:Int)) (.int .i64 (ws.length:Int))).run prog W=.ok (.slice (some ⟨W,0,none⟩) ws.length ws.length) (W.alloc (.cells (madeCells #[.int .i64 0] ws.length) 3)):=fun W=>
  run_make_row' 73 3 _ 8 Tryz.underlying73 z5i rfl .i64 .i64 ws.length (by omega) (by omega) W
 have HM:Hid (Lst wd ws w.heap.size (w.heap.size+1) ws.length ((w.alloc (.cells (madeCells #[.int .i64 0] (ws.length+1)) 3)).alloc (.cells (madeCells #[.int .i64 0] ws.length) 3))):=Lst.made wd ws w;clear hW hF;go_in;go_wp2
 go_loopw [7] (fun i wr=>Below w w wr/\∃k:Nat,k<=ws.length/\i=.int .i64 ((k:Int)-1)/\Lst wd ws w.heap.size (w.heap.size+1) k wr) (fun i _=>(intOf i+1).toNat)
 case atStart=>exact⟨((Below.refl _ w).alloc Zl _).alloc (by simp) _,ws.length,Nat.le_refl _,by go_num,HM.o⟩
 case round=>
  obtain⟨m,k,hk,rfl,hL⟩:=hrel;have HB:Hid (Below w w wr):=m;have v:Hid (Lst wd ws w.heap.size (w.heap.size+1) k wr):=hL;clear m hL;by_cases p:k=0
  ·subst p;have Al:¬((0:Int)<=((0:Nat):Int)-1):=by omega
   have Ag:w.heap.size+2<=wr.heap.size:=v.o.rf.lt;go_wp2
   go_loopw [10,11] (fun l i wx=>Below (w.heap.size+2) wr wx/\∃(k:Nat)(C:List Nat)(A:Option Addr)(c:Nat),k<=ws.length/\C.length<=k/\i=.int .i64 (k:Int)/\l=.slice A C.length c/\z2g (w.heap.size+2) (.slice A C.length c) C wx/\z2q wd ws=C++z2q wd (ws.drop k)) (fun _ i _=>ws.length-(intOf i).toNat)
   case atStart=>exact⟨Below.refl _ _,0,[],none,0,Nat.zero_le _,Nat.le_refl _,rfl,rfl,World.ownsRow_nil _ _ _ _,rfl⟩
   case round=>
    rename_i wo0 wo1 wo2;obtain⟨J,k,C,A,c,Ao,Ap,rfl,rfl,hO,hcut⟩:=hrel;have X:Hid (Below (w.heap.size+2) _ wr):=J;have H:Hid (z2g (w.heap.size+2) (.slice A C.length c) C wr):=hO;have HC:Hid (z2q wd ws=C++z2q wd (ws.drop k)):=hcut;have Aa:Hid (Lst wd ws w.heap.size (w.heap.size+1) 0 wr):=v.o.kept (J.block _ (by omega)) (J.block _ (by omega));have Av:=J.size;clear J hO hcut;by_cases E:k<ws.length
    ·have S:(k:Int)<(ws.length:Int):=by omega
     have R:ws.drop k≠[]:=fun e=>by
      have:=congrArg List.length e
      rw[List.length_drop,List.length_nil]at this;omega
     have c1:=Aa.o.cf k (Nat.zero_le _) E
     have Y:Hid (z2q wd ws=(C++[agF wd (ws.drop k)])++z2q wd (ws.drop (k+agF wd (ws.drop k)))):=by
      show z2q wd ws=_;rw[HC.o,q6m wd R,List.drop_drop,List.append_assoc];rfl
     obtain⟨Ad,o⟩:=q9y wd R;rw[List.length_drop]at o;have Z:Hid (∀W:World,Lst wd ws w.heap.size (w.heap.size+1) 0 W->W.cell? ⟨w.heap.size+1,k,none⟩=some (.int .i64 ((agF wd (ws.drop k):Nat):Int))):=fun W h=>h.cf k (Nat.zero_le _) E
     generalize agF wd (ws.drop k)=av at c1 Y Ad o Z;clear R;obtain⟨i0,Ae,Ah,Ai,Aj⟩:=info_parts z5i;go_wp2_with(at_builtin;refine wpList_append_lies _ rfl _ _ 73 rfl (w.heap.size+2) 3 i0 _ 1 8 Tryz.underlying73 Ae Ah Ai Aj rfl (by decide) _ _ _ rfl (World.ownsRow.alloc H.o _) ⟨wr,0,none⟩ 1 1 [.int .i64 (av:Int)] rfl rfl (cell_one_new wr _ _) (by intro u hu;simp at hu;subst hu;rfl) (by decide) (by unfold maxLen;omega) (by omega) (by simp;omega) (wr.heap.size+1) (by simp) ?_);intro g2 O w2 K D g s;have L:=(X.o.alloc (by omega) (.cells #[.int .i64 (av:Int)] 3)).grown D (by simp;omega) (fun j hj=>(World.ownsRow.lt H.o j hj).1);have y:=(show Hid (Below _ _ _)from L);have c2:=Z.o w2 (v.o.kept (L.block _ (by omega)) (L.block _ (by omega)))
     have Ab:Hid (z2g (w.heap.size+2) (.slice (some ⟨g2,0,none⟩) (C.length+1) O) (C++[av]) w2):=by
      show w2.ownsRow _ _ _ _ _ _;rw[z1f,List.length_append];exact K
     clear K D L g s;go_wp2
     go_roundw
     case rel=>exact⟨y.o,k+av,C++[av],some ⟨g2,0,none⟩,O,by omega,by simp;omega,by go_num,by rw[List.length_append];rfl,by rw[List.length_append];exact Ab.o,Y.o⟩
     case measure=>simp[intOf];omega
    ·have Aq:¬(k:Int)<(ws.length:Int):=by omega
     have HE:Hid (z2q wd ws=C):=by
      show z2q wd ws=C;rw[HC.o,List.drop_eq_nil_of_le (by omega),q8q,List.append_nil]
     go_wp2;go_ret;rw[HE.o];exact⟨⟨A,c,rfl,Joins.ownsRow_le H.o (by omega)⟩,HB.o.trans (X.o.mono (by omega))⟩
  ·obtain⟨i,rfl⟩:∃i,k=i+1:=⟨k-1,by omega⟩;have S:(((i+1:Nat):Int)-1)=(i:Int):=by omega
   rw[S];have x:i<ws.length:=by omega
   clear S p;go_wp2
   go_loopw [8] (fun n wx=>Below w w wx/\∃q:Nat,1<=q/\i+q<=ws.length+1/\n=.int .i64 (q:Int)/\Mid wd ws w.heap.size (w.heap.size+1) i (q-1) wx) (fun n _=>(ws.length+1-(intOf n).toNat))
   case atStart=>exact⟨HB.o,1,by omega,by omega,by go_num,Mid.start v.o⟩
   case round=>
    rename_i wy;obtain⟨m,q,N,At,rfl,hM⟩:=hrel;have G:Hid (Below w w wr):=m;have B:Hid (Mid wd ws w.heap.size (w.heap.size+1) i (q-1) wr):=hM;clear m hM;by_cases E:i+q<=ws.length
    ·obtain⟨b0,o0,ea,Am⟩:=HW.o.some (show 0<ws.length by omega);subst ea;have Ak:(i:Int)+(q:Int)<=(ws.length:Int):=by omega
     have Au:=y6p b0 o0 ws.length I i q (by omega) (by omega);have Q:wr.cell? ⟨w,i+q,none⟩=some (.int .i64 ((best wd (ws.drop (i+q)):Nat):Int)):=B.o.l.cl (i+q) (by omega) E
     have b:Hid (∀n,Calls prog 223 #[.slice (some ⟨b0,o0+i,none⟩) q (I-i)] (wr.drewN n) fun e w'=>e=.returned (.int .i64 (ln ((ws.drop i).take q)))/\w'=wr.drewN n):=fun n=>
      (y0b HW.o z.o G.o i q (I-i) n N E).mono fun _ _ h=>⟨h.1,h.2.symm⟩
     have P:Hid (∀n,Calls prog 222 #[.int .i64 (ln ((ws.drop i).take q)),.int .i64 wd,.bool ((i:Int)+(q:Int)==(ws.length:Int))] (wr.drewN n) fun e w'=>e=.returned (.int .i64 (bd (ln ((ws.drop i).take q)) wd (q==ws.length-i)))/\w'=wr.drewN n):=fun n=>by
      rw[y8u E];exact(v5k _ wd _ _ ((z.o.drop i).take q).ln hw).mono fun _ _ h=>⟨h.1,h.2.symm⟩
     have H:Hid (fOf wd (ws.drop i) q=bd (ln ((ws.drop i).take q)) wd (q==ws.length-i)+best wd (ws.drop (i+q))):=y4h wd ws i q;have M:=y4i hw (z.o.drop i) q;rw[H.o]at M;generalize ln ((ws.drop i).take q)=lv at b P H M;generalize bd lv wd (q==ws.length-i)=bv at P H M;generalize best wd (ws.drop (i+q))=sv at Q H M;go_wp2_with fail
     go_quiet (first|(go_at_call 223;exact Calls.quiet_of_same (b.o _))|(go_at_call 222;exact Calls.quiet_of_same (P.o _)))
     obtain⟨y1,e1⟩:=B.o.l.rl.cell (show i<ws.length+1 by omega);obtain⟨y2,e2⟩:=B.o.l.rf.cell x;have f1:wr.frozen? ⟨w,i,none⟩=false:=B.o.l.rl.frozen;have f2:wr.frozen? ⟨w.heap.size+1,i,none⟩=false:=B.o.l.rf.frozen;have Ag:w.heap.size+1<wr.heap.size:=B.o.l.rf.lt;by_cases V:q=1
     ·have Af:((q:Int)==1)=true:=by simp[V]
      have f:=hid (j5u (nq:=nq) B.o x N H.o (.inl V));clear V;go_wp2
      go_roundw
      case rel=>exact⟨j1k (q3b G.o nq) Zl (by omega),q+1,by omega,by omega,by go_num,f.o⟩
      case measure=>simp[intOf];omega
     ·have Af:((q:Int)==1)=false:=by simp;omega
      have Ac:=(B.o.c (by omega)).1;generalize t:z4l (fOf wd (ws.drop i)) (q-1)=mv at Ac;have d:Hid (z4l (fOf wd (ws.drop i)) (q-1)=mv):=t;clear t e1;by_cases U:bv+sv<=mv
      ·have f:=hid (j5u (nq:=nq) B.o x N H.o (.inr (by rw[d.o];exact U)));have r:(bv:Int)+(sv:Int)<=(mv:Int):=by omega
       clear V U;go_wp2
       go_roundw
       case rel=>exact⟨j1k (q3b G.o nq) Zl (by omega),q+1,by omega,by omega,by go_num,f.o⟩
       case measure=>simp[intOf];omega
      ·have f:=hid (v2y (nq:=nq) B.o N (by rw[H.o,d.o];omega) V);have r:¬(bv:Int)+(sv:Int)<=(mv:Int):=by omega
       clear V U;go_wp2
       go_roundw
       case rel=>exact⟨q3b G.o nq,q+1,by omega,by omega,by go_num,f.o⟩
       case measure=>simp[intOf];omega
    ·have An:¬(i:Int)+(q:Int)<=(ws.length:Int):=by omega
     have HD:Hid (Lst wd ws w.heap.size (w.heap.size+1) i wr):=B.o.done x (by omega);go_wp2
     go_roundw
     case rel=>exact⟨G.o,i,by omega,by go_num,HD.o⟩
     case measure=>simp[intOf]
def q2l(wd:Nat)(ws:List ByteArray):List ByteArray:=k8u ws (z2q wd ws)
theorem q5c(wd:Nat){ws:List ByteArray}(h:ws≠[]):q2l wd ws=jnS (ws.take (agF wd ws))::q2l wd (ws.drop (agF wd ws)):=by
 rw[q2l,q6m wd h];rfl
theorem q5d(wd:Nat):q2l wd []=[]:=by rw[q2l,q8q];rfl
theorem q8s(wd:Nat):∀(n:Nat)(ws:List ByteArray),ws.length<=n->(q2l wd ws).length<=ws.length
 | 0,ws,h=>by
  have:ws=[]:=List.eq_nil_of_length_eq_zero (by omega)
  subst this;rw[q5d];simp
 | n+1,ws,h=>by
  by_cases h0:ws=[]
  ·subst h0;rw[q5d];simp
  ·have hp:=q9y wd h0;have ih:=q8s wd n (ws.drop (agF wd ws)) (by simp only[List.length_drop];omega);rw[q5c wd h0,List.length_cons];simp only[List.length_drop]at ih;omega
theorem k9p(s:ByteArray)(w:World)(h:s.size<=281474976710656):
  Calls prog 115 #[.string s] w fun e w'=>e=.returned (.string s)/\Below w w w':=by
 go_in;go_wp2_with fail;refine(clone_sh s _ h).mono ?_;rintro e B⟨rfl,A⟩;go_wp2;go_ret;exact⟨rfl,A⟩
theorem v5m(n:Nat)(ws:List ByteArray)(hn:ws.length=n)(b o c:Nat)(w:World)(hc:n<=c)(hb:b<w.heap.size)(hF:Few ws)(hW:Wds w (some ⟨b,o,none⟩) ws):
  Calls prog 198 #[.slice (some ⟨b,o,none⟩) n c] w fun e w'=>e=.returned (.string (jnS ws))/\Below w w w':=by
 subst hn
 have C:Hid (∀W:World,Below w w W->Calls prog 155 #[.slice (some ⟨b,o,none⟩) ws.length c,.string ⟨#[32]⟩] W fun e w'=>e=.returned (.string (jnS ws))/\Below W W w'):=fun W hB=>by
  have K:=hF.ln;have H:=hF.1;refine join_sh b o c ws ⟨#[32]⟩ W ?_ (Nat.lt_of_lt_of_le hb hB.size) (by omega) hc ?_
  ·intro j x I;obtain⟨G,rfl⟩:=List.getElem?_eq_some_iff.1 I;obtain⟨J,L,e,_,E⟩:=Wds.W hW hB j G;simp only[Option.some.injEq,Addr.mk.injEq,and_true]at e;obtain⟨rfl,rfl⟩:=e;exact E
  ·have:=k2v ws
   show(jnL ws).length<=_
   omega
 have D:(jnS ws).size<=281474976710656:=by
  rw[k5m]
  have:=hF.ln
  omega
 clear hW hF;generalize jnS ws=s at C D;go_in;go_wp2_with fail;refine(C.o _ Zb).mono ?_;rintro e M⟨rfl,A⟩;go_wp2_with fail;refine(k9p s _ D).mono ?_;rintro e N⟨rfl,B⟩;go_wp2;go_ret;exact⟨rfl,q0g A Zl B⟩
structure j0s(wd:Nat)(ws:List ByteArray)(ks:List Nat)(w w1:World)(k:Nat)(vs done:List ByteArray)(A L:Option Addr)(c lc:Nat)(wr:World):Prop where
 b:Below w1 w1 wr
 le:k<=ks.length
 vc:vs.length<=c
 wo:Wds w A vs
 fe:Few vs
 cu:ks.drop k=z2q wd vs
 ro:q1n w1 (.slice L done.length lc) done wr
 li:q2l wd ws=done++q2l wd vs
 dl:done.length+vs.length<=60
theorem j0s.step{wd:Nat}{ws:List ByteArray}{ks:List Nat}{w w1:World}{k:Nat}{vs A:List ByteArray}{b o:Nat}{L:Option Addr}{c lc:Nat}{wr:World}(h:j0s wd ws ks w w1 k vs A (some ⟨b,o,none⟩) L c lc wr)(hk:k<ks.length):
  ∃q,ks[k]=q/\1<=q/\q<=vs.length/\∃A',(∀W:World,(Instr.slice 72 (.slice (some ⟨b,o,none⟩) vs.length c) (some (.int .i64 (q:Int))) none none).run prog W=.ok (.slice A' (vs.drop q).length (c-q)) W)/\
   ∀g cap2 w2,Below w1 w1 w2->q1n w1 (.slice (some ⟨g,0,none⟩) (A++[jnS (vs.take q)]).length cap2) (A++[jnS (vs.take q)]) w2->j0s wd ws ks w w1 (k+1) (vs.drop q) (A++[jnS (vs.take q)]) A' (some ⟨g,0,none⟩) (c-q) cap2 w2:=by
 have B:vs≠[]:=fun e=>by
  have C:=h.cu;rw[e,q8q]at C
  have:=congrArg List.length C
  rw[List.length_drop,List.length_nil]at this;omega
 have C:=h.cu;rw[List.drop_eq_getElem_cons hk,q6m wd B,List.cons.injEq]at C;obtain⟨H,D⟩:=q9y wd B;obtain⟨A',E,G⟩:=y2p h.wo D h.vc;refine⟨agF wd vs,C.1,H,D,A',E,fun g cap2 w2 hb hs=>?_⟩;exact{b:=hb,le:=hk,vc:=by have:=h.vc;rw[List.length_drop];omega,wo:=G,fe:=h.fe.drop _,cu:=C.2,ro:=hs,li:=by rw[h.li,q5c wd B,List.append_assoc];rfl,dl:=by have:=h.dl;rw[List.length_append,List.length_drop];simp;omega}
theorem v5l(ws:List ByteArray)(a:Option Addr)(H wd:Nat)(w:World)(hc:ws.length<=H)(hW:Wds w a ws)(h0:q5o ws wd=0):
  Calls prog 154 #[.slice a ws.length H,.int .i64 wd] w fun e w'=>(∃L c,e=.returned (.tuple #[.slice L (q2l wd ws).length c,.nilIface])/\q1n w (.slice L (q2l wd ws).length c) (q2l wd ws) w')/\Below w w w':=by
 obtain⟨z,n,Al,Av,Am⟩:=k8f h0;obtain rfl:wd=n:=by omega
 have H0:Hid (q5o ws wd=0):=h0;have HF:Hid (Few ws):=v6h z;have hl:=HF.o.1;have HW:Hid (Wds w a ws):=hW;clear h0 z Al hW;go_in;go_wp2_with fail;refine(j9k ws a H wd _ HW.o).mono ?_;rintro e X⟨rfl,rfl⟩;rw[H0.o,q0q];go_wp2_with fail;refine(z9n ws a H wd _ hc HF.o Am HW.o).mono ?_;rintro e N⟨⟨K,kc,rfl,hO⟩,P⟩;generalize U:z2q wd ws=C at hO;have HK:Hid (z2g w.heap.size (.slice K C.length kc) C N):=hO;have Ae:Hid (z2q wd ws=C):=U;have f:Hid (Below w w N):=P
 have At:C.length<=60:=by
  have:=q8s wd _ ws Zl
  have e:∀(C:List Nat)(ws:List ByteArray),(k8u ws C).length=C.length:=by
   intro C
   induction C with
   | nil=>intro ws;rfl
   | cons k r ih=>intro ws;simp[k8u,ih]
  rw[q2l,e,U]at this;omega
 have V:=P.size;clear hO U P;go_wp2
 go_loopw [0,7,20] (fun l x i wr=>∃(k:Nat)(D B:List ByteArray)(A L:Option Addr)(c d:Nat),l=.slice A D.length c/\x=.slice L B.length d/\i=.int .i64 (k:Int)/\j0s wd ws C w N k D B A L c d wr) (fun _ _ i _=>C.length-(intOf i).toNat)
 case atStart=>exact⟨0,ws,[],a,none,H,0,rfl,rfl,rfl,{b:=Below.refl _ _,le:=Nat.zero_le _,vc:=hc,wo:=HW.o,fe:=HF.o,cu:=Ae.o.symm,ro:=World.ownsRow_nil _ _ _ _,li:=rfl,dl:=by simpa using hl}⟩
 case round=>
  obtain⟨k,D,B,A,L,c,d,rfl,rfl,rfl,Z⟩:=hrel;have G:Hid (j0s wd ws C w N k D B A L c d wr):=Z;have Au:=Z.le;have Az:=Z.vc;have As:=Z.dl;have An:=Z.b.size;clear Z;by_cases Aa:k<C.length
  ·have Ak:(k:Int)<(C.length:Int):=by omega
   obtain⟨g,rfl,hg,c0⟩:=k9a HK.o k Aa;have c1:wr.cell? ⟨g,k,none⟩=some (.int .i64 ((C[k]:Nat):Int)):=(G.o.b.cell (p:=⟨g,k,none⟩) hg).trans c0;clear c0
   have Ao:0<D.length:=by
    rcases Nat.eq_zero_or_pos D.length with h|h
    ·have:D=[]:=List.eq_nil_of_length_eq_zero h
     have Y:=G.o.cu;rw[this,q8q]at Y
     have:=congrArg List.length Y
     rw[List.length_drop,List.length_nil]at this;omega
    ·exact h
   obtain⟨b0,o0,ea,Ag⟩:=G.o.wo.some Ao;subst ea;obtain⟨q,hq,Aw,Ax,A',hs,J⟩:=G.o.step Aa;rw[hq]at c1;have m:=hid J;have Ah:=y2o (some ⟨b0,o0,none⟩) D.length c q (by omega);have R:Below w w wr:=f.o.trans (G.o.b.mono V)
   have HL:Hid (Calls prog 198 #[.slice (some ⟨b0,o0,none⟩) q c] wr fun e w'=>e=.returned (.string (jnS (D.take q)))/\Below wr wr w'):=
    v5m q (D.take q) (by rw[List.length_take];omega) b0 o0 c wr (by omega) (Nat.lt_of_lt_of_le Ag R.size) (G.o.fe.take q) (Wds.W (G.o.wo.take q) R)
   generalize Aj:jnS (D.take q)=s at HL m;generalize O:(D.drop q).length=dl at hs;have Ad:Hid ((D.drop q).length=dl):=O;clear hq J Aj O R;go_wp2_with fail;refine HL.o.mono ?_;rintro e X⟨rfl,Q⟩;have o:Hid (q1n N (.slice L B.length d) B X):=q1z G.o.ro Q;have S:Below N N X:=G.o.b.trans (Q.mono An);have Ac:Hid (Below N N X):=S;have Ay:=S.size;clear S Q;obtain⟨i0,Ai,Ap,Aq,Ar⟩:=info_parts z3r;go_wp2_with(at_builtin;refine wpList_append_lies _ rfl _ _ 72 rfl N.heap.size 9 i0 _ 1 16 Tryz.underlying72 Ai Ap Aq Ar rfl (by decide) _ _ _ rfl (World.ownsRow.alloc o.o _) ⟨X,0,none⟩ 1 1 [.string s] rfl rfl (cell_one_new X _ _) (by intro u hu;simp at hu;subst hu;rfl) (by decide) (by unfold maxLen;omega) (by omega) (by simp;omega) (X.heap.size+1) (by simp) ?_);intro g2 I w3 M E v Ab;have y:=(Ac.o.alloc (by omega) (.cells #[.string s] 9)).grown E (by simp;omega) (fun j hj=>(World.ownsRow.lt o.o j hj).1)
   have t:q1n N (.slice (some ⟨g2,0,none⟩) (B++[s]).length I) (B++[s]) w3:=by
    show w3.ownsRow _ _ _ _ _ _;rw[q3l,List.length_append];exact M
   have Af:=hid (m.o g2 I w3 y t);clear M E y t v Ab;go_wp2
   go_roundw
   case rel=>exact⟨k+1,D.drop q,B++[s],A',some ⟨g2,0,none⟩,c-q,I,by rw[Ad.o],by rw[List.length_append];rfl,by go_num,Af.o⟩
   case measure=>simp[intOf];omega
  ·have Ak:¬(k:Int)<(C.length:Int):=by omega
   have HE:Hid (q2l wd ws=B):=by
    show q2l wd ws=B;have Y:=G.o.cu;rw[List.drop_eq_nil_of_le (by omega)]at Y
    have h2:D=[]:=by
     by_cases h:D=[]
     ·exact h
     ·rw[q6m wd h]at Y;cases Y
    rw[G.o.li,h2,q5d,List.append_nil]
   go_wp2;go_ret2;rw[HE.o];exact⟨⟨L,d,rfl,Joins.ownsRow_le G.o.ro V⟩,f.o.trans (G.o.b.mono V)⟩
theorem q8y:∀(t:Tr),t.noE->∀(deep:Nat)(ws ws':List Int)(r:List UInt8),t.lay deep ws=.ok (r,ws')->(∀c∈r,c≠10)->t.flat=some r
 | .leaf x,_,deep,ws,ws',r,h,hr=>by
  simp only[Tr.lay]at h;simp only[Tr.flat]
  split at h
  ·rename_i h1;cases h;rw[if_pos h1]
  ·split at h
   ·rename_i h1 h5;cases h;rw[if_neg h1,if_neg (by omega),if_neg (by omega)]
   ·cases h;exact absurd rfl (hr 10 (by simp))
 | .one x a,hn,deep,ws,ws',r,h,hr=>by
  simp only[Tr.lay]at h;simp only[Tr.flat]
  split at h
  ·exact q8y a hn _ _ _ _ h hr
  ·split at h
   ·cases h
   ·split at h
    ·exact q8y a hn _ _ _ _ h hr
    ·split at h
     ·cases h
     ·rename_i he;cases h;exact he
 | .two x a b,hn,deep,ws,ws',r,h,hr=>by
  simp only[Tr.lay,if_pos hn.1]at h;simp only[Tr.flat,if_pos hn.1]
  split at h
  ·cases h
  ·rename_i ha
   split at h
   ·cases h
   ·rename_i hb;cases h;rw[q8y a hn.2.1 _ _ _ _ ha fun c hc=>hr c (by simp[hc]),q8y b hn.2.2 _ _ _ _ hb fun c hc=>hr c (by simp[hc])]
def FlW(D:Tr):Prop:=∃u s,D.flat=some s/\q1y u/\∀deep rest,D.lay deep (u++rest)=.ok (s,rest)
theorem v1z(s:List UInt8):FlW (wdD s):=⟨[],s,rfl,fun _ h=>(by simp at h),fun _ _=>rfl⟩
theorem v1y{a:Tr}{s:List UInt8}(h:a.flat=some s):FlW (grD a):=⟨[0],s,h,fun c hc=>(by simp at hc;exact .inl hc),fun deep rest=>(by
 simp only[Tr.lay,List.cons_append,List.nil_append]
 rw[if_neg (by decide),if_neg (by decide),h])⟩
theorem y8t{a b:Tr}(ha:FlW a)(hb:FlW b):FlW (twD a b):=by
 obtain⟨u,s,A,B,C⟩:=ha;obtain⟨v,t,D,E,G⟩:=hb;refine⟨u++v,s++t,q5e A D,fun c hc=>?_,fun deep rest=>?_⟩
 ·rcases List.mem_append.1 hc with h|h
  ·exact B c h
  ·exact E c h
 ·simp only[Tr.lay,if_true];rw[List.append_assoc,C];simp only;rw[G]
theorem j4c{op cl:List UInt8}{ps:List (Td × Tr)}{s:List UInt8}(h:(q2m op cl ps).flat=some s):FlW (q2m op cl ps):=by
 unfold q2m at h⊢
 split
 ·exact v1z _
 ·rename_i h0;rw[if_neg h0]at h;exact v1y h
theorem y8s{x:Td}{ps:List (Td × Tr)}{ts:List Tn}(h:Mts ps ts)(hx:exN x)(hk:ps.length=kdT x):FlW (q0n x ps):=by
 have B:=y4o h hx hk
 have C:kdT x=2->∃a b,ps=[a,b]:=fun e=>by
  rw[e]at hk
  match ps,hk with
  | [a,b],_=>exact⟨a,b,rfl⟩
 rcases q3i hx with⟨A,_⟩|⟨A,_⟩|⟨A,_⟩|⟨A,_⟩|⟨A,_,_,D⟩|⟨A,_,_,D⟩
 ·rw[show q0n x ps=wdD (q1u x.n.toNat) by simp[q0n,A]];exact v1z _
 ·rw[show q0n x ps=wdD (btL x.tx) by simp[q0n,A]];exact v1z _
 ·rw[show q0n x ps=q2m (btL x.tx++[40]) [41] ps by simp[q0n,A]]at B⊢;exact j4c B
 ·rw[show q0n x ps=q2m [91] [93] ps by simp[q0n,A]]at B⊢;exact j4c B
 ·obtain⟨a,b,rfl⟩:=C D;rw[show q0n x [a,b]=grD (twD (inD 0 a.1 a.2) (dpD (twD blD (twD (wdD [43,32]) (inD 1 b.1 b.2))))) by simp[q0n,tw2,A]]at B⊢;exact v1y B
 ·obtain⟨a,b,rfl⟩:=C D;rw[show q0n x [a,b]=grD (twD (inD 1 a.1 a.2) (dpD (twD blD (twD (wdD [42,32]) (inD 2 b.1 b.2))))) by simp[q0n,tw2,A]]at B⊢;exact v1y B
theorem y4d{t:List Td}(h:q0c t=0)(h9:opT t≠9):FlW (q1a t):=by
 have A:=(z1d h h9).f;obtain⟨x,y,k,rfl,B,C,H,J⟩:=z8a h h9;have I:Mts k.D k.R:=z1y k B.2.1 fun z hz=>C z (by simp[Fo.N,hz])
 have G:FlW (q0n y k.D):=y8s I (C y (by simp[Fo.N])) (by rw[z0e];exact B.1);have E:q1a (x::(Fo.cons y k .nil).N)=stD x (q0n y k.D):=z7y B H;rw[E]at A⊢;generalize q0n y k.D=D at *;unfold stD at A⊢
 split
 ·rename_i ho;rw[if_pos ho]at A;exact v1y A
 ·exact y8t G (v1z _)
theorem v1h{t:List Td}(h:q0c t=0)(h9:opT t≠9):∃u∈(q1a t).ways,(q1a t).txt u=q2n t/\∀b∈q2n t,b≠10:=by
 obtain⟨u,s,A,E,G⟩:=y4d h h9;have B:=z1d h h9;obtain rfl:s=q2n t:=by rw[B.f]at A;exact(Option.some.inj A).symm
 have C:=G 0 [];rw[List.append_nil]at C
 have D:(q1a t).show u=.ok (q2n t):=by
  unfold Tr.show;rw[if_pos (k7m.2 E),C]
 exact⟨u,(k0w _ _).1 ⟨_,D⟩,by rw[Tr.txt,D],q5f _ _ B.w A⟩
theorem k5w(wd:Nat):∀(s:List UInt8)(c:Nat),(q2w wd c s).2.1=0->∀b∈s,b≠10
 | [],_,_,b,hb=>by cases hb
 | a::s,c,h,b,hb=>by
  simp only[q2w]at h
  split at h
  ·simp at h
  ·rename_i ha;rcases List.mem_cons.1 hb with rfl|hb
   ·exact ha
   ·exact k5w wd s (c+1) h b hb
theorem k6d{t:List Td}(wd:Nat):∃u∈(q1a t).ways,dcL wd t=(q1a t).txt u++[10]/\(q1a t).show u=.ok ((q1a t).txt u)/\∀v∈(q1a t).ways,¬q2y ((q1a t).cst wd v) ((q1a t).cst wd u):=by
 have E:(q1a t).best wd=some (bs wd 0 [(0,q1a t)]):=by rw[z1u,q3a]
 obtain⟨A,B,C,D⟩:=z0a E;exact⟨_,A,rfl,B,fun v hv=>by rw[<-C];exact(D v hv).1⟩
theorem v4f{t:Tr}{u:List Int}{r:List UInt8}(h:t.show u=.ok r):t.lay 0 u=.ok (r,[]):=by
 unfold Tr.show at h
 split at h
 ·split at h
  ·cases h
  ·rename_i hl;cases h;exact hl
  ·cases h
 ·cases h
theorem v9a{t:List Td}{wd:Nat}(h:q0c t=0)(h9:opT t≠9)(hl:(q2n t).length<=wd):dcL wd t=q2n t++[10]:=by
 obtain⟨v,E,G,H⟩:=v1h h h9;obtain⟨u,u1,u2,u3,u4⟩:=k6d (t:=t) wd
 have C:(q1a t).cst wd v=(0,0):=by
  rw[Tr.cst,G,q8p wd _ 0 H];simp;omega
 have B:=u4 v E;rw[C,q2y]at B
 have D:(q2w wd 0 ((q1a t).txt u)).2.1=0:=by
  simp only[Tr.cst]at B;omega
 have A:=q8y _ (z1d h h9).e _ _ _ _ (v4f u3) (k5w wd _ 0 D);rw[(z1d h h9).f]at A;rw[u2,<-Option.some.inj A]
def q8g(t:List Td):Int:=if q0c t≠0 then q0c t else if opT t=9 then 2 else if 400<(q1a t).N.length then 3 else 0
def q7d(t:List Td):List Nd:=if q8g t=0 then(q1a t).N else []
def k1p(t:List Td):Int:=if q0c t≠0 then q0c t else if opT t=9 then 0 else 2
def txT(t:List Td):ByteArray:=match t with
 | []=>⟨#[]⟩
 | x::_=>x.tx
def k8s(t:List Td):List ByteArray:=if k1p t=0 then(q0i (btL (txT t))).map wbS else []
def z2e(t:List Td)(e:Ending)(w':World):Prop:=∃A c,e=.returned (.tuple #[.slice A (q7d t).length c,q0s (q8g t)])/\q2z w' A (q7d t)/\(q7d t).length<=c
def z6h(t:List Td)(e:Ending)(w':World):Prop:=∃A c,e=.returned (.tuple #[.slice A (k8s t).length c,q0s (k1p t)])/\Wds w' A (k8s t)/\(k8s t).length<=c
theorem j4p{t:List Td}(h:q0c t≠0):q8g t=q0c t/\q7d t=[]/\k1p t=q0c t/\k8s t=[]:=by
 have A:q8g t=q0c t:=by rw[q8g,if_pos h]
 have B:k1p t=q0c t:=by rw[k1p,if_pos h]
 exact⟨A,by rw[q7d,if_neg (by rw[A];exact h)],B,by rw[k8s,if_neg (by rw[B];exact h)]⟩
theorem z7b{t:List Td}(h:q0c t=0)(h9:opT t=9):q8g t=2/\q7d t=[]/\k1p t=0/\k8s t=(q0i (btL (txT t))).map wbS:=by
 have A:q8g t=2:=by rw[q8g,if_neg (by simp[h]),if_pos h9]
 have B:k1p t=0:=by rw[k1p,if_neg (by simp[h]),if_pos h9]
 exact⟨A,by rw[q7d,if_neg (by rw[A];decide)],B,by rw[k8s,if_pos B]⟩
theorem v2h{t:List Td}(h:q0c t=0)(h9:opT t≠9)(hn:400<(q1a t).N.length):q8g t=3/\q7d t=[]/\k1p t=2/\k8s t=[]:=by
 have A:q8g t=3:=by rw[q8g,if_neg (by simp[h]),if_neg h9,if_pos hn]
 have B:k1p t=2:=by rw[k1p,if_neg (by simp[h]),if_neg h9]
 exact⟨A,by rw[q7d,if_neg (by rw[A];decide)],B,by rw[k8s,if_neg (by rw[B];decide)]⟩
theorem v9z{t:List Td}(h:q0c t=0)(h9:opT t≠9)(hn:¬400<(q1a t).N.length):q8g t=0/\q7d t=(q1a t).N/\k1p t=2/\k8s t=[]:=by
 have A:q8g t=0:=by rw[q8g,if_neg (by simp[h]),if_neg h9,if_neg hn]
 have B:k1p t=2:=by rw[k1p,if_neg (by simp[h]),if_neg h9]
 exact⟨A,by rw[q7d,if_pos A],B,by rw[k8s,if_neg (by rw[B];decide)]⟩
theorem z3k{t:List Td}(h:q0c t=0)(h9:opT t=9):∃x,t=[x]/\x.op=9/\q3k x.tx=0/\q2n t=k1q x.tx:=by
 rcases q5y h with⟨x,rfl,A,H,E⟩|⟨x,F,rfl,_,_,_,B⟩
 ·have G:(Fo.nil).len=kdT x:=by simp[kdT,A,Fo.len]
  have C:q2n [x]=stX x []:=(z7z (x:=x) (F:=.nil) trivial G).1;exact⟨x,rfl,A,E,by rw[C,k1q];simp[stX,A]⟩
 ·have D:x.op=9:=h9;rcases B with⟨B,_⟩|⟨B,_⟩<;>omega
theorem y2b{tx:ByteArray}{wd:Nat}(hl:(k1q tx).length<=wd):ntL wd tx=k1q tx++[10]:=by
 by_cases D:btL tx=[]
 ·have E:q0i (btL tx)=[]:=by rw[q0i,if_pos D]
  rw[ntL,if_pos E,k1q,if_pos (q5x.2 D)];rfl
 ·have L:tx.size≠0:=fun e=>D (q5x.1 e)
  have E:q0i (btL tx)=q4y (btL tx):=by rw[q0i,if_neg D]
  have H:jb (q0i (btL tx))=btL tx:=by rw[E,z5l]
  have C:q0i (btL tx)≠[]:=by rw[E];exact q6s _
  rw[k1q,if_neg L]at hl⊢;rw[ntL,if_neg C];generalize q0i (btL tx)=ws at *;have A:ws.map wbS≠[]:=by simpa using C
  have G:ln (ws.map wbS)=(btL tx).length:=by rw[<-k2v,v9r,H]
  simp only[List.length_append,List.length_cons,List.length_nil]at hl
  have J:fOf (wd-2) (ws.map wbS) (ws.map wbS).length=0:=by
   rw[fOf,List.take_length,List.drop_length,z1v,G,bd,if_neg (by omega),if_pos (by simp)]
  have B:1<=(ws.map wbS).length:=List.length_pos_iff.2 A
  have K:z4l (fOf (wd-2) (ws.map wbS)) (ws.map wbS).length=0:=by
   have:=z7k (fOf (wd-2) (ws.map wbS)) (ws.map wbS).length (ws.map wbS).length B Zl
   omega
  have I:agF (wd-2) (ws.map wbS)=(ws.map wbS).length:=by
   have M:=(q9y (wd-2) A).2;rcases Nat.lt_or_ge (agF (wd-2) (ws.map wbS)) (ws.map wbS).length with h|h
   ·exact absurd (J.trans K.symm) (z8q _ _ _ h Zl B)
   ·omega
  rw[q6m _ A,I,List.drop_length,q8q];simp only[k8u,List.take_length,List.flatMap_cons,List.flatMap_nil,List.append_nil];have e:btL (jnS (ws.map wbS))=btL tx:=by rw[jnS,v9r,H]
  rw[e];rfl
theorem v3n{t:List Td}{wd:Nat}(h:q0c t=0)(hl:(q2n t).length<=wd):q5g wd t=q2n t++[10]:=by
 by_cases A:opT t=9
 ·obtain⟨x,rfl,B,_,e⟩:=z3k h A;rw[e]at hl⊢;rw[q5g,if_pos B];exact y2b hl
 ·cases t with
  | nil=>exact absurd h (by decide)
  | cons x r=>
   have:q5g wd (x::r)=dcL wd (x::r):=if_neg (show ¬x.op=9 from A)
   rw[this];exact v9a h A hl
def q2j(wd:Nat)(ps:List (List Td)):List UInt8:=ps.flatMap (q5g wd)
theorem j4r{t:List Td}(h:q8g t=0):q0c t=0/\opT t≠9/\q7d t=(q1a t).N/\(q1a t).N.length<=400:=by
 have A:=h;unfold q8g at h
 split at h
 ·rename_i h0;exact absurd h h0
 ·rename_i h0
  split at h
  ·cases h
  ·rename_i h9
   split at h
   ·cases h
   ·rename_i hm;exact⟨by simpa using h0,h9,by rw[q7d,if_pos A],by omega⟩
theorem v2i{t:List Td}(h:q8g t=0)(ws:List Int):q6r (q7d t) ws=(q1a t).show ws:=by
 obtain⟨B,C,A,D⟩:=j4r h;exact z5z (z1d B C).w A (by rw[A];exact D)
theorem q7t(l:List UInt8):(wbS l).size=l.length:=by rw[<-q0b];rfl
def pgE(t:List Td):Int:=if opT t=9 then 0 else if 400<(q1a t).N.length then 3 else 0
theorem z7q{t:List Td}{wd:Int}(hw:¬(wd<10\/100<wd))(h:q0c t=0):k0d t wd=pgE t:=by
 rw[k0d,if_neg hw,if_neg (by simp[h])];rfl
theorem k6n{t:List Td}(h9:opT t=9):pgE t=0:=by rw[pgE,if_pos h9]
theorem j6r{t:List Td}(h:q0c t=0)(h9:opT t≠9):pgE t=q8g t:=by
 have e:q8g t=if opT t=9 then 2 else if 400<(q1a t).N.length then 3 else 0:=by rw[q8g,if_neg (by simp[h])]
 rw[e,if_neg h9,pgE,if_neg h9]
def j9y(t:List Td)(wd:Int):ByteArray:=if k0d t wd=0 then wbS (q5g wd.toNat t)else⟨#[]⟩
def fmE:List (List Td)->Int
 | []=>0
 | t::r=>if pgE t≠0 then pgE t else fmE r
theorem q5p{t:List Td}{r:List (List Td)}(h:pgE t=0):fmE (t::r)=fmE r:=by rw[fmE,if_neg (by simp[h])]
theorem z6x{t:List Td}{r:List (List Td)}(h:pgE t≠0):fmE (t::r)=pgE t:=by rw[fmE,if_pos h]
inductive j9w (s:ByteArray) (wd:Int):ByteArray->Int->Int->Prop where
 | range (h:wd<10\/100<wd):j9w s wd ⟨#[]⟩ 0 1
 | bad {ps k f} (h:¬(wd<10\/100<wd)) (hp:q6l s ps k f) (hf:f≠0):j9w s wd ⟨#[]⟩ k f
 | full {ps} (h:¬(wd<10\/100<wd)) (hp:q6l s ps 0 0) (hf:fmE ps≠0):j9w s wd ⟨#[]⟩ 0 (fmE ps)
 | ok {ps} (h:¬(wd<10\/100<wd)) (hp:q6l s ps 0 0) (hf:fmE ps=0):j9w s wd (wbS (q2j wd.toNat ps)) 0 0
theorem q9c{s:ByteArray}{ps:List (List Td)}{k:Int}(h:q6l s ps k 0):k=0/\(q0o ps).2=0/\ps.length<=20/\∀t∈ps,q0c t=0:=by
 generalize A:(0:Int)=z at h;cases h with
 | lex h1=>exact absurd A.symm h1
 | bad=>cases A
 | full _ _ h1=>exact absurd A.symm h1
 | ok h1 h2 h3=>exact⟨rfl,h3,(z0u h3).1,z3m _ _ (z0u h3).2⟩
theorem k5h(wd:Nat):∀(n:Nat)(ws:List ByteArray),ws.length<=n->Few ws->∀l∈q2l wd ws,l.size<=1260
 | 0,ws,h,hF,l,hl=>by
  have:ws=[]:=List.eq_nil_of_length_eq_zero (by omega)
  subst this;rw[q5d]at hl;cases hl
 | n+1,ws,h,hF,l,hl=>by
  by_cases h0:ws=[]
  ·subst h0;rw[q5d]at hl;cases hl
  ·have hp:=q9y wd h0;rw[q5c wd h0]at hl;rcases List.mem_cons.1 hl with rfl|hl
   ·rw[k5m];exact(hF.take _).ln
   ·exact k5h wd n (ws.drop (agF wd ws)) (by simp only[List.length_drop];omega) (hF.drop _) l hl
abbrev ntF(l:ByteArray):List UInt8:=35::32::(btL l++[10])
theorem j3z{f:ByteArray->List UInt8}{b:Nat}:∀(ls:List ByteArray),(∀l∈ls,(f l).length<=b)->(ls.flatMap f).length<=ls.length*b
 | [],_=>by simp
 | l::r,h=>by
  have h1:=j3z r fun x hx=>h x (by simp[hx])
  have h2:=h l (by simp);rw[List.flatMap_cons,List.length_append,List.length_cons,Nat.add_mul];omega
theorem k5y{tx:ByteArray}(h:q3k tx=0):Few ((q0i (btL tx)).map wbS):=v6h h
theorem j6f{tx:ByteArray}(h:q3k tx=0)(wd:Nat):(ntL wd tx).length<=100000:=by
 have A:=k5y h;rw[ntL]
 split
 ·simp
 ·have B:=q8s (wd-2) _ ((q0i (btL tx)).map wbS) Zl
  have C:=j3z (f:=ntF) (b:=1300) (q2l (wd-2) ((q0i (btL tx)).map wbS)) fun l hl=>by
   have:=k5h (wd-2) _ _ Zl A l hl
   simp only[ntF,List.length_cons,List.length_append,List.length_nil,q0b];omega
  have D:=A.1
  show((q2l (wd-2) ((q0i (btL tx)).map wbS)).flatMap ntF).length<=100000
  have E:(q2l (wd-2) ((q0i (btL tx)).map wbS)).length*1300<=60*1300:=Nat.mul_le_mul_right _ (by omega);omega
theorem v6r{t:List Td}(h:q8g t=0){ws:List Int}{r:List UInt8}(hs:(q1a t).show ws=.ok r):r.length<=2000000:=by
 obtain⟨C,D,H,I⟩:=j4r h;unfold Tr.show at hs
 split at hs
 ·cases B:(q1a t).lay 0 ws with
  | error e=>rw[B]at hs;cases hs
  | ok p=>
   obtain⟨E,A⟩:=p;rw[B]at hs;have G:=q6p _ 0 ws E A (z1d C D).w B (by omega);cases A with
   | nil=>
    cases hs;omega
   | cons a b=>cases hs
 ·cases hs
theorem v8z{t:List Td}(h:q8g t=0)(wd:Nat):(dcL wd t).length<=2000001:=by
 obtain⟨u,_,e,A,_⟩:=k6d (t:=t) wd
 have:=v6r h A
 rw[e,List.length_append];simp only[List.length_cons,List.length_nil];omega
theorem k0e{t:List Td}(h:q0c t=0)(h9:opT t=9)(wd:Nat):q5g wd t=ntL wd (txT t):=by
 obtain⟨x,rfl,A,_⟩:=z3k h h9;rw[q5g,if_pos A];rfl
theorem k6c{t:List Td}(h:q0c t=0)(h9:opT t≠9)(wd:Nat):q5g wd t=dcL wd t:=by
 cases t with
 | nil=>exact absurd h (by decide)
 | cons x r=>exact if_neg (show ¬x.op=9 from h9)
theorem k3n{t:List Td}(h:q0c t=0)(hp:pgE t=0)(wd:Nat):(q5g wd t).length<=2000001:=by
 by_cases A:opT t=9
 ·rw[k0e h A];obtain⟨x,rfl,_,B,_⟩:=z3k h A
  have:=j6f B wd
  show(ntL wd x.tx).length<=2000001
  omega
 ·rw[k6c h A];exact v8z (by rw[<-j6r h A];exact hp) wd
theorem k2m(wd:Nat):∀ps:List (List Td),(∀t∈ps,q0c t=0)->fmE ps=0->(q2j wd ps).length<=ps.length*2000001
 | [],_,_=>by simp[q2j]
 | t::r,h,hf=>by
  have hp:pgE t=0:=by
   rcases Classical.em (pgE t=0)with e|e
   ·exact e
   ·rw[z6x e]at hf;exact hf
  rw[q5p hp]at hf;have A:=k2m wd r (fun x hx=>h x (by simp[hx])) hf;have B:=k3n (h t (by simp)) hp wd;have e:q2j wd (t::r)=q5g wd t++q2j wd r:=by simp[q2j]
  rw[e,List.length_append,List.length_cons,Nat.add_mul];omega
theorem k9c{s:ByteArray}{ps:List (List Td)}{k:Int}(h:q6l s ps k 0):q6h (btL s)=0/\PG false [] (q2x (btL s)) (.ok ps)/\(q0o ps).2=0:=by
 generalize A:(0:Int)=z at h;cases h with
 | lex h1=>exact absurd A.symm h1
 | bad=>cases A
 | full _ _ h1=>exact absurd A.symm h1
 | ok h1 h2 h3=>exact⟨h1,h2,h3⟩
theorem v7k{t:List Td}(h:q0c t=0):q0o [t]=(0,0):=by
 rw[q0o,if_neg (by simp),q4i,if_neg (by simp[h]),if_neg (by simp)];rfl
end Go.Proofs.YtelcnplcpboonaaGreatDoor
