import Derived.Test.YtchdplceopegoaaGreatDoorPi03
import Derived.BigQuiet
import Derived.Deep.QuietTactic
import Derived.Test.YtchdplceopegoaaGreatDoorShf
import Derived.Lib.Fields
import Derived.Lib.FrozenHead2
import Derived.Lib.OthersKept
import Derived.Lib.Slices
import Derived.Lib.Walk
import Derived.Laws.Externs
import Derived.Shelf.RegionOpenPlain
open Go.Proofs.Tryz
open List (length length_append length_cons length_drop length_nil)
namespace Go.Proofs.YtchdplceopegoaaGreatDoor
open Go Go.RowKit
structure Lst(wd:Nat)(ws:List ByteArray)(bL bF k:Nat)(w:World):Prop where
 ne:bL≠bF
 rl:k1g w bL (ws.length+1)
 rf:k1g w bF ws.length
 cl:∀j,k<=j->j<=ws.length->w.cell? ⟨bL,j,none⟩=some (.int .i64 ((best wd (ws.drop j):Nat):Int))
 cf:∀j,k<=j->j<ws.length->w.cell? ⟨bF,j,none⟩=some (.int .i64 ((agF wd (ws.drop j):Nat):Int))
theorem Lst.kept{wd:Nat}{ws:List ByteArray}{bL bF k:Nat}{w w':World}(h:Lst wd ws bL bF k w)(h1:w'.heap[bL]?=w.heap[bL]?)(h2:w'.heap[bF]?=w.heap[bF]?):Lst wd ws bL bF k w' where
 ne:=h.ne
 rl:=h.rl.kept h1
 rf:=h.rf.kept h2
 cl:=fun j a b=>(World.cell?_of_block (w:=w) (a:=⟨bL,j,none⟩) h1).trans (h.cl j a b)
 cf:=fun j a b=>(World.cell?_of_block (w:=w) (a:=⟨bF,j,none⟩) h2).trans (h.cf j a b)
theorem Lst.made(wd:Nat)(ws:List ByteArray)(w:World):
  Lst wd ws w.heap.size (w.heap.size+1) ws.length ((w.alloc (.cells (madeCells #[.int .i64 0] (ws.length+1)) 3)).alloc (.cells (madeCells #[.int .i64 0] ws.length) 3)):=by
 have A:((w.alloc (.cells (madeCells #[.int .i64 0] (ws.length+1)) 3)).alloc (.cells (madeCells #[.int .i64 0] ws.length) 3)).heap[w.heap.size]?=some (.cells (madeCells #[.int .i64 0] (ws.length+1)) 3 (0,0)):=
  (Below.heap_alloc _ _ _ (by simp)).trans (heap_alloc_new w _)
 have B:((w.alloc (.cells (madeCells #[.int .i64 0] (ws.length+1)) 3)).alloc (.cells (madeCells #[.int .i64 0] ws.length) 3)).heap[w.heap.size+1]?=some (.cells (madeCells #[.int .i64 0] ws.length) 3 (0,0)):=by
  have:=heap_alloc_new (w.alloc (.cells (madeCells #[.int .i64 0] (ws.length+1)) 3)) (.cells (madeCells #[.int .i64 0] ws.length) 3)
  simpa using this
 refine⟨by omega,⟨_,_,A,size_madeCells _ _⟩,⟨_,_,B,size_madeCells _ _⟩,fun j a b=>?_,fun j a b=>by omega⟩;obtain rfl:j=ws.length:=by omega
 have:best wd (ws.drop ws.length)=0:=by rw[List.drop_length];rfl
 rw[this];simp only[World.cell?,A];exact k3f _ (by omega)
structure Mid(wd:Nat)(ws:List ByteArray)(bL bF i m:Nat)(w:World):Prop where
 l:Lst wd ws bL bF (i+1) w
 c:1<=m->w.cell? ⟨bL,i,none⟩=some (.int .i64 ((q9p (fOf wd (ws.drop i)) m:Nat):Int))/\w.cell? ⟨bF,i,none⟩=some (.int .i64 ((j4a (fOf wd (ws.drop i)) m:Nat):Int))
theorem Mid.kept{wd:Nat}{ws:List ByteArray}{bL bF i m:Nat}{w w':World}(h:Mid wd ws bL bF i m w)(h1:w'.heap[bL]?=w.heap[bL]?)(h2:w'.heap[bF]?=w.heap[bF]?):Mid wd ws bL bF i m w' where
 l:=h.l.kept h1 h2
 c:=fun hm=>⟨(World.cell?_of_block (w:=w) (a:=⟨bL,i,none⟩) h1).trans (h.c hm).1,(World.cell?_of_block (w:=w) (a:=⟨bF,i,none⟩) h2).trans (h.c hm).2⟩
theorem Mid.start{wd:Nat}{ws:List ByteArray}{bL bF i:Nat}{w:World}(h:Lst wd ws bL bF (i+1) w):Mid wd ws bL bF i 0 w:=⟨h,fun hm=>by omega⟩
theorem Mid.skip{wd:Nat}{ws:List ByteArray}{bL bF i m:Nat}{w:World}(h:Mid wd ws bL bF i m w)(h1:¬(m=0\/fOf wd (ws.drop i) (m+1)<=q9p (fOf wd (ws.drop i)) m)):Mid wd ws bL bF i (m+1) w:=by
 refine⟨h.l,fun _=>?_⟩;rw[q9p,j4a,if_neg h1,if_neg h1];exact h.c (by omega)
theorem Mid.put{wd:Nat}{ws:List ByteArray}{bL bF i m:Nat}{w:World}(h:Mid wd ws bL bF i m w)(hi:i<ws.length)(h1:m=0\/fOf wd (ws.drop i) (m+1)<=q9p (fOf wd (ws.drop i)) m):
  Mid wd ws bL bF i (m+1) ((w.setCell ⟨bL,i,none⟩ (.int .i64 ((fOf wd (ws.drop i) (m+1):Nat):Int))).setCell ⟨bF,i,none⟩ (.int .i64 ((m:Int)+1))):=by
 have ne:=h.l.ne;refine⟨⟨ne,h.l.rl.set.set,h.l.rf.set.set,fun j a b=>?_,fun j a b=>?_⟩,fun _=>?_⟩
 ·exact(cso (.inl (Ne.symm ne))).trans ((cso (.inr (by omega))).trans (h.l.cl j a b))
 ·exact(cso (.inr (by omega))).trans ((cso (.inl ne)).trans (h.l.cf j a b))
 ·rw[q9p,j4a,if_pos h1,if_pos h1];obtain⟨C,A⟩:=h.l.rl.cell (i:=i) (by omega);obtain⟨D,B⟩:=h.l.rf.cell (i:=i) hi;exact⟨(cso (.inl (Ne.symm ne))).trans (css A),css ((cso (.inl ne)).trans B)⟩
theorem Mid.done{wd:Nat}{ws:List ByteArray}{bL bF i m:Nat}{w:World}(h:Mid wd ws bL bF i m w)(hi:i<ws.length)(hm:m=ws.length-i):Lst wd ws bL bF i w:=by
 have A:ws.drop i≠[]:=fun e=>by
  have:=congrArg length e
  rw[length_drop,length_nil]at this;omega
 obtain⟨B,C⟩:=h.c (by omega);refine⟨h.l.ne,h.l.rl,h.l.rf,fun j a b=>?_,fun j a b=>?_⟩
 ·by_cases e:j=i
  ·subst e;rw[z4k wd A,length_drop,<-hm];exact B
  ·exact h.l.cl j (by omega) b
 ·by_cases e:j=i
  ·subst e;rw[agF,length_drop,<-hm];exact C
  ·exact h.l.cf j (by omega) b
theorem j6p(wd:Nat)(ws:List ByteArray)(i k:Nat):fOf wd (ws.drop i) k=bd (ln ((ws.drop i).take k)) wd (k==ws.length-i)+best wd (ws.drop (i+k)):=by
 rw[fOf,List.drop_drop,length_drop]
set_option maxRecDepth 100000
set_option maxHeartbeats 4000000
theorem y8b{i q n:Nat}(h:i+q<=n):((i:Int)+(q:Int)==(n:Int))=(q==n-i):=by
 by_cases e:q=n-i
 ·rw[beq_iff_eq.2 e,beq_iff_eq.2 (by omega)]
 ·rw[beq_false_of_ne e,beq_false_of_ne (by omega)]
theorem k9h{ws:List ByteArray}{i q:Nat}(h1:1<=q)(h2:i+q<=ws.length):((ws.drop i).take q).length=q/\(ws.drop i).take q≠[]:=by
 have e:((ws.drop i).take q).length=q:=by rw[List.length_take,length_drop];omega
 exact⟨e,fun h=>by rw[h]at e;simp at e;omega⟩
theorem y4a{ws:List ByteArray}{b0 o0:Nat}{w wr:World}(hW:Wds w (some ⟨b0,o0,none⟩) ws)(hF:Few ws)(hb:Below w w wr)(i q c n:Nat)(h1:1<=q)(h2:i+q<=ws.length):
  Calls prog 156 #[.slice (some ⟨b0,o0+i,none⟩) q c] (wr.drewN n) fun e w'=>e=.returned (.int .i64 (ln ((ws.drop i).take q)))/\wr.drewN n=w':=
 v9m q _ (k9h h1 h2).1 _ c _ (k9h h1 h2).2 ((hF.drop i).take q) (Wds.W ((z3r.drop hW i).take q) (q0f hb n))
theorem j8w{wd:Nat}{ws:List ByteArray}{bL bF i q bv sv nq:Nat}{w:World}(h:Mid wd ws bL bF i (q-1) w)(hi:i<ws.length)(hq:1<=q)(ho:fOf wd (ws.drop i) q=bv+sv)(h1:q=1\/bv+sv<=q9p (fOf wd (ws.drop i)) (q-1)):
  Mid wd ws bL bF i (q+1-1) (((w.drewN nq).setCell (bL,i) ((bv:Int)+(sv:Int))).setCell (bF,i) (q:Int)):=by
 obtain⟨m,rfl⟩:∃m,q=m+1:=⟨q-1,by omega⟩;simp only[Nat.add_sub_cancel]at h h1⊢;have C:Mid wd ws bL bF i m (w.drewN nq):=h.kept rfl rfl
 have:=C.put hi (by rw[ho];omega)
 rw[ho]at this;have A:((bv+sv:Nat):Int)=(bv:Int)+(sv:Int):=by omega
 have B:((m+1:Nat):Int)=(m:Int)+1:=by omega
 rw[A]at this;rw[B];exact this
theorem v6u{wd:Nat}{ws:List ByteArray}{bL bF i q nq:Nat}{w:World}(h:Mid wd ws bL bF i (q-1) w)(hq:1<=q)(h1:¬fOf wd (ws.drop i) q<=q9p (fOf wd (ws.drop i)) (q-1))(h2:¬q=1):Mid wd ws bL bF i (q+1-1) (w.drewN nq):=by
 obtain⟨m,rfl⟩:∃m,q=m+1:=⟨q-1,by omega⟩;simp only[Nat.add_sub_cancel]at h h1⊢;have A:Mid wd ws bL bF i m (w.drewN nq):=h.kept rfl rfl;exact A.skip (by omega)
theorem k2o(ws:List ByteArray)(a:Option Addr)(cap wd:Nat)(w:World)(hc:ws.length<=cap)(hF:Few ws)(hw:wd<=100)(hW:Wds w a ws):
  Calls prog 120 #[.slice a ws.length cap,↑wd] w fun e w'=>(∃A c,e=.returned (.slice A (z4q wd ws).length c)/\z2b w.heap.size (.slice A (z4q wd ws).length c) (z4q wd ws) w')/\Below w w w':=by
 have hl:=hF.1;have HW:Hid (Wds w a ws):=hW;have y:Hid (Few ws):=hF
 have Aq:∀W:World,(Instr.makeSlice 63 ↑((ws.length:Int)+1) ↑((ws.length:Int)+1)).run prog W=.ok (.slice ↑W.heap.size (ws.length+1) (ws.length+1)) (W.alloc (.cells (madeCells #[.int .i64 0] (ws.length+1)) 3)):=fun W=>by
  have:=run_make_row' 63 3 _ 8 Tryz.underlying63 z3f rfl .i64 .i64 (ws.length+1) (by omega) (by omega) W
  have e:((ws.length+1:Nat):Int)=(ws.length:Int)+1:=by omega
  rw[e]at this;exact this
 have Ar:∀W:World,(Instr.makeSlice 63 (.int .i64 (ws.length:Int)) (.int .i64 (ws.length:Int))).run prog W=.ok (.slice (some ⟨W,0,none⟩) ws.length ws.length) (W.alloc (.cells (madeCells #[.int .i64 0] ws.length) 3)):=fun W=>
  run_make_row' 63 3 _ 8 Tryz.underlying63 z3f rfl .i64 .i64 ws.length (by omega) (by omega) W
 have HM:Hid (Lst wd ws w.heap.size (w.heap.size+1) ws.length ((w.alloc (.cells (madeCells #[.int .i64 0] (ws.length+1)) 3)).alloc (.cells (madeCells #[.int .i64 0] ws.length) 3))):=Lst.made wd ws w;clear hW hF;go_in;go_wp2
 go_loopw [7] (fun i wr=>Below w w wr/\∃k:Nat,k<=ws.length/\i=↑((k:Int)-1)/\Lst wd ws w.heap.size (w.heap.size+1) k wr) (fun i _=>(intOf i+1).toNat)
 case atStart=>exact⟨((Below.refl _ w).alloc Zl _).alloc (by simp) _,ws.length,Nat.le_refl _,by go_num,HM.o⟩
 case round=>
  obtain⟨g,k,hk,rfl,hL⟩:=hrel;have HB:Hid (Below w w wr):=g;have t:Hid (Lst wd ws w.heap.size (w.heap.size+1) k wr):=hL;clear g hL;by_cases o:k=0
  ·subst o;have Ak:¬((0:Int)<=((0:Nat):Int)-1):=by omega
   have Af:w.heap.size+2<=wr.heap.size:=t.o.rf.lt;go_wp2
   go_loopw [10,11] (fun l i wx=>Below (w.heap.size+2) wr wx/\∃(k:Nat)(C:List Nat)(A:Option Addr)(c:Nat),k<=ws.length/\C.length<=k/\i=(k:Int)/\l=.slice A C.length c/\z2b (w.heap.size+2) (.slice A C.length c) C wx/\z4q wd ws=C++z4q wd (ws.drop k)) (fun _ i _=>ws.length-(intOf i).toNat)
   case atStart=>exact⟨Below.refl _ _,0,[],none,0,Nat.zero_le _,Nat.le_refl _,rfl,rfl,World.ownsRow_nil _ _ _ _,rfl⟩
   case round=>
    rename_i wo0 wo1 wo2;obtain⟨I,k,C,A,c,An,Ao,rfl,rfl,hO,hcut⟩:=hrel;have V:Hid (Below (w.heap.size+2) _ wr):=I;have H:Hid (z2b (w.heap.size+2) (.slice A C.length c) C wr):=hO;have HC:Hid (z4q wd ws=C++z4q wd (ws.drop k)):=hcut;have z:Hid (Lst wd ws w.heap.size (w.heap.size+1) 0 wr):=t.o.kept (I.block _ (by omega)) (I.block _ (by omega));have Au:=I.size;clear I hO hcut;by_cases E:k<ws.length
    ·have R:(k:Int)<(ws.length:Int):=by omega
     have Q:ws.drop k≠[]:=fun e=>by
      have:=congrArg length e
      rw[length_drop,length_nil]at this;omega
     have c1:=z.o.cf k (Nat.zero_le _) E
     have X:Hid (z4q wd ws=(C++[agF wd (ws.drop k)])++z4q wd (ws.drop (k+agF wd (ws.drop k)))):=by
      show z4q wd ws=_;rw[HC.o,z0r wd Q,List.drop_drop,List.append_assoc];rfl
     obtain⟨Ac,m⟩:=z2d wd Q;rw[length_drop]at m;have Y:Hid (∀W:World,Lst wd ws w.heap.size (w.heap.size+1) 0 W->W.cell? (w.heap.size+1,k)=some ↑((agF wd (ws.drop k):Nat):Int)):=fun W h=>h.cf k (Nat.zero_le _) E
     generalize agF wd (ws.drop k)=av at c1 X Ac m Y;clear Q;obtain⟨i0,Ad,Ag,Ah,Ai⟩:=info_parts z3f;go_wp2_with(at_builtin;refine wpList_append_lies _ rfl _ _ 63 rfl (w.heap.size+2) 3 i0 _ 1 8 Tryz.underlying63 Ad Ag Ah Ai rfl (by decide) _ _ _ rfl (World.ownsRow.alloc H.o _) wr.heap.size 1 1 [(av:Int)] rfl rfl (cell_one_new wr _ _) (by intro u hu;simp at hu;subst hu;rfl) (by decide) (by unfold maxLen;omega) (by omega) (by simp;omega) (wr.heap.size+1) (by simp) ?_);intro g2 N w2 J D f r;have K:=(V.o.alloc (by omega) (.cells #[(av:Int)] 3)).grown D (by simp;omega) (fun j hj=>(World.ownsRow.lt H.o j hj).1);have x:=(show Hid (Below _ _ _)from K);have c2:=Y.o w2 (t.o.kept (K.block _ (by omega)) (K.block _ (by omega)))
     have Aa:Hid (z2b (w.heap.size+2) (.slice g2 (C.length+1) N) (C++[av]) w2):=by
      show w2.ownsRow _ _ _ _ _ _;rw[z3i,length_append];exact J
     clear J D K f r;go_wp2
     go_roundw
     case rel=>exact⟨x.o,k+av,C++[av],some ↑g2,N,by omega,by simp;omega,by go_num,by rw[length_append];rfl,by rw[length_append];exact Aa.o,X.o⟩
     case measure=>simp[intOf];omega
    ·have Ap:¬(k:Int)<(ws.length:Int):=by omega
     have HE:Hid (z4q wd ws=C):=by
      show z4q wd ws=C;rw[HC.o,List.drop_eq_nil_of_le (by omega),z3y,List.append_nil]
     go_wp2;go_ret;rw[HE.o];exact⟨⟨A,c,rfl,Joins.ownsRow_le H.o (by omega)⟩,HB.o.trans (V.o.mono (by omega))⟩
  ·obtain⟨i,rfl⟩:∃i,k=i+1:=⟨k-1,by omega⟩;have R:(((i+1:Nat):Int)-1)=(i:Int):=by omega
   rw[R];have v:i<ws.length:=by omega
   clear R o;go_wp2
   go_loopw [8] (fun n wx=>Below w w wx/\∃q:Nat,1<=q/\i+q<=ws.length+1/\n=(q:Int)/\Mid wd ws w.heap.size (w.heap.size+1) i (q-1) wx) (fun n _=>(ws.length+1-(intOf n).toNat))
   case atStart=>exact⟨HB.o,1,by omega,by omega,by go_num,Mid.start t.o⟩
   case round=>
    rename_i wy;obtain⟨g,q,M,As,rfl,hM⟩:=hrel;have G:Hid (Below w w wr):=g;have B:Hid (Mid wd ws w.heap.size (w.heap.size+1) i (q-1) wr):=hM;clear g hM;by_cases E:i+q<=ws.length
    ·obtain⟨b0,o0,ea,Al⟩:=HW.o.some (show 0<ws.length by omega);subst ea;have Aj:(i:Int)+(q:Int)<=(ws.length:Int):=by omega
     have At:=v1u b0 o0 ws.length cap i q (by omega) (by omega);have P:wr.cell? (w.heap.size,i+q)=some (.int .i64 ((best wd (ws.drop (i+q)):Nat):Int)):=B.o.l.cl (i+q) (by omega) E
     have Z:Hid (∀n,Cp 156 #[.slice (some ↑(b0,o0+i)) q (cap-i)] (wr.drewN n) fun e w'=>e=.returned (ln ((ws.drop i).take q))/\w'=wr.drewN n):=fun n=>
      (y4a HW.o y.o G.o i q (cap-i) n M E).mono fun _ _ h=>⟨h.1,h.2.symm⟩
     have O:Hid (∀n,Cp 155 #[(ln ((ws.drop i).take q)),wd,.bool ((i:Int)+(q:Int)==(ws.length:Int))] (wr.drewN n) fun e w'=>e=.returned (.int .i64 (bd (ln ((ws.drop i).take q)) wd (q==ws.length-i)))/\w'=wr.drewN n):=fun n=>by
      rw[y8b E];exact(v9i _ wd _ _ ((y.o.drop i).take q).ln hw).mono fun _ _ h=>⟨h.1,h.2.symm⟩
     have H:Hid (fOf wd (ws.drop i) q=bd (ln ((ws.drop i).take q)) wd (q==ws.length-i)+best wd (ws.drop (i+q))):=j6p wd ws i q;have L:=j6q hw (y.o.drop i) q;rw[H.o]at L;generalize ln ((ws.drop i).take q)=lv at Z O H L;generalize bd lv wd (q==ws.length-i)=bv at O H L;generalize best wd (ws.drop (i+q))=sv at P H L;go_wp2_with fail
     go_quiet (first|(go_at_call 156;exact Calls.quiet_of_same (Z.o _))|(go_at_call 155;exact Calls.quiet_of_same (O.o _)))
     obtain⟨y1,e1⟩:=B.o.l.rl.cell (show i<ws.length+1 by omega);obtain⟨y2,e2⟩:=B.o.l.rf.cell v;have f1:wr.frozen? (w.heap.size,i)=false:=B.o.l.rl.frozen;have f2:wr.frozen? (w.heap.size+1,i)=false:=B.o.l.rf.frozen;have Af:w.heap.size+1<wr.heap.size:=B.o.l.rf.lt;by_cases U:q=1
     ·have Ae:((q:Int)==1)=true:=by simp[U]
      have d:=hid (j8w (nq:=nq) B.o v M H.o (.inl U));clear U;go_wp2
      go_roundw
      case rel=>exact⟨j5b (q0f G.o nq) Zl (by omega),q+1,by omega,by omega,by go_num,d.o⟩
      case measure=>simp[intOf];omega
     ·have Ae:((q:Int)==1)=false:=by simp;omega
      have Ab:=(B.o.c (by omega)).1;generalize s:q9p (fOf wd (ws.drop i)) (q-1)=mv at Ab;have b:Hid (q9p (fOf wd (ws.drop i)) (q-1)=mv):=s;clear s e1;by_cases S:bv+sv<=mv
      ·have d:=hid (j8w (nq:=nq) B.o v M H.o (.inr (by rw[b.o];exact S)));have p:(bv:Int)+(sv:Int)<=(mv:Int):=by omega
       clear U S;go_wp2
       go_roundw
       case rel=>exact⟨j5b (q0f G.o nq) Zl (by omega),q+1,by omega,by omega,by go_num,d.o⟩
       case measure=>simp[intOf];omega
      ·have d:=hid (v6u (nq:=nq) B.o M (by rw[H.o,b.o];omega) U);have p:¬(bv:Int)+(sv:Int)<=(mv:Int):=by omega
       clear U S;go_wp2
       go_roundw
       case rel=>exact⟨q0f G.o nq,q+1,by omega,by omega,by go_num,d.o⟩
       case measure=>simp[intOf];omega
    ·have Am:¬(i:Int)+(q:Int)<=(ws.length:Int):=by omega
     have HD:Hid (Lst wd ws w.heap.size (w.heap.size+1) i wr):=B.o.done v (by omega);go_wp2
     go_roundw
     case rel=>exact⟨G.o,i,by omega,by go_num,HD.o⟩
     case measure=>simp[intOf]
def q1v(wd:Nat)(ws:List ByteArray):List ByteArray:=j8p ws (z4q wd ws)
theorem q3x(wd:Nat){ws:List ByteArray}(h:ws≠[]):q1v wd ws=jnS (ws.take (agF wd ws))::q1v wd (ws.drop (agF wd ws)):=by
 rw[q1v,z0r wd h];rfl
theorem q4h(wd:Nat):q1v wd []=[]:=by rw[q1v,z3y];rfl
theorem q8a(wd:Nat):∀(n:Nat)(ws:List ByteArray),ws.length<=n->(q1v wd ws).length<=ws.length
 | 0,ws,h=>by
  have:ws=[]:=List.eq_nil_of_length_eq_zero (by omega)
  subst this;rw[q4h];simp
 | n+1,ws,h=>by
  by_cases h0:ws=[]
  ·subst h0;rw[q4h];simp
  ·have hp:=z2d wd h0;have ih:=q8a wd n (ws.drop (agF wd ws)) (by simp only[length_drop];omega);rw[q3x wd h0,length_cons];simp only[length_drop]at ih;omega
theorem j2x(s:ByteArray)(w:World)(h:s.size<=281474976710656):
  Cb 77 #[.string s] w (.string s):=by
 unfold Cb;go_in;go_wp2_with fail;refine(clone_sh s _ h).mono ?_;rintro e B⟨rfl,A⟩;go_wp2;go_ret;exact⟨rfl,A⟩
theorem v9l(n:Nat)(ws:List ByteArray)(hn:ws.length=n)(b o c:Nat)(w:World)(hc:n<=c)(hb:b<w.heap.size)(hF:Few ws)(hW:Wds w (some ⟨b,o,none⟩) ws):
  Cb 121 #[.slice (some ⟨b,o,none⟩) n c] w (.string (jnS ws)):=by
 unfold Cb;subst hn
 have C:Hid (∀W:World,Below w w W->Cb 86 #[.slice (some ⟨b,o,none⟩) ws.length c,.string ⟨#[32]⟩] W (.string (jnS ws))):=fun W hB=>by
  have K:=hF.ln;have H:=hF.1;refine join_sh b o c ws ⟨#[32]⟩ W ?_ (Nat.lt_of_lt_of_le hb hB.size) (by omega) hc ?_
  ·intro j x I;obtain⟨G,rfl⟩:=List.getElem?_eq_some_iff.1 I;obtain⟨J,L,e,_,E⟩:=Wds.W hW hB j G;simp only[Option.some.injEq,Addr.mk.injEq,and_true]at e;obtain⟨rfl,rfl⟩:=e;exact E
  ·have:=j7q ws
   show(jnL ws).length<=_
   omega
 have D:(jnS ws).size<=281474976710656:=by
  rw[z4a]
  have:=hF.ln
  omega
 generalize jnS ws=s at C D;go_in;go_wp2_with fail;refine(C.o _ Zb).mono ?_;rintro e M⟨rfl,A⟩;go_wp2_with fail;refine(j2x s _ D).mono ?_;rintro e N⟨rfl,B⟩;go_wp2;go_ret;exact⟨rfl,q0e A Zl B⟩
structure j4d(wd:Nat)(ws:List ByteArray)(ks:List Nat)(w w1:World)(k:Nat)(vs done:List ByteArray)(A L:Option Addr)(c lc:Nat)(wr:World):Prop where
 b:Below w1 w1 wr
 le:k<=ks.length
 vc:vs.length<=c
 wo:Wds w A vs
 fe:Few vs
 cu:ks.drop k=z4q wd vs
 ro:q2i w1 (.slice L done.length lc) done wr
 li:q1v wd ws=done++q1v wd vs
 dl:done.length+vs.length<=60
theorem j4d.step{wd:Nat}{ws:List ByteArray}{ks:List Nat}{w w1:World}{k:Nat}{vs A:List ByteArray}{b o:Nat}{L:Option Addr}{c lc:Nat}{wr:World}(h:j4d wd ws ks w w1 k vs A (some ⟨b,o,none⟩) L c lc wr)(hk:k<ks.length):
  ∃q,ks[k]=q/\1<=q/\q<=vs.length/\∃A',(∀W:World,(Instr.slice 51 (.slice (some ⟨b,o,none⟩) vs.length c) (some (.int .i64 (q:Int))) none none).run prog W=.ok (.slice A' (vs.drop q).length (c-q)) W)/\
   ∀g cap2 w2,Below w1 w1 w2->q2i w1 (.slice (some ⟨g,0,none⟩) (A++[jnS (vs.take q)]).length cap2) (A++[jnS (vs.take q)]) w2->j4d wd ws ks w w1 (k+1) (vs.drop q) (A++[jnS (vs.take q)]) A' (some ⟨g,0,none⟩) (c-q) cap2 w2:=by
 have B:vs≠[]:=fun e=>by
  have C:=h.cu;rw[e,z3y]at C
  have:=congrArg length C
  rw[length_drop,length_nil]at this;omega
 have C:=h.cu;rw[List.drop_eq_getElem_cons hk,z0r wd B,List.cons.injEq]at C;obtain⟨H,D⟩:=z2d wd B;obtain⟨A',E,G⟩:=y5m h.wo D h.vc;refine⟨agF wd vs,C.1,H,D,A',E,fun g cap2 w2 hb hs=>?_⟩;exact{b:=hb,le:=hk,vc:=by have:=h.vc;rw[length_drop];omega,wo:=G,fe:=h.fe.drop _,cu:=C.2,ro:=hs,li:=by rw[h.li,q3x wd B,List.append_assoc];rfl,dl:=by have:=h.dl;rw[length_append,length_drop];simp;omega}
theorem v9k(ws:List ByteArray)(a:Option Addr)(cap wd:Nat)(w:World)(hc:ws.length<=cap)(hW:Wds w a ws)(h0:q6w ws wd=0):
  Calls prog 85 #[.slice a ws.length cap,.int .i64 wd] w fun e w'=>(∃L c,e=.returned (.tuple #[.slice L (q1v wd ws).length c,.nilIface])/\q2i w (.slice L (q1v wd ws).length c) (q1v wd ws) w')/\Below w w w':=by
 obtain⟨Ae,n,Au,Av,Ai⟩:=j1p h0;obtain rfl:wd=n:=by omega
 have H0:Hid (q6w ws wd=0):=h0;have y:Hid (Few ws):=y0g Ae;have hl:=y.o.1;have HW:Hid (Wds w a ws):=hW;go_in;go_wp2_with fail;refine(v3t ws a cap wd _ HW.o).mono ?_;rintro e O⟨rfl,rfl⟩;rw[H0.o,q1n];go_wp2_with fail;refine(k2o ws a cap wd _ hc y.o Ai HW.o).mono ?_;rintro e H⟨⟨K,kc,rfl,hO⟩,X⟩;generalize m:z4q wd ws=C at hO;have HK:Hid (z2b w.heap.size (.slice K C.length kc) C H):=hO;have z:Hid (z4q wd ws=C):=m;have R:Hid (Below w w H):=X
 have As:C.length<=60:=by
  have:=q8a wd _ ws Zl
  have e:∀(C:List Nat)(ws:List ByteArray),(j8p ws C).length=C.length:=by
   intro C
   induction C with
   | nil=>intro ws;rfl
   | cons k r ih=>intro ws;simp[j8p,ih]
  rw[q1v,e,m]at this;omega
 have N:=X.size;go_wp2
 go_loopw [0,7,20] (fun l x i wr=>∃(k:Nat)(D B:List ByteArray)(A L:Option Addr)(c Q:Nat),l=.slice A D.length c/\x=.slice L B.length Q/\i=.int .i64 (k:Int)/\j4d wd ws C w H k D B A L c Q wr) (fun _ _ i _=>C.length-(intOf i).toNat)
 case atStart=>exact⟨0,ws,[],a,none,cap,0,rfl,rfl,rfl,{b:=Below.refl _ _,le:=Nat.zero_le _,vc:=hc,wo:=HW.o,fe:=y.o,cu:=z.o.symm,ro:=World.ownsRow_nil _ _ _ _,li:=rfl,dl:=by simpa using hl}⟩
 case round=>
  obtain⟨k,D,B,A,L,c,Q,rfl,rfl,rfl,V⟩:=hrel;have E:Hid (j4d wd ws C w H k D B A L c Q wr):=V;have At:=V.le;have Az:=V.vc;have Aq:=V.dl;have Aj:=V.b.size;by_cases o:k<C.length
  ·have Ah:(k:Int)<(C.length:Int):=by omega
   obtain⟨g,rfl,hg,c0⟩:=z7p HK.o k o;have c1:wr.cell? ⟨g,k,none⟩=some (.int .i64 ((C[k]:Nat):Int)):=(E.o.b.cell (p:=⟨g,k,none⟩) hg).trans c0
   have Ak:0<D.length:=by
    rcases Nat.eq_zero_or_pos D.length with h|h
    ·have:D=[]:=List.eq_nil_of_length_eq_zero h
     have P:=E.o.cu;rw[this,z3y]at P
     have:=congrArg length P
     rw[length_drop,length_nil]at this;omega
    ·exact h
   obtain⟨b0,o0,ea,Ac⟩:=E.o.wo.some Ak;subst ea;obtain⟨q,hq,Aw,Ax,A',hs,J⟩:=E.o.step o;rw[hq]at c1;have S:=hid J;have Af:=y5l (some ⟨b0,o0,none⟩) D.length c q (by omega);have Z:Below w w wr:=R.o.trans (E.o.b.mono N)
   have HL:Hid (Cb 121 #[.slice (some ⟨b0,o0,none⟩) q c] wr (.string (jnS (D.take q)))):=
    v9l q (D.take q) (by rw[List.length_take];omega) b0 o0 c wr (by omega) (Nat.lt_of_lt_of_le Ac Z.size) (E.o.fe.take q) (Wds.W (E.o.wo.take q) Z)
   generalize Ar:jnS (D.take q)=s at HL S;generalize f:(D.drop q).length=dl at hs;have v:Hid ((D.drop q).length=dl):=f;go_wp2_with fail;refine HL.o.mono ?_;rintro e O⟨rfl,Y⟩;have U:Hid (q2i H (.slice L B.length Q) B O):=q2r E.o.ro Y;have d:Below H H O:=E.o.b.trans (Y.mono Aj);have t:Hid (Below H H O):=d;have Ay:=d.size;obtain⟨i0,Ag,Al,Am,An⟩:=info_parts z1l;go_wp2_with(at_builtin;refine wpList_append_lies _ rfl _ _ 51 rfl H.heap.size 9 i0 _ 1 16 Tryz.underlying51 Ag Al Am An rfl (by decide) _ _ _ rfl (World.ownsRow.alloc U.o _) ⟨O,0,none⟩ 1 1 [.string s] rfl rfl (cell_one_new O _ _) (by intro u hu;simp at hu;subst hu;rfl) (by decide) (by unfold maxLen;omega) (by omega) (by simp;omega) (O.heap.size+1) (by simp) ?_);intro g2 G w3 M I Ao Ap;have Ad:=(t.o.alloc (by omega) (.cells #[.string s] 9)).grown I (by simp;omega) (fun j hj=>(World.ownsRow.lt U.o j hj).1)
   have Ab:q2i H (.slice (some ⟨g2,0,none⟩) (B++[s]).length G) (B++[s]) w3:=by
    show w3.ownsRow _ _ _ _ _ _;rw[q2f,length_append];exact M
   have Aa:=hid (S.o g2 G w3 Ad Ab);go_wp2
   go_roundw
   case rel=>exact⟨k+1,D.drop q,B++[s],A',some ⟨g2,0,none⟩,c-q,G,by rw[v.o],by rw[length_append];rfl,by go_num,Aa.o⟩
   case measure=>simp[intOf];omega
  ·have Ah:¬(k:Int)<(C.length:Int):=by omega
   have HE:Hid (q1v wd ws=B):=by
    show q1v wd ws=B;have P:=E.o.cu;rw[List.drop_eq_nil_of_le (by omega)]at P
    have h2:D=[]:=by
     by_cases h:D=[]
     ·exact h
     ·rw[z0r wd h]at P;cases P
    rw[E.o.li,h2,q4h,List.append_nil]
   go_wp2;go_ret2;rw[HE.o];exact⟨⟨L,Q,rfl,Joins.ownsRow_le E.o.ro N⟩,R.o.trans (E.o.b.mono N)⟩
def Prg(w:World)(a:Option Addr)(ps:List (List Td)):Prop:=
 ∀i(h:i<ps.length),∃b o a' c',a=some ⟨b,o,none⟩/\b<w.heap.size/\w.cell? ⟨b,o+i,none⟩=some (.slice a' ps[i].length c')/\ps[i].length<=c'/\Tds w a' ps[i]
theorem Prg.W{w w':World}{a:Option Addr}{ps:List (List Td)}(h:Prg w a ps)(hb:Below w w w'):Prg w' a ps:=by
 intro i H;obtain⟨b,o,B,C,e,A,D,E,G⟩:=h i H
 have:=hb.size
 exact⟨b,o,B,C,e,by omega,((q0s hb).1 _ _ A).trans D,E,G.W hb⟩
theorem Prg.nil(w:World)(a:Option Addr):Prg w a []:=fun i hi=>by simp at hi
def y6q(ps:List (List Td)):ByteArray:=if(q0z ps).2=0 then wbS (q2w ps)else⟨#[]⟩
theorem v1h{ps:List (List Td)}(h:(q0z ps).2=0):y6q ps=wbS (q2w ps):=by rw[y6q,if_pos h]
theorem y5e{ps:List (List Td)}(h:(q0z ps).2≠0):y6q ps=⟨#[]⟩:=by rw[y6q,if_neg h]
def z4g(s:ByteArray)(W:World)(e:Ending)(w':World):Prop:=∃ps k f A c,e=.returned (.tuple #[.slice A ps.length c,.int .i64 k,q2m f])/\z0i s ps k f/\Prg w' A ps/\ps.length<=c/\Below W W w'
theorem z3l(l:List UInt8):(wbS l).size=l.length:=by rw[<-q0c];rfl
def pgE(t:List Td):Int:=if opT t=9 then 0 else if 400<(q0w t).N.length then 3 else 0
theorem k6t{t:List Td}{wd:Int}(hw:¬(wd<10\/100<wd))(h:q0b t=0):k9n t wd=pgE t:=by
 rw[k9n,if_neg hw,if_neg (by simp[h])];rfl
theorem k0g{t:List Td}(h9:opT t=9):pgE t=0:=by rw[pgE,if_pos h9]
theorem k6z{t:List Td}(h:q0b t=0)(h9:opT t≠9):pgE t=q9m t:=by
 have e:q9m t=if opT t=9 then 2 else if 400<(q0w t).N.length then 3 else 0:=by rw[q9m,if_neg (by simp[h])]
 rw[e,if_neg h9,pgE,if_neg h9]
def v7g(t:List Td)(wd:Int):ByteArray:=if k9n t wd=0 then wbS (q7c wd.toNat t)else⟨#[]⟩
def fmE:List (List Td)->Int
 | []=>0
 | t::r=>if pgE t≠0 then pgE t else fmE r
theorem z0v{t:List Td}{r:List (List Td)}(h:pgE t=0):fmE (t::r)=fmE r:=by rw[fmE,if_neg (by simp[h])]
theorem j7e{t:List Td}{r:List (List Td)}(h:pgE t≠0):fmE (t::r)=pgE t:=by rw[fmE,if_pos h]
theorem k0f{s:ByteArray}{ps:List (List Td)}{k:Int}(h:z0i s ps k 0):k=0/\(q0z ps).2=0/\ps.length<=20/\∀t∈ps,q0b t=0:=by
 generalize A:(0:Int)=z at h;cases h with
 | lex h1=>exact absurd A.symm h1
 | bad=>cases A
 | full _ _ h1=>exact absurd A.symm h1
 | ok h1 h2 h3=>exact⟨rfl,h3,(k0i h3).1,k0b _ _ (k0i h3).2⟩
theorem z9i(wd:Nat):∀(n:Nat)(ws:List ByteArray),ws.length<=n->Few ws->∀l∈q1v wd ws,l.size<=1260
 | 0,ws,h,hF,l,hl=>by
  have:ws=[]:=List.eq_nil_of_length_eq_zero (by omega)
  subst this;rw[q4h]at hl;cases hl
 | n+1,ws,h,hF,l,hl=>by
  by_cases h0:ws=[]
  ·subst h0;rw[q4h]at hl;cases hl
  ·have hp:=z2d wd h0;rw[q3x wd h0]at hl;rcases List.mem_cons.1 hl with rfl|hl
   ·rw[z4a];exact(hF.take _).ln
   ·exact z9i wd n (ws.drop (agF wd ws)) (by simp only[length_drop];omega) (hF.drop _) l hl
abbrev ntF(l:ByteArray):List UInt8:=35::32::(btL l++[10])
theorem k5v{f:ByteArray->List UInt8}{b:Nat}:∀(ls:List ByteArray),(∀l∈ls,(f l).length<=b)->(ls.flatMap f).length<=ls.length*b
 | [],_=>by simp
 | l::r,h=>by
  have h1:=k5v r fun x hx=>h x (by simp[hx])
  have h2:=h l (by simp);rw[List.flatMap_cons,length_append,length_cons,Nat.add_mul];omega
theorem z9y{tx:ByteArray}(h:q2t tx=0):Few ((q0d (btL tx)).map wbS):=y0g h
theorem v0f{tx:ByteArray}(h:q2t tx=0)(wd:Nat):(ntL wd tx).length<=100000:=by
 have A:=z9y h;rw[ntL]
 split
 ·simp
 ·have B:=q8a (wd-2) _ ((q0d (btL tx)).map wbS) Zl
  have C:=k5v (f:=ntF) (b:=1300) (q1v (wd-2) ((q0d (btL tx)).map wbS)) fun l hl=>by
   have:=z9i (wd-2) _ _ Zl A l hl
   simp only[ntF,length_cons,length_append,length_nil,q0c];omega
  have D:=A.1
  show((q1v (wd-2) ((q0d (btL tx)).map wbS)).flatMap ntF).length<=100000
  have E:(q1v (wd-2) ((q0d (btL tx)).map wbS)).length*1300<=60*1300:=Nat.mul_le_mul_right _ (by omega);omega
theorem j7z{t:List Td}(h:q9m t=0){ws:List Int}{r:List UInt8}(hs:(q0w t).show ws=.ok r):r.length<=2000000:=by
 obtain⟨C,D,H,I⟩:=j8a h;unfold Tr.show at hs
 split at hs
 ·cases B:(q0w t).lay 0 ws with
  | error e=>rw[B]at hs;cases hs
  | ok p=>
   obtain⟨E,A⟩:=p;rw[B]at hs;have G:=q6c _ 0 ws E A (z6x C D).w B (by omega);cases A with
   | nil=>
    cases hs;omega
   | cons a b=>cases hs
 ·cases hs
theorem y3c{t:List Td}(h:q9m t=0)(wd:Nat):(dcL wd t).length<=2000001:=by
 obtain⟨u,_,e,A,_⟩:=v7h (t:=t) wd
 have:=j7z h A
 rw[e,length_append];simp only[length_cons,length_nil];omega
theorem z5i{t:List Td}(h:q0b t=0)(h9:opT t=9)(wd:Nat):q7c wd t=ntL wd (txT t):=by
 obtain⟨x,rfl,A,_⟩:=k3n h h9;rw[q7c,if_pos A];rfl
theorem k0c{t:List Td}(h:q0b t=0)(h9:opT t≠9)(wd:Nat):q7c wd t=dcL wd t:=by
 cases t with
 | nil=>exact absurd h (by decide)
 | cons x r=>exact if_neg (show ¬x.op=9 from h9)
theorem v0s{t:List Td}(h:q0b t=0)(hp:pgE t=0)(wd:Nat):(q7c wd t).length<=2000001:=by
 by_cases A:opT t=9
 ·rw[z5i h A];obtain⟨x,rfl,_,B,_⟩:=k3n h A
  have:=v0f B wd
  show(ntL wd x.tx).length<=2000001
  omega
 ·rw[k0c h A];exact y3c (by rw[<-k6z h A];exact hp) wd
abbrev neW(w:Wd):Bool:=!w.isEmpty
theorem k5x:∀(ws:List Wd)(t:Wd),ws.foldl q6i t=(ws.filter neW).foldl q6i t
 | [],_=>rfl
 | w::r,t=>by
  cases w with
  | nil=>
   have e:q6i t []=t:=by simp[q6i]
   rw[List.foldl_cons,e,k5x r t];rfl
  | cons c z=>exact k5x r _
theorem z4t:∀(l cur h:Wd)(tl:List Wd),(∀b∈l,Lib.isSp b=true->b=32)->q4x l=h::tl->Lib.fieldsGo cur l=((cur++h)::tl).filter neW
 | [],cur,h,tl,_,e=>by
  have e2:[[]]=h::tl:=e;simp only[List.cons.injEq]at e2;obtain⟨rfl,rfl⟩:=e2;cases cur<;>simp[Lib.fieldsGo]
 | b::l,cur,h,tl,hb,e=>by
  have hl:∀x∈l,Lib.isSp x=true->x=32:=fun x hx=>hb x (by simp[hx])
  cases hs:q4x l with
  | nil=>exact absurd hs (q8j l)
  | cons h2 tl2=>
   by_cases h32:b=32
   ·subst h32;rw[q5d,hs]at e;simp only[List.cons.injEq]at e;obtain⟨rfl,rfl⟩:=e;have ih:=z4t l [] h2 tl2 hl hs;have hsp:Lib.isSp 32=true:=by decide
    cases cur with
    | nil=>rw[Lib.fieldsGo_sp _ _ hsp,ih];simp
    | cons a z=>rw[Lib.fieldsGo_end _ _ _ hsp (by simp),ih];simp
   ·have hsp:Lib.isSp b=false:=by
     cases A:Lib.isSp b with
     | false=>rfl
     | true=>exact absurd (hb b (by simp) A) h32
    rw[q5e h32 hs]at e;simp only[List.cons.injEq]at e;obtain⟨rfl,rfl⟩:=e;rw[Lib.fieldsGo_more _ _ _ hsp,z4t l (cur++[b]) h2 tl2 hl hs];simp
theorem z2i{l:Wd}(h:∀b∈l,Lib.isSp b=true->b=32):Lib.fields l=(q4x l).filter neW:=by
 cases A:q4x l with
 | nil=>exact absurd A (q8j l)
 | cons a tl=>exact z4t l [] a tl h A
theorem k2e{l:Wd}(h:∀b∈l,Lib.isSp b=true->b=32):∀w∈Lib.fields l,w≠[]:=by
 intro w A;rw[z2i h]at A
 have:=(List.mem_filter.1 A).2
 rintro rfl;simp at this
theorem j2j{l:Wd}(h:∀b∈l,Lib.isSp b=true->b=32):ntx (q0d l)=jb (Lib.fields l):=by
 have e:(q0d l).filter neW=Lib.fields l:=by
  rw[z2i h];unfold q0d
  split
  ·rename_i h0;subst h0;rfl
  ·rfl
 rw[<-y1f (k2e h),<-e,ntx,ntx,k5x]
theorem j7n:∀(a b:List Wd),a≠[]->b≠[]->jb (a++b)=jb a++32::jb b
 | [w],b,_,hb=>by
  cases b with
  | nil=>exact absurd rfl hb
  | cons x y=>simp[jb]
 | w::u::r,b,_,hb=>by
  have ih:=j7n (u::r) b (by simp) hb;rw[List.cons_append]at ih;simp only[List.cons_append,jb]at ih⊢;rw[ih];simp
theorem y0m{a:List Wd}(h:∀w∈a,w≠[]):jb a=[]↔a=[]:=by
 cases a with
 | nil=>simp[jb]
 | cons w r=>
  have:=h w (by simp)
  constructor
  ·intro e;have A:w++(match r with|[]=>[]|_::_=>32::jb r)=[]:=e;exact absurd (List.append_eq_nil_iff.1 A).1 this
  ·intro e;cases e
theorem y2g{a b:List Wd}(ha:∀w∈a,w≠[])(hb:∀w∈b,w≠[]):q6i (jb a) (jb b)=jb (a++b):=by
 by_cases A:a=[]
 ·subst A
  have:jb ([]:List Wd)=[]:=rfl
  rw[this,q6i,if_neg (by simp)];rfl
 ·by_cases B:b=[]
  ·subst B
   have:jb ([]:List Wd)=[]:=rfl
   rw[this,q6i,if_neg (by simp)];simp
  ·have C:jb a≠[]:=fun e=>A ((y0m ha).1 e)
   have D:jb b≠[]:=fun e=>B ((y0m hb).1 e)
   rw[q6i,if_pos ⟨D,C⟩,j7n a b A B];simp
theorem j7o:∀ws:List Wd,Lib.join ws [32]=jb ws
 | []=>rfl
 | [w]=>by rw[Lib.join_one];simp[jb]
 | w::u::r=>by
  have ih:=j7o (u::r);rw[Lib.join_cons]at ih⊢;rw[jb,<-ih];simp[Lib.joinTail]
def z0j(w:Wd):List Wd:=Lib.fields (w.drop 1)
def y0k(w:Wd):Prop:=w.headD 0=35/\∀b∈w,prB b=true
theorem y9b{b:UInt8}(h:prB b=true)(hs:Lib.isSp b=true):b=32:=by
 simp only[prB,Bool.and_eq_true,decide_eq_true_eq]at h;simp only[Lib.isSp,Bool.or_eq_true,beq_iff_eq]at hs;have A:=h.1;rcases hs with(((((e|e)|e)|e)|e)|e)<;>subst e<;>first|rfl|(exfalso;revert A;decide)
theorem y8q{w:Wd}(h:y0k w):∀b∈w.drop 1,Lib.isSp b=true->b=32:=fun b hb hs=>y9b (h.2 b (List.mem_of_mem_drop hb)) hs
theorem y8r{w:Wd}(h:y0k w):q1c w=jb (z0j w):=j2j (y8q h)
theorem j7b{w:Wd}(h:y0k w):∀x∈z0j w,x≠[]:=k2e (y8q h)
theorem j4n(A:List (List Td))(X t:Wd):z8n true (A++[[ntT X]]) t=A++[[ntT (q6i X t)]]:=by
 have e:q5u (A++[[ntT X]])=X:=by
  simp only[q5u,List.getLast?_append,List.getLast?_singleton];rfl
 rw[z8n,if_pos rfl,e,List.dropLast_concat]
theorem v1a:∀(nts:List Wd)(acc:List (List Td))(W:List Wd)(ts:List Wd)(r:Rp),(∀w∈nts,y0k w)->(∀x∈W,x≠[])->PG true (acc++[[ntT (jb (W++nts.flatMap z0j))]]) ts r->PG true (acc++[[ntT (jb W)]]) (nts++ts) r
 | [],acc,W,ts,r,_,_,h=>by simpa using h
 | w::z,acc,W,ts,r,hn,hW,h=>by
  have hw:=hn w (by simp);refine .note hw.1 ?_;rw[j4n,y8r hw,y2g hW (j7b hw)];refine v1a z acc (W++z0j w) ts r (fun x hx=>hn x (by simp[hx])) ?_ ?_
  ·intro x hx;rcases List.mem_append.1 hx with hx|hx
   ·exact hW x hx
   ·exact j7b hw x hx
  ·rw[List.flatMap_cons,<-List.append_assoc]at h;exact h
theorem v7o{A:List Wd}{B:List (List Td)}{ts:List Wd}{r:Rp}(h0:A≠[])(hn:∀w∈A,y0k w)(h:PG true (B++[[ntT (jb (A.flatMap z0j))]]) ts r):PG false B (A++ts) r:=by
 cases A with
 | nil=>exact absurd rfl h0
 | cons w z=>
  have C:=hn w (by simp);refine .note C.1 ?_;rw[z8n,if_neg (by simp),y8r C];refine v1a z B (z0j w) ts r (fun x hx=>hn x (by simp[hx])) (j7b C) ?_;rw[List.flatMap_cons]at h;exact h
theorem v2n{p:UInt8->Bool}{c:UInt8}{r:List UInt8}(hc:p c=true)(hl:(r.takeWhile p).length+1=(c::r).length):∀b∈c::r,p b=true:=by
 have B:r.takeWhile p=r:=by
  have G:=z5y (p:=p) r;rw[show(r.takeWhile p).length=r.length by simp only[length_cons]at hl;omega,List.take_length]at G;exact G.symm
 have E:∀(l:List UInt8)x,x∈l.takeWhile p->p x=true:=by
  intro l
  induction l with
  | nil=>intro x A;cases A
  | cons a l ih=>
   intro x A;rw[List.takeWhile_cons]at A;by_cases D:p a=true
   ·rw[if_pos D]at A;rcases List.mem_cons.1 A with rfl|A
    ·exact D
    ·exact ih x A
   ·rw[if_neg D]at A;cases A
 intro b C;rcases List.mem_cons.1 C with rfl|C
 ·exact hc
 ·rw[<-B]at C;exact E r b C
theorem y1v{w:Wd}(h:q3l w):w≠[]:=by
 obtain⟨c,r,rfl,_⟩:=h;simp
theorem v8t{w:Wd}(h:q3l w):nmW w=(decide (w≠q9n)&&q2a (w.headD 0)):=by
 obtain⟨c,r,rfl,_,I,D,_⟩:=h;have C:btL (wbS (c::r))=c::r:=rfl;have B:(wbS (c::r)).size=(c::r).length:=by rw[<-q0c,C]
 unfold nmW q0o;rw[C,B];show _=(decide ((c::r)≠q9n)&&q2a c);cases A:q2a c with
 | false=>simp[A]
 | true=>
  simp only[q4y,A,if_true,decide_eq_true_eq]at I;simp only[q0x,A,if_true]at D;have E:=v2n A D;have G:(c::r).all q2a=true:=List.all_eq_true.2 E;rw[G];have H:(c::r).length<=8:=by omega
  simp only[length_cons]at H⊢;simp;omega
theorem y5x{w:Wd}(h:q3l w)(hn:z0d w=true):(∀b∈w,q1x b=true)/\w.length<=6:=by
 obtain⟨c,r,rfl,_,D,C,_⟩:=h;have B:q1x c=true:=hn;have A:q2a c=false:=z9h B;simp only[q4y,A,B,if_true,Bool.false_eq_true,if_false,Bool.and_eq_true,decide_eq_true_eq]at D;simp only[q0x,A,B,if_true,Bool.false_eq_true,if_false]at C;exact⟨v2n B C,by omega⟩
theorem y9t{w:Wd}(h:q3l w)(hn:w.headD 0=35):y0k w:=by
 obtain⟨c,r,rfl,_,C,I,_⟩:=h;have J:c=35:=hn;subst J;have D:q2a 35=false:=by decide
 have E:q1x 35=false:=by decide
 have G:((35:UInt8)==35)=true:=by decide
 simp only[q4y,D,E,G,if_true,Bool.false_eq_true,if_false]at C;simp only[q0x,D,E,G,if_true,Bool.false_eq_true,if_false]at I
 have A:r.takeWhile nlB=r:=by
  have H:=z5y (p:=nlB) r;rw[show(r.takeWhile nlB).length=r.length by simp only[length_cons]at I;omega,List.take_length]at H;exact H.symm
 rw[A,List.all_eq_true]at C;refine⟨rfl,fun b B=>?_⟩;rcases List.mem_cons.1 B with rfl|B
 ·decide
 ·exact C b B
structure q0n(B b:Nat)(w w':World):Prop where
 os:w'.os=w.os
 tape:w'.tape=w.tape
 output:w'.output=w.output
 size:w.heap.size<=w'.heap.size
 block:∀k,k<B->k≠b->w'.heap[k]?=w.heap[k]?
section
variable {B b:Nat} {w w' a:World}
theorem q0n.refl(B b:Nat)(w:World):q0n B b w w:=⟨rfl,rfl,rfl,Nat.le_refl _,fun _ _ _=>rfl⟩
theorem q0n.trans{c:World}(h:q0n B b a w)(k:q0n B b w c):q0n B b a c:=
 ⟨k.os.trans h.os,k.tape.trans h.tape,k.output.trans h.output,Nat.le_trans h.size k.size,fun i hi hb=>(k.block i hi hb).trans (h.block i hi hb)⟩
theorem q0n.drew(h:q0n B b a w):q0n B b a w.drew:=⟨h.os,h.tape,h.output,h.size,h.block⟩
theorem q0n.of(h:Below B w w'):q0n B b w w':=⟨h.os,h.tape,h.output,h.size,fun k hk _=>h.block k hk⟩
theorem q0n.W(h:q0n B b w w')(hB:B<=b):Below B w w':=⟨h.os,h.tape,h.output,h.size,fun k hk=>h.block k hk (by omega)⟩
theorem q0n.mono{B':Nat}(h:q0n B b w w')(hB:B'<=B):q0n B' b w w':=⟨h.os,h.tape,h.output,h.size,fun k hk=>h.block k (by omega)⟩
theorem q0n.alloc(h:q0n B b a w)(hB:B<=w.heap.size)(o:Obj):q0n B b a (w.alloc o):=
 h.trans (.of ((Below.refl B w).alloc hB o))
theorem q0n.setCell(h:q0n B b a w){p:Addr}(hp:p.block=b\/B<=p.block)(u:Value):q0n B b a (w.setCell p u):=
 h.trans ⟨rfl,rfl,rfl,by simp[World.setCell],fun k hk hb=>Below.heap_setCell _ _ _ _ (by omega)⟩
theorem q0n.grown{row:Option Nat}(h:q0n B b a w)(hg:w.grownBy w' row)(hB:B<=w.heap.size)(hr:∀k,row=some k->B<=k):q0n B b a w':=
 h.trans ⟨hg.os,hg.tape,hg.output,hg.size,fun k hk _=>hg.block k (by omega) (fun e=>by have:=hr k e.symm;omega)⟩
theorem q0n.cell(h:q0n B b w w'){p:Addr}(hp:p.block<B)(hb:p.block≠b):w'.cell? p=w.cell? p:=World.cell?_of_block (w:=w) (h.block p.block hp hb)
end
def XAt(T:TypeId)(B b:Nat)(p:Value)(bs R:List Value)(w:World):Prop:=
 ∃v,w.heap[b]?=some (.cells (p::v::R).toArray T (0,0))/\w.ownsRowF B 5 1 v bs.length bs/\v.ownBlock≠some b/\(bs=[]->v=.slice none 0 0)
def IsX(T:TypeId)(B b:Nat)(bs R:List Value)(w:World):Prop:=
 XAt T B b (.pointer none) bs R w\/XAt T B b (.pointer (some ⟨b,0,none⟩)) bs R w
section
variable {T:TypeId} {B b:Nat} {p:Value} {bs R:List Value} {w:World}
theorem XAt.cell0(h:XAt T B b p bs R w):w.cell? b=some p:=by
 obtain⟨v,A,_⟩:=h;simp[World.cell?,A]
theorem XAt.cellR(h:XAt T B b p bs R w)(i:Nat):w.cell? (b,i+2)=R[i]?:=by
 obtain⟨v,A,_⟩:=h;simp[World.cell?,A]
theorem XAt.shape(h:XAt T B b p bs R w):w.shape? b=some (T,R.length+2):=by
 obtain⟨v,A,_⟩:=h;simp[World.shape?,A]
theorem XAt.lt(h:XAt T B b p bs R w):b<w.heap.size:=by
 obtain⟨v,C,_⟩:=h;rcases Nat.lt_or_ge b w.heap.size with A|A
 ·exact A
 ·simp[Array.getElem?_eq_none A]at C
theorem XAt.used(h:XAt T B b p bs R w)(q:Value):XAt T B b q bs R (w.setCell b q):=by
 obtain⟨v,E,C,A,D⟩:=h;refine⟨v,?_,?_,A,D⟩
 ·simp[World.setCell,Array.getElem?_modify,E]
 ·exact C.kept (row:=some b) ⟨rfl,rfl,rfl,by simp[World.setCell],fun k _ hk=>Below.heap_setCell _ _ _ _ (fun e=>hk (by simp[e]))⟩ (Or.inr A)
theorem XAt.stored(h:XAt T B b p bs R w)(i:Nat)(q:Value):XAt T B b p bs (R.set i q) (w.setCell (b,i+2) q):=by
 obtain⟨v,E,C,A,D⟩:=h;refine⟨v,?_,?_,A,D⟩
 ·simp[World.setCell,Array.getElem?_modify,E]
 ·exact C.kept (row:=some b) ⟨rfl,rfl,rfl,by simp[World.setCell],fun k _ hk=>Below.heap_setCell _ _ _ _ (fun e=>hk (by simp[e]))⟩ (Or.inr A)
theorem XAt.frozen(h:XAt T B b p bs R w)(i:Nat):w.frozen? (b,i)=false:=by
 obtain⟨v,A,_⟩:=h;simp[World.frozen?,A]
theorem XAt.put{v v':Value}{bs':List Value}(hb:w.heap[b]?=some (.cells (p::v::R).toArray T (0,0)))(A:w.ownsRowF B 5 1 v' bs'.length bs')(D:T≠5)(h0:bs'=[]->v'=.slice none 0 0):
  XAt T B b p bs' R (w.setCell (b,1) v'):=by
 have C:=Lib.ownBlock_neF A hb D;refine⟨v',?_,?_,C,h0⟩
 ·simp[World.setCell,Array.getElem?_modify,hb]
 ·exact A.kept (row:=some b) ⟨rfl,rfl,rfl,by simp[World.setCell],fun k _ hk=>Below.heap_setCell _ _ _ _ (fun e=>hk (by simp[e]))⟩ (Or.inr C)
theorem XAt.alloc(h:XAt T B b p bs R w)(o:Obj):XAt T B b p bs R (w.alloc o):=by
 have C:=h.lt;obtain⟨v,G,A,D,E⟩:=h;exact⟨v,(Lib.alloc_old w o b C).trans G,A.kept (World.grownBy_alloc w o none) (by cases H:v.ownBlock<;>simp),D,E⟩
theorem XAt.far{b':Nat}{w':World}{c:Array Value}{t:TypeId}{fz:Nat × Nat}(h:XAt T B b p bs R w)(hx:q0n w b' w w')(D:b≠b')(C:w.heap[b']?=some (.cells c t fz))(ht:t≠5):XAt T B b p bs R w':=by
 have E:=h.lt;obtain⟨v,I,A,G,H⟩:=h;refine⟨v,(hx.block b E D).trans I,A.kept (row:=some b') ⟨hx.os,hx.tape,hx.output,hx.size,fun k hk hkb=>hx.block k hk (fun e=>hkb (by rw[e]))⟩ (Or.inr ?_),G,H⟩;exact Lib.ownBlock_neF A C ht
theorem IsX.at(h:IsX T B b bs R w):∃p,XAt T B b p bs R w:=by
 rcases h with h|h
 ·exact⟨_,h⟩
 ·exact⟨_,h⟩
theorem IsX.lt(h:IsX T B b bs R w):b<w.heap.size:=h.at.elim fun _ h=>h.lt
theorem IsX.cellR(h:IsX T B b bs R w)(i:Nat):w.cell? ⟨b,i+2,none⟩=R[i]?:=h.at.elim fun _ h=>h.cellR i
theorem IsX.frozen(h:IsX T B b bs R w)(i:Nat):w.frozen? ⟨b,i,none⟩=false:=h.at.elim fun _ h=>h.frozen i
theorem IsX.alloc(h:IsX T B b bs R w)(o:Obj):IsX T B b bs R (w.alloc o):=h.imp (·.alloc o) (·.alloc o)
theorem IsX.stored(h:IsX T B b bs R w)(i:Nat)(q:Value):IsX T B b bs (R.set i q) (w.setCell ⟨b,i+2,none⟩ q):=h.imp (·.stored i q) (·.stored i q)
theorem IsX.drew(h:IsX T B b bs R w):IsX T B b bs R w.drew:=h
theorem IsX.far{b':Nat}{w':World}{c:Array Value}{t:TypeId}{fz:Nat × Nat}(h:IsX T B b bs R w)(hx:q0n w b' w w')(hbb:b≠b')(hb':w.heap[b']?=some (.cells c t fz))(ht:t≠5):IsX T B b bs R w':=h.imp (·.far hx hbb hb' ht) (·.far hx hbb hb' ht)
theorem IsX.fresh(T:TypeId)(w:World)(R:List Value):IsX T w.heap.size w.heap.size [] R (w.alloc (.cells (.pointer none::.slice none 0 0::R).toArray T)):=
 Or.inl ⟨.slice none 0 0,heap_alloc_new w _,World.ownsRowF_nil _ _ _ _,by simp[Value.ownBlock],fun _=>rfl⟩
theorem IsX.unused(T:TypeId)(B b:Nat)(w:World)(R:List Value)(h:w.heap[b]?=some (.cells (.pointer none::.slice none 0 0::R).toArray T (0,0))):IsX T B b [] R w:=
 Or.inl ⟨.slice none 0 0,h,World.ownsRowF_nil _ _ _ _,by simp[Value.ownBlock],fun _=>rfl⟩
end
theorem v9j:(prog.info? 5).map (fun i=>(i.zero,i.size,i.bytes))=some (some (.int .u8 0),1,1):=by kernel_rfl
theorem y2a:prog.cellsOf 5=1:=by kernel_rfl
theorem v9n:(prog.info? 83).map (·.size)=some 2:=by kernel_rfl
theorem k7n(b:Nat)(w:World)(h0:w.cell? b=some (.pointer b)):
  Calls prog 54 #[.pointer b] w fun e w'=>e=.returned (.tuple #[])/\w'=w:=by
 obtain⟨j,A,_⟩:=Option.map_eq_some_iff.1 v9n;go_in;go_wp2;rw[Lib.run_neq_ptr_same w _ Tryz.underlying80 A];go_wp2
 go_end0
 exact⟨rfl,rfl⟩
theorem k4t(T n b:Nat)(w:World)(hl:liesAt prog prog.depth T (n / prog.cellsOf T) 0 83 1=true)(h0:w.cell? b=some (.pointer none))(B:w.shape? b=some (T,n))(hn:0<n)(H:w.frozen? b=false):
  Calls prog 54 #[.pointer b] w fun e w'=>e=.returned (.tuple #[])/\w'=w.setCell b (.pointer b):=by
 obtain⟨j,D,A⟩:=Option.map_eq_some_iff.1 v9n;have G:Hid (liesAt prog prog.depth T (n / prog.cellsOf T) 0 83 1=true):=hl;have C:Hid (w.shape? b=some (T,n)):=B;have E:Hid (j.size≠0):=(show j.size≠0 by rw[A];decide);clear hl B A;go_in;go_wp2;rw[Lib.run_to_unsafe w b Tryz.underlying80 Tryz.underlying116 D E.o C.o hn];simp only[Result.andThen];rw[Oper.upon_value];go_wp2;rw[run_callFunc_extern func89 (by kernel_rfl) (by kernel_rfl) (by kernel_rfl) (e:=Extern.AbiNoEscape.same) (by kernel_rfl)];rw[Lib.run_noEscape];simp only[Result.andThen];rw[Oper.upon_value];go_wp2;rw[Lib.run_from_unsafe w b Tryz.underlying116 Tryz.underlying80 D C.o G.o];simp only[Result.andThen];rw[Oper.upon_value];go_wp2
 go_end0
 exact⟨rfl,rfl⟩
def z2a(T n:Nat):Prop:=liesAt prog prog.depth T (n / prog.cellsOf T) 0 83 1=true
theorem z3b(T B b:Nat)(bs R:List Value)(w:World)(hl:z2a T (R.length+2))(h:IsX T B b bs R w):
  Calls prog 54 #[.pointer b] w fun e w'=>e=.returned (.tuple #[])/\(XAt T B b (.pointer b) bs R w'/\q0n B b w w'/\Lib.OthersKept 5 (some b) w w'):=by
 rcases h with h|h
 ·refine(k4t T (R.length+2) b w hl h.cell0 h.shape (by omega) (h.frozen 0)).mono ?_;rintro e w'⟨rfl,rfl⟩;exact⟨rfl,h.used _,(q0n.refl B b w).setCell (p:=b) (.inl rfl) _,(Lib.OthersKept.refl _ _ w).setCell b rfl _⟩
 ·refine(k7n b w h.cell0).mono ?_;rintro e w'⟨rfl,rfl⟩;exact⟨rfl,h,q0n.refl B b _,Lib.OthersKept.refl _ _ _⟩
theorem k4s(T B b:Nat)(bs R:List Value)(c:Int)(w:World)(hl:z2a T (R.length+2))(hT:T≠5)(h:IsX T B b bs R w)(W:bs.length+1<=140737488355328)(f:B<=w.heap.size):
  Calls prog 96 #[.pointer b,.int .u8 c] w fun e w'=>e=.returned .nilIface/\(IsX T B b (bs++[.int .u8 c]) R w'/\q0n B b w w'/\Lib.OthersKept 5 (some b) w w'):=by
 obtain⟨m,i,S,U,V⟩:=info_parts v9j;have Y:Hid (z2a T (R.length+2)):=hl;have Z:Hid (T≠5):=hT;have H:Hid (IsX T B b bs R w):=h;clear hl hT h;go_in;go_wp2_with(go_at_call 54;refine(z3b T B b bs R _ Y.o H.o).mono ?_);rintro e K⟨rfl,d,G,O⟩;obtain⟨v,J,C,Q,_⟩:=d;have o:K.cell? b=some (.pointer b):=by rw[Lib.cell_of_heap J];rfl
 have c1:K.cell? (b,1)=some v:=by rw[Lib.cell_of_heap J];rfl
 go_wp2_with(at_builtin;refine wpList_append_ownF _ rfl _ _ 81 rfl B 5 m (.int .u8 0) 1 1 Tryz.underlying81 i S U V rfl (by decide) _ _ _ rfl (C.alloc _) K.heap.size 1 1 [.int .u8 c] rfl rfl ?c1 ?c2 ?c3 ?c4 ?c5 ?_)
 case c1=>
  intro j u L
  match j,L with
  | 0,L=>simp at L;subst L;simp[Addr.add]
 case c2=>intro u X;simp at X;subst X;rfl
 case c3=>unfold maxLen;omega
 case c4=>omega
 case c5=>have:=G.size;simp;omega
 intro n M D A _
 have P:b<K.heap.size:=by
  rcases Nat.lt_or_ge b K.heap.size with N|N
  ·exact N
  ·simp[Array.getElem?_eq_none N]at J
 have I:M.heap[b]?=some (.cells (.pointer b::v::R).toArray T (0,0)):=by
  rw[A.block b (by simp;omega) (fun e=>Q e.symm),Lib.alloc_old K _ b P];exact J
 have q:M.cell? b=some (.pointer b):=by rw[Lib.cell_of_heap I];rfl
 have r:M.cell? (b,1)=some v:=by rw[Lib.cell_of_heap I];rfl
 have s:M.frozen? (b,1)=false:=Lib.frozen_of_heap I 1
 obtain⟨g,E,rfl⟩:∃g E,n=.slice g (bs.length+1) E:=by
  rcases D.2 with⟨_,x⟩|⟨g,E,a,t,l,_⟩
  ·omega
  ·exact⟨g,E,l⟩
 go_wp2;go_ret;refine⟨rfl,.inr ?_,?_,((O.alloc _).grown A (Lib.ownsRowF_kind (C.alloc _))).setCell (b,1) rfl _⟩
 ·exact XAt.put I (bs':=bs++[.int .u8 c]) (by simpa using D) Z.o (fun h=>by simp at h)
 ·exact((G.alloc (by have:=G.size;omega) _).grown A (by have:=G.size;simp;omega) (fun k hk=>(C.lt k hk).1)).setCell (p:=(b,1)) (.inl rfl) _
theorem z0h(T B b:Nat)(bs R:List Value)(s:ByteArray)(w:World)(hl:z2a T (R.length+2))(hT:T≠5)(h:IsX T B b bs R w)(a:bs.length+s.size<=140737488355328)(o:B<=w.heap.size):
  Calls prog 33 #[.pointer b,.string s] w fun e w'=>e=.returned (.tuple #[s.size,.nilIface])/\(IsX T B b (bs++Lib.strCells s) R w'/\q0n B b w w'/\Lib.OthersKept 5 (some b) w w'):=by
 obtain⟨r,q,V,W,X⟩:=info_parts v9j;have i:Hid (z2a T (R.length+2)):=hl;have j:Hid (T≠5):=hT;have H:Hid (IsX T B b bs R w):=h;clear hl hT h;go_in;go_wp2_with(go_at_call 54;refine(z3b T B b bs R _ i.o H.o).mono ?_);rintro e L⟨rfl,O,K,P⟩;obtain⟨v,G,C,S,Z⟩:=O;have f:Hid (bs=[]->v=.slice none 0 0):=Z;clear Z;have t:L.cell? b=some (.pointer b):=by rw[Lib.cell_of_heap G];rfl
 have u:L.cell? (b,1)=some v:=by rw[Lib.cell_of_heap G];rfl
 go_wp2_with(at_builtin;refine Lib.wpList_append_own_stringF _ rfl _ _ 81 9 rfl B 5 r Tryz.underlying81 Tryz.underlying9 q V W X _ _ _ rfl C s rfl ?c3 ?c4 ?c5 ?_)
 case c3=>unfold maxLen;omega
 case c4=>omega
 case c5=>have:=K.size;omega
 intro d M D A I;have l:Hid (d=.slice none 0 0↔v=.slice none 0 0/\s.size=0):=(show _↔_ by simpa using I);clear I
 have Q:b<L.heap.size:=by
  rcases Nat.lt_or_ge b L.heap.size with N|N
  ·exact N
  ·simp[Array.getElem?_eq_none N]at G
 have E:M.heap[b]?=some (.cells (.pointer b::v::R).toArray T (0,0)):=by
  rw[A.block b Q (fun e=>S e.symm)];exact G
 have x:M.cell? b=some (.pointer b):=by rw[Lib.cell_of_heap E];rfl
 have y:M.cell? (b,1)=some v:=by rw[Lib.cell_of_heap E];rfl
 have z:M.frozen? (b,1)=false:=Lib.frozen_of_heap E 1
 obtain⟨Y,c,J,rfl⟩:∃Y c J,d=.slice Y c J:=by
  rcases D.2 with⟨U,_⟩|⟨g,J,m,fz,U,_⟩
  ·exact⟨_,_,_,U⟩
  ·exact⟨_,_,_,U⟩
 go_wp2;go_ret2;refine⟨rfl,.inr ?_,?_,(P.grown A (Lib.ownsRowF_kind C)).setCell (b,1) rfl _⟩
 ·refine XAt.put E (bs':=bs++Lib.strCells s) (by simpa[Lib.strCells_length]using D) j.o (fun h=>?_);obtain⟨O,n⟩:=List.append_eq_nil_iff.1 h;refine l.o.2 ⟨f.o O,?_⟩;rw[<-Lib.strCells_length,n];rfl
 ·exact(K.grown A (by have:=K.size;omega) (fun k hk=>(C.lt k hk).1)).setCell (p:=(b,1)) (.inl rfl) _
end Go.Proofs.YtchdplceopegoaaGreatDoor
