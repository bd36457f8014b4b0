import Derived.Test.YthcpdohdppkmkaaGreatDoorPu05
import Derived.BigQuiet
import Derived.Deep.QuietTactic
import Derived.Test.YthcpdohdppkmkaaGreatDoorShf
open Go.Proofs.Tryz
namespace Go.Proofs.YthcpdohdppkmkaaGreatDoor
open Go Go.RowKit
set_option maxRecDepth 100000
set_option maxHeartbeats 1000000
theorem v4e(ws:List ByteArray)(a:Option Addr)(cap:Nat)(wd:Int)(w:World)(hW:Wds w a ws):
  Calls prog 165 #[.slice a ws.length cap,.int .i64 wd] w fun e w'=>e=.returned (q0s (q6p ws wd))/\w=w':=by
 have HW:Hid (Wds w a ws):=hW;clear hW;by_cases h0:q1i ws=0
 ·have H0:Hid (q1i ws=0):=h0;clear h0;by_cases h1:wd<1
  ·have HE:Hid (q6p ws wd=1):=by
    show q6p ws wd=1;rw[q6p,if_neg (by rw[H0.o];simp),if_pos (.inl h1)]
   go_in;go_wp2_with fail;refine(q6i ws a cap _ HW.o).mono ?_;rintro e w2⟨rfl,rfl⟩;rw[H0.o,q0e];go_wp2;go_ret;exact⟨by rw[HE.o];rfl,rfl⟩
  by_cases h2:100<wd
  ·have HE:Hid (q6p ws wd=1):=by
    show q6p ws wd=1;rw[q6p,if_neg (by rw[H0.o];simp),if_pos (.inr h2)]
   go_in;go_wp2_with fail;refine(q6i ws a cap _ HW.o).mono ?_;rintro e w2⟨rfl,rfl⟩;rw[H0.o,q0e];go_wp2;go_ret;exact⟨by rw[HE.o];rfl,rfl⟩
  ·have HE:Hid (q6p ws wd=0):=by
    show q6p ws wd=0;rw[q6p,if_neg (by rw[H0.o];simp),if_neg (by omega)]
   go_in;go_wp2_with fail;refine(q6i ws a cap _ HW.o).mono ?_;rintro e w2⟨rfl,rfl⟩;rw[H0.o,q0e];go_wp2;go_ret;exact⟨by rw[HE.o];rfl,rfl⟩
 ·have HE:Hid (q6p ws wd=q1i ws):=by
   show q6p ws wd=q1i ws;rw[q6p,if_pos h0]
  have HN:Hid (q0s (q1i ws)=.iface 22 (.int .i64 (q1i ws))):=q0f h0;clear h0;go_in;go_wp2_with fail;refine(q6i ws a cap _ HW.o).mono ?_;rintro e w2⟨rfl,rfl⟩;rw[HN.o];go_wp2;go_ret;exact⟨by rw[HE.o,HN.o];rfl,rfl⟩
theorem v4d(ws:List ByteArray)(a:Option Addr)(cap:Nat)(w:World)(h0:ws≠[])(hF:Few ws)(hW:Wds w a ws):
  Calls prog 211 #[.slice a ws.length cap] w fun e w'=>e=.returned (.int .i64 (ln ws))/\w=w':=by
 have HW:Hid (Wds w a ws):=hW;have hp:0<ws.length:=List.length_pos_iff.2 h0;have hl:=hF.1
 have HE:Hid ((ln ws:Int)=(ws.length:Int)-1+tot ws):=by
  show(ln ws:Int)=_
  simp only[ln];omega
 have HF:Hid (Few ws):=hF;clear hW hF h0;go_in;go_wp2
 go_loopw [3,11] (fun s i wr=>wr=w/\∃k:Nat,k<=ws.length/\i=.int .i64 k/\s=.int .i64 ((ws.length:Int)-1+tot (ws.take k))) (fun _ i _=>ws.length-(intOf i).toNat)
 case atStart=>exact⟨rfl,0,Nat.zero_le _,rfl,by simp[tot]⟩
 case round=>
  obtain⟨rfl,k,hk,rfl,rfl⟩:=hrel;by_cases hlt:k<ws.length
  ·obtain⟨b0,o0,ea,hb0,c0⟩:=HW.o k hlt;subst ea;have HS:Hid (tot (ws.take (k+1))=tot (ws.take k)+ws[k].size):=y0g hlt;have ht:=(HF.o.take k).tot;have hx:=HF.o.2 _ (List.getElem_mem hlt);generalize ws[k]=x at c0 HS hx;generalize tot (ws.take k)=t0 at HS ht;go_wp2
   go_roundw
   case rel=>exact⟨by trivial,k+1,by omega,by go_num,by rw[HS.o];go_num⟩
   case measure=>simp[intOf];omega
  ·have hke:k=ws.length:=by omega
   subst hke;have HT:Hid (tot (ws.take ws.length)=tot ws):=by show _=_;rw[List.take_length]
   go_wp2;go_ret;exact⟨by rw[HE.o,<-HT.o];rfl,rfl⟩
theorem y3u{n wd:Nat}{last:Bool}(h:wd<n):(bd n wd last:Int)=1000*((n:Int)-wd):=by
 rw[bd,if_pos h];omega
theorem y3t{n wd:Nat}(h:¬wd<n):bd n wd true=0:=by rw[bd,if_neg h];rfl
theorem v5d{n wd:Nat}(h:¬wd<n):(bd n wd false:Int)=((wd:Int)-n)*((wd:Int)-n):=by
 rw[bd,if_neg h];simp only[Bool.false_eq_true,if_false];rw[Int.natCast_mul]
 congr 1<;>omega
theorem y0r(n wd:Nat)(last:Bool)(w:World)(hn:n<=1260)(hw:wd<=100):
  Calls prog 210 #[.int .i64 n,.int .i64 wd,.bool last] w fun e w'=>e=.returned (.int .i64 (bd n wd last))/\w=w':=by
 by_cases h:wd<n
 ·have HE:Hid ((bd n wd last:Int)=1000*((n:Int)-wd)):=y3u h;have h':(wd:Int)-n<0:=by omega
  clear h;go_in;go_wp2;go_ret;exact⟨by rw[HE.o];go_num,rfl⟩
 ·cases last with
  | true=>
   have HE:Hid (bd n wd true=0):=y3t h;have h':¬(wd:Int)-n<0:=by omega
   clear h;go_in;go_wp2;go_ret;exact⟨by rw[HE.o];rfl,rfl⟩
  | false=>
   have HE:Hid ((bd n wd false:Int)=((wd:Int)-n)*((wd:Int)-n)):=v5d h;have h':¬(wd:Int)-n<0:=by omega
   obtain⟨m,hm⟩:∃m:Int,m=(wd:Int)-n:=⟨_,rfl⟩;have h1:IntKind.i64.wrap ((wd:Int)-n)=(wd:Int)-n:=by rw[IntKind.wrap_i64];omega
   have h2:IntKind.i64.wrap (((wd:Int)-n)*((wd:Int)-n))=((wd:Int)-n)*((wd:Int)-n):=by
    have a1:0<=((wd:Int)-n)*((wd:Int)-n):=Int.mul_nonneg (by omega) (by omega);have a2:((wd:Int)-n)*((wd:Int)-n)<=100*100:=Int.mul_le_mul (by omega) (by omega) (by omega) (by omega);rw[IntKind.wrap_i64];omega
   clear h hm;go_in;go_wp2;go_ret;exact⟨by rw[HE.o];rfl,rfl⟩
theorem y0v(n:Nat)(ws:List ByteArray)(hn:ws.length=n)(a:Option Addr)(cap:Nat)(w:World)(h0:ws≠[])(hF:Few ws)(hW:Wds w a ws):
  Calls prog 211 #[.slice a n cap] w fun e w'=>e=.returned (.int .i64 (ln ws))/\w=w':=by
 subst hn;exact v4d ws a cap w h0 hF hW
structure Lst(wd:Nat)(ws:List ByteArray)(bL bF k:Nat)(w:World):Prop where
 ne:bL≠bF
 rl:k5f w bL (ws.length+1)
 rf:k5f w bF ws.length
 cl:∀j,k<=j->j<=ws.length->w.cell? ⟨bL,j,none⟩=some (.int .i64 ((best wd (ws.drop j):Nat):Int))
 cf:∀j,k<=j->j<ws.length->w.cell? ⟨bF,j,none⟩=some (.int .i64 ((agF wd (ws.drop j):Nat):Int))
theorem Lst.kept{wd:Nat}{ws:List ByteArray}{bL bF k:Nat}{w w':World}(h:Lst wd ws bL bF k w)(h1:w'.heap[bL]?=w.heap[bL]?)(h2:w'.heap[bF]?=w.heap[bF]?):Lst wd ws bL bF k w' where
 ne:=h.ne
 rl:=h.rl.kept h1
 rf:=h.rf.kept h2
 cl:=fun j a b=>(World.cell?_of_block (w:=w) (a:=⟨bL,j,none⟩) h1).trans (h.cl j a b)
 cf:=fun j a b=>(World.cell?_of_block (w:=w) (a:=⟨bF,j,none⟩) h2).trans (h.cf j a b)
theorem Lst.made(wd:Nat)(ws:List ByteArray)(w:World):
  Lst wd ws w.heap.size (w.heap.size+1) ws.length ((w.alloc (.cells (madeCells #[.int .i64 0] (ws.length+1)) 3)).alloc (.cells (madeCells #[.int .i64 0] ws.length) 3)):=by
 have h1:((w.alloc (.cells (madeCells #[.int .i64 0] (ws.length+1)) 3)).alloc (.cells (madeCells #[.int .i64 0] ws.length) 3)).heap[w.heap.size]?=some (.cells (madeCells #[.int .i64 0] (ws.length+1)) 3 (0,0)):=
  (Below.heap_alloc _ _ _ (by simp)).trans (heap_alloc_new w _)
 have h2:((w.alloc (.cells (madeCells #[.int .i64 0] (ws.length+1)) 3)).alloc (.cells (madeCells #[.int .i64 0] ws.length) 3)).heap[w.heap.size+1]?=some (.cells (madeCells #[.int .i64 0] ws.length) 3 (0,0)):=by
  have:=heap_alloc_new (w.alloc (.cells (madeCells #[.int .i64 0] (ws.length+1)) 3)) (.cells (madeCells #[.int .i64 0] ws.length) 3)
  simpa using this
 refine⟨by omega,⟨_,_,h1,size_madeCells _ _⟩,⟨_,_,h2,size_madeCells _ _⟩,fun j a b=>?_,fun j a b=>by omega⟩;obtain rfl:j=ws.length:=by omega
 have:best wd (ws.drop ws.length)=0:=by rw[List.drop_length];rfl
 rw[this];simp only[World.cell?,h1];exact v0f _ (by omega)
structure Mid(wd:Nat)(ws:List ByteArray)(bL bF i m:Nat)(w:World):Prop where
 l:Lst wd ws bL bF (i+1) w
 c:1<=m->w.cell? ⟨bL,i,none⟩=some (.int .i64 ((z6l (fOf wd (ws.drop i)) m:Nat):Int))/\w.cell? ⟨bF,i,none⟩=some (.int .i64 ((v4o (fOf wd (ws.drop i)) m:Nat):Int))
theorem Mid.kept{wd:Nat}{ws:List ByteArray}{bL bF i m:Nat}{w w':World}(h:Mid wd ws bL bF i m w)(h1:w'.heap[bL]?=w.heap[bL]?)(h2:w'.heap[bF]?=w.heap[bF]?):Mid wd ws bL bF i m w' where
 l:=h.l.kept h1 h2
 c:=fun hm=>⟨(World.cell?_of_block (w:=w) (a:=⟨bL,i,none⟩) h1).trans (h.c hm).1,(World.cell?_of_block (w:=w) (a:=⟨bF,i,none⟩) h2).trans (h.c hm).2⟩
theorem Mid.start{wd:Nat}{ws:List ByteArray}{bL bF i:Nat}{w:World}(h:Lst wd ws bL bF (i+1) w):Mid wd ws bL bF i 0 w:=⟨h,fun hm=>by omega⟩
theorem Mid.skip{wd:Nat}{ws:List ByteArray}{bL bF i m:Nat}{w:World}(h:Mid wd ws bL bF i m w)(h1:¬(m=0\/fOf wd (ws.drop i) (m+1)<=z6l (fOf wd (ws.drop i)) m)):Mid wd ws bL bF i (m+1) w:=by
 refine⟨h.l,fun _=>?_⟩;rw[z6l,v4o,if_neg h1,if_neg h1];exact h.c (by omega)
theorem Mid.put{wd:Nat}{ws:List ByteArray}{bL bF i m:Nat}{w:World}(h:Mid wd ws bL bF i m w)(hi:i<ws.length)(h1:m=0\/fOf wd (ws.drop i) (m+1)<=z6l (fOf wd (ws.drop i)) m):
  Mid wd ws bL bF i (m+1) ((w.setCell ⟨bL,i,none⟩ (.int .i64 ((fOf wd (ws.drop i) (m+1):Nat):Int))).setCell ⟨bF,i,none⟩ (.int .i64 ((m:Int)+1))):=by
 have ne:=h.l.ne;refine⟨⟨ne,h.l.rl.set.set,h.l.rf.set.set,fun j a b=>?_,fun j a b=>?_⟩,fun _=>?_⟩
 ·exact(cso (.inl (Ne.symm ne))).trans ((cso (.inr (by omega))).trans (h.l.cl j a b))
 ·exact(cso (.inr (by omega))).trans ((cso (.inl ne)).trans (h.l.cf j a b))
 ·rw[z6l,v4o,if_pos h1,if_pos h1];obtain⟨y1,e1⟩:=h.l.rl.cell (i:=i) (by omega);obtain⟨y2,e2⟩:=h.l.rf.cell (i:=i) hi;exact⟨(cso (.inl (Ne.symm ne))).trans (css e1),css ((cso (.inl ne)).trans e2)⟩
theorem Mid.done{wd:Nat}{ws:List ByteArray}{bL bF i m:Nat}{w:World}(h:Mid wd ws bL bF i m w)(hi:i<ws.length)(hm:m=ws.length-i):Lst wd ws bL bF i w:=by
 have hne:ws.drop i≠[]:=fun e=>by
  have:=congrArg List.length e
  rw[List.length_drop,List.length_nil]at this;omega
 obtain⟨c1,c2⟩:=h.c (by omega);refine⟨h.l.ne,h.l.rl,h.l.rf,fun j a b=>?_,fun j a b=>?_⟩
 ·by_cases e:j=i
  ·subst e;rw[j5v wd hne,List.length_drop,<-hm];exact c1
  ·exact h.l.cl j (by omega) b
 ·by_cases e:j=i
  ·subst e;rw[agF,List.length_drop,<-hm];exact c2
  ·exact h.l.cf j (by omega) b
theorem g0e(wd:Nat)(ws:List ByteArray)(i k:Nat):fOf wd (ws.drop i) k=bd (ln ((ws.drop i).take k)) wd (k==ws.length-i)+best wd (ws.drop (i+k)):=by
 rw[fOf,List.drop_drop,List.length_drop]
set_option maxHeartbeats 4000000
theorem g5f{i q n:Nat}(h:i+q<=n):((i:Int)+(q:Int)==(n:Int))=(q==n-i):=by
 by_cases e:q=n-i
 ·rw[beq_iff_eq.2 e,beq_iff_eq.2 (by omega)]
 ·rw[beq_false_of_ne e,beq_false_of_ne (by omega)]
theorem y2e{ws:List ByteArray}{i q:Nat}(h1:1<=q)(h2:i+q<=ws.length):((ws.drop i).take q).length=q/\(ws.drop i).take q≠[]:=by
 have e:((ws.drop i).take q).length=q:=by rw[List.length_take,List.length_drop];omega
 exact⟨e,fun h=>by rw[h]at e;simp at e;omega⟩
theorem y5r{ws:List ByteArray}{b0 o0:Nat}{w wr:World}(hW:Wds w (some ⟨b0,o0,none⟩) ws)(hF:Few ws)(hb:Below w w wr)(i q c n:Nat)(h1:1<=q)(h2:i+q<=ws.length):
  Calls prog 211 #[.slice (some ⟨b0,o0+i,none⟩) q c] (wr.drewN n) fun e w'=>e=.returned (.int .i64 (ln ((ws.drop i).take q)))/\wr.drewN n=w':=
 y0v q _ (y2e h1 h2).1 _ c _ (y2e h1 h2).2 ((hF.drop i).take q) (Wds.W ((z3p.drop hW i).take q) (q5n hb n))
theorem v0h{wd:Nat}{ws:List ByteArray}{bL bF i q bv sv nq:Nat}{w:World}(h:Mid wd ws bL bF i (q-1) w)(hi:i<ws.length)(hq:1<=q)(ho:fOf wd (ws.drop i) q=bv+sv)(h1:q=1\/bv+sv<=z6l (fOf wd (ws.drop i)) (q-1)):
  Mid wd ws bL bF i (q+1-1) (((w.drewN nq).setCell ⟨bL,i,none⟩ (.int .i64 ((bv:Int)+(sv:Int)))).setCell ⟨bF,i,none⟩ (.int .i64 (q:Int))):=by
 obtain⟨m,rfl⟩:∃m,q=m+1:=⟨q-1,by omega⟩;simp only[Nat.add_sub_cancel]at h h1⊢;have hk:Mid wd ws bL bF i m (w.drewN nq):=h.kept rfl rfl
 have:=hk.put hi (by rw[ho];omega)
 rw[ho]at this;have e1:((bv+sv:Nat):Int)=(bv:Int)+(sv:Int):=by omega
 have e2:((m+1:Nat):Int)=(m:Int)+1:=by omega
 rw[e1]at this;rw[e2];exact this
theorem v7z{wd:Nat}{ws:List ByteArray}{bL bF i q nq:Nat}{w:World}(h:Mid wd ws bL bF i (q-1) w)(hq:1<=q)(h1:¬fOf wd (ws.drop i) q<=z6l (fOf wd (ws.drop i)) (q-1))(h2:¬q=1):Mid wd ws bL bF i (q+1-1) (w.drewN nq):=by
 obtain⟨m,rfl⟩:∃m,q=m+1:=⟨q-1,by omega⟩;simp only[Nat.add_sub_cancel]at h h1⊢;have hk:Mid wd ws bL bF i m (w.drewN nq):=h.kept rfl rfl;exact hk.skip (by omega)
theorem k2r(ws:List ByteArray)(a:Option Addr)(cap wd:Nat)(w:World)(hc:ws.length<=cap)(hF:Few ws)(hw:wd<=100)(hW:Wds w a ws):
  Calls prog 166 #[.slice a ws.length cap,.int .i64 wd] w fun e w'=>(∃A c,e=.returned (.slice A (z2d wd ws).length c)/\z1w w.heap.size (.slice A (z2d wd ws).length c) (z2d wd ws) w')/\Below w w w':=by
 have hl:=hF.1;have HW:Hid (Wds w a ws):=hW;have HF:Hid (Few ws):=hF
 have hm1:∀W:World,(Instr.makeSlice 43 (.int .i64 ((ws.length:Int)+1)) (.int .i64 ((ws.length:Int)+1))).run prog W=.ok (.slice (some ⟨W,0,none⟩) (ws.length+1) (ws.length+1)) (W.alloc (.cells (madeCells #[.int .i64 0] (ws.length+1)) 3)):=fun W=>by
  have:=run_make_row' 43 3 _ 8 Tryz.underlying43 z7k rfl .i64 .i64 (ws.length+1) (by omega) (by omega) W
  have e:((ws.length+1:Nat):Int)=(ws.length:Int)+1:=by omega
  rw[e]at this;exact this
 have hm2:∀W:World,(Instr.makeSlice 43 (.int .i64 (ws.length:Int)) (.int .i64 (ws.length:Int))).run prog W=.ok (.slice (some ⟨W,0,none⟩) ws.length ws.length) (W.alloc (.cells (madeCells #[.int .i64 0] ws.length) 3)):=fun W=>
  run_make_row' 43 3 _ 8 Tryz.underlying43 z7k rfl .i64 .i64 ws.length (by omega) (by omega) W
 have HM:Hid (Lst wd ws w.heap.size (w.heap.size+1) ws.length ((w.alloc (.cells (madeCells #[.int .i64 0] (ws.length+1)) 3)).alloc (.cells (madeCells #[.int .i64 0] ws.length) 3))):=Lst.made wd ws w;clear hW hF;go_in;go_wp2
 go_loopw [7] (fun i wr=>Below w w wr/\∃k:Nat,k<=ws.length/\i=.int .i64 ((k:Int)-1)/\Lst wd ws w.heap.size (w.heap.size+1) k wr) (fun i _=>(intOf i+1).toNat)
 case atStart=>exact⟨((Below.refl _ w).alloc Zl _).alloc (by simp) _,ws.length,Nat.le_refl _,by go_num,HM.o⟩
 case round=>
  obtain⟨hb,k,hk,rfl,hL⟩:=hrel;have HB:Hid (Below w w wr):=hb;have HL:Hid (Lst wd ws w.heap.size (w.heap.size+1) k wr):=hL;clear hb hL;by_cases hk0:k=0
  ·subst hk0;have hneg:¬((0:Int)<=((0:Nat):Int)-1):=by omega
   have hwr:w.heap.size+2<=wr.heap.size:=HL.o.rf.lt;go_wp2
   go_loopw [10,11] (fun l i wx=>Below (w.heap.size+2) wr wx/\∃(k:Nat)(ks:List Nat)(A:Option Addr)(c:Nat),k<=ws.length/\ks.length<=k/\i=.int .i64 (k:Int)/\l=.slice A ks.length c/\z1w (w.heap.size+2) (.slice A ks.length c) ks wx/\z2d wd ws=ks++z2d wd (ws.drop k)) (fun _ i _=>ws.length-(intOf i).toNat)
   case atStart=>exact⟨Below.refl _ _,0,[],none,0,Nat.zero_le _,Nat.le_refl _,rfl,rfl,World.ownsRow_nil _ _ _ _,rfl⟩
   case round=>
    rename_i wo0 wo1 wo2;obtain⟨hbx,k,ks,A,c,hk1,hk2,rfl,rfl,hO,hcut⟩:=hrel;have HBx:Hid (Below (w.heap.size+2) _ wr):=hbx;have HO:Hid (z1w (w.heap.size+2) (.slice A ks.length c) ks wr):=hO;have HC:Hid (z2d wd ws=ks++z2d wd (ws.drop k)):=hcut;have HLx:Hid (Lst wd ws w.heap.size (w.heap.size+1) 0 wr):=HL.o.kept (hbx.block _ (by omega)) (hbx.block _ (by omega));have hsx:=hbx.size;clear hbx hO hcut;by_cases hlt:k<ws.length
    ·have hki:(k:Int)<(ws.length:Int):=by omega
     have hdn:ws.drop k≠[]:=fun e=>by
      have:=congrArg List.length e
      rw[List.length_drop,List.length_nil]at this;omega
     have c1:=HLx.o.cf k (Nat.zero_le _) hlt
     have HC2:Hid (z2d wd ws=(ks++[agF wd (ws.drop k)])++z2d wd (ws.drop (k+agF wd (ws.drop k)))):=by
      show z2d wd ws=_;rw[HC.o,q5x wd hdn,List.drop_drop,List.append_assoc];rfl
     obtain⟨hg1,hg2⟩:=q9f wd hdn;rw[List.length_drop]at hg2;have HCF:Hid (∀W:World,Lst wd ws w.heap.size (w.heap.size+1) 0 W->W.cell? ⟨w.heap.size+1,k,none⟩=some (.int .i64 ((agF wd (ws.drop k):Nat):Int))):=fun W h=>h.cf k (Nat.zero_le _) hlt
     generalize agF wd (ws.drop k)=av at c1 HC2 hg1 hg2 HCF;clear hdn;obtain⟨i0,hi0,hz0,hz1,hz2⟩:=info_parts z7k;go_wp2_with(at_builtin;refine wpList_append_lies _ rfl _ _ 43 rfl (w.heap.size+2) 3 i0 _ 1 8 Tryz.underlying43 hi0 hz0 hz1 hz2 rfl (by decide) _ _ _ rfl (World.ownsRow.alloc HO.o _) ⟨wr,0,none⟩ 1 1 [.int .i64 (av:Int)] rfl rfl (cell_one_new wr _ _) (by intro u hu;simp at hu;subst hu;rfl) (by decide) (by unfold maxLen;omega) (by omega) (by simp;omega) (wr.heap.size+1) (by simp) ?_);intro g2 cap2 w2 hown2 hgrow2 hat2 hlt2;have hb2:=(HBx.o.alloc (by omega) (.cells #[.int .i64 (av:Int)] 3)).grown hgrow2 (by simp;omega) (fun j hj=>(World.ownsRow.lt HO.o j hj).1);have HB2:=(show Hid (Below _ _ _)from hb2);have c2:=HCF.o w2 (HL.o.kept (hb2.block _ (by omega)) (hb2.block _ (by omega)))
     have HO2:Hid (z1w (w.heap.size+2) (.slice (some ⟨g2,0,none⟩) (ks.length+1) cap2) (ks++[av]) w2):=by
      show w2.ownsRow _ _ _ _ _ _;rw[z3d,List.length_append];exact hown2
     clear hown2 hgrow2 hb2 hat2 hlt2;go_wp2
     go_roundw
     case rel=>exact⟨HB2.o,k+av,ks++[av],some ⟨g2,0,none⟩,cap2,by omega,by simp;omega,by go_num,by rw[List.length_append];rfl,by rw[List.length_append];exact HO2.o,HC2.o⟩
     case measure=>simp[intOf];omega
    ·have hke:¬(k:Int)<(ws.length:Int):=by omega
     have HE:Hid (z2d wd ws=ks):=by
      show z2d wd ws=ks;rw[HC.o,List.drop_eq_nil_of_le (by omega),q6o,List.append_nil]
     go_wp2;go_ret;rw[HE.o];exact⟨⟨A,c,rfl,Joins.ownsRow_le HO.o (by omega)⟩,HB.o.trans (HBx.o.mono (by omega))⟩
  ·obtain⟨i,rfl⟩:∃i,k=i+1:=⟨k-1,by omega⟩;have hki:(((i+1:Nat):Int)-1)=(i:Int):=by omega
   rw[hki];have hi:i<ws.length:=by omega
   clear hki hk0;go_wp2
   go_loopw [8] (fun n wx=>Below w w wx/\∃q:Nat,1<=q/\i+q<=ws.length+1/\n=.int .i64 (q:Int)/\Mid wd ws w.heap.size (w.heap.size+1) i (q-1) wx) (fun n _=>(ws.length+1-(intOf n).toNat))
   case atStart=>exact⟨HB.o,1,by omega,by omega,by go_num,Mid.start HL.o⟩
   case round=>
    rename_i wy;obtain⟨hb,q,hq1,hq2,rfl,hM⟩:=hrel;have HBy:Hid (Below w w wr):=hb;have HMy:Hid (Mid wd ws w.heap.size (w.heap.size+1) i (q-1) wr):=hM;clear hb hM;by_cases hlt:i+q<=ws.length
    ·obtain⟨b0,o0,ea,hb0⟩:=HW.o.some (show 0<ws.length by omega);subst ea;have hlti:(i:Int)+(q:Int)<=(ws.length:Int):=by omega
     have hsl:=g2t b0 o0 ws.length cap i q (by omega) (by omega);have hcell:wr.cell? ⟨w,i+q,none⟩=some (.int .i64 ((best wd (ws.drop (i+q)):Nat):Int)):=HMy.o.l.cl (i+q) (by omega) hlt
     have HLc:Hid (∀n,Calls prog 211 #[.slice (some ⟨b0,o0+i,none⟩) q (cap-i)] (wr.drewN n) fun e w'=>e=.returned (.int .i64 (ln ((ws.drop i).take q)))/\w'=wr.drewN n):=fun n=>
      (y5r HW.o HF.o HBy.o i q (cap-i) n hq1 hlt).mono fun _ _ h=>⟨h.1,h.2.symm⟩
     have HBc:Hid (∀n,Calls prog 210 #[.int .i64 (ln ((ws.drop i).take q)),.int .i64 wd,.bool ((i:Int)+(q:Int)==(ws.length:Int))] (wr.drewN n) fun e w'=>e=.returned (.int .i64 (bd (ln ((ws.drop i).take q)) wd (q==ws.length-i)))/\w'=wr.drewN n):=fun n=>by
      rw[g5f hlt];exact(y0r _ wd _ _ ((HF.o.drop i).take q).ln hw).mono fun _ _ h=>⟨h.1,h.2.symm⟩
     have HO:Hid (fOf wd (ws.drop i) q=bd (ln ((ws.drop i).take q)) wd (q==ws.length-i)+best wd (ws.drop (i+q))):=g0e wd ws i q;have hfb:=g0f hw (HF.o.drop i) q;rw[HO.o]at hfb;generalize ln ((ws.drop i).take q)=lv at HLc HBc HO hfb;generalize bd lv wd (q==ws.length-i)=bv at HBc HO hfb;generalize best wd (ws.drop (i+q))=sv at hcell HO hfb;go_wp2_with fail
     go_quiet (first|(go_at_call 211;exact Calls.quiet_of_same (HLc.o _))|(go_at_call 210;exact Calls.quiet_of_same (HBc.o _)))
     obtain⟨y1,e1⟩:=HMy.o.l.rl.cell (show i<ws.length+1 by omega);obtain⟨y2,e2⟩:=HMy.o.l.rf.cell hi;have f1:wr.frozen? ⟨w,i,none⟩=false:=HMy.o.l.rl.frozen;have f2:wr.frozen? ⟨w.heap.size+1,i,none⟩=false:=HMy.o.l.rf.frozen;have hwr:w.heap.size+1<wr.heap.size:=HMy.o.l.rf.lt;by_cases hq:q=1
     ·have hqb:((q:Int)==1)=true:=by simp[hq]
      have HP:=(show Hid (_)from v0h (nq:=nq) HMy.o hi hq1 HO.o (.inl hq));clear hq;go_wp2
      go_roundw
      case rel=>exact⟨j5s (q5n HBy.o nq) Zl (by omega),q+1,by omega,by omega,by go_num,HP.o⟩
      case measure=>simp[intOf];omega
     ·have hqb:((q:Int)==1)=false:=by simp;omega
      have e1':=(HMy.o.c (by omega)).1;generalize hmv:z6l (fOf wd (ws.drop i)) (q-1)=mv at e1';have HMV:Hid (z6l (fOf wd (ws.drop i)) (q-1)=mv):=hmv;clear hmv e1;by_cases hle:bv+sv<=mv
      ·have HP:=(show Hid (_)from v0h (nq:=nq) HMy.o hi hq1 HO.o (.inr (by rw[HMV.o];exact hle)));have hlei:(bv:Int)+(sv:Int)<=(mv:Int):=by omega
       clear hq hle;go_wp2
       go_roundw
       case rel=>exact⟨j5s (q5n HBy.o nq) Zl (by omega),q+1,by omega,by omega,by go_num,HP.o⟩
       case measure=>simp[intOf];omega
      ·have HP:=(show Hid (_)from v7z (nq:=nq) HMy.o hq1 (by rw[HO.o,HMV.o];omega) hq);have hlei:¬(bv:Int)+(sv:Int)<=(mv:Int):=by omega
       clear hq hle;go_wp2
       go_roundw
       case rel=>exact⟨q5n HBy.o nq,q+1,by omega,by omega,by go_num,HP.o⟩
       case measure=>simp[intOf];omega
    ·have hgt:¬(i:Int)+(q:Int)<=(ws.length:Int):=by omega
     have HD:Hid (Lst wd ws w.heap.size (w.heap.size+1) i wr):=HMy.o.done hi (by omega);go_wp2
     go_roundw
     case rel=>exact⟨HBy.o,i,by omega,by go_num,HD.o⟩
     case measure=>simp[intOf]
def q3f(wd:Nat)(ws:List ByteArray):List ByteArray:=k2y ws (z2d wd ws)
theorem q5y(wd:Nat){ws:List ByteArray}(h:ws≠[]):q3f wd ws=jnS (ws.take (agF wd ws))::q3f wd (ws.drop (agF wd ws)):=by
 rw[q3f,q5x wd h];rfl
theorem q5z(wd:Nat):q3f wd []=[]:=by rw[q3f,q6o];rfl
theorem z0k(wd:Nat):∀(n:Nat)(ws:List ByteArray),ws.length<=n->(q3f wd ws).length<=ws.length
 | 0,ws,h=>by
  have:ws=[]:=List.eq_nil_of_length_eq_zero (by omega)
  subst this;rw[q5z];simp
 | n+1,ws,h=>by
  by_cases h0:ws=[]
  ·subst h0;rw[q5z];simp
  ·have hp:=q9f wd h0;have ih:=z0k wd n (ws.drop (agF wd ws)) (by simp only[List.length_drop];omega);rw[q5y wd h0,List.length_cons];simp only[List.length_drop]at ih;omega
theorem j3r(s:ByteArray)(w:World)(h:s.size<=281474976710656):
  Calls prog 51 #[.string s] w fun e w'=>e=.returned (.string s)/\Below w w w':=by
 go_in;go_wp2_with fail;refine(clone_sh s _ h).mono ?_;rintro e w2⟨rfl,hb⟩;go_wp2;go_ret;exact⟨rfl,hb⟩
theorem y0u(n:Nat)(ws:List ByteArray)(hn:ws.length=n)(b o c:Nat)(w:World)(hc:n<=c)(hb:b<w.heap.size)(hF:Few ws)(hW:Wds w (some ⟨b,o,none⟩) ws):
  Calls prog 167 #[.slice (some ⟨b,o,none⟩) n c] w fun e w'=>e=.returned (.string (jnS ws))/\Below w w w':=by
 subst hn
 have HJ:Hid (∀W:World,Below w w W->Calls prog 103 #[.slice (some ⟨b,o,none⟩) ws.length c,.string ⟨#[32]⟩] W fun e w'=>e=.returned (.string (jnS ws))/\Below W W w'):=fun W hB=>by
  have hl:=hF.ln;have hl2:=hF.1;refine join_sh b o c ws ⟨#[32]⟩ W ?_ (Nat.lt_of_lt_of_le hb hB.size) (by omega) hc ?_
  ·intro j x hx;obtain⟨hj,rfl⟩:=List.getElem?_eq_some_iff.1 hx;obtain⟨b',o',e,_,c1⟩:=Wds.W hW hB j hj;simp only[Option.some.injEq,Addr.mk.injEq,and_true]at e;obtain⟨rfl,rfl⟩:=e;exact c1
  ·have:=k6g ws
   show(jnL ws).length<=_
   omega
 have hs:(jnS ws).size<=281474976710656:=by
  rw[j0b]
  have:=hF.ln
  omega
 clear hW hF;generalize jnS ws=s at HJ hs;go_in;go_wp2_with fail;refine(HJ.o _ Zb).mono ?_;rintro e w2⟨rfl,hb2⟩;go_wp2_with fail;refine(j3r s _ hs).mono ?_;rintro e w3⟨rfl,hb3⟩;go_wp2;go_ret;exact⟨rfl,q0c hb2 Zl hb3⟩
structure j5c(wd:Nat)(ws:List ByteArray)(ks:List Nat)(w w1:World)(k:Nat)(vs done:List ByteArray)(A L:Option Addr)(c lc:Nat)(wr:World):Prop where
 b:Below w1 w1 wr
 le:k<=ks.length
 vc:vs.length<=c
 wo:Wds w A vs
 fe:Few vs
 cu:ks.drop k=z2d wd vs
 ro:q1j w1 (.slice L done.length lc) done wr
 li:q3f wd ws=done++q3f wd vs
 dl:done.length+vs.length<=60
theorem j5c.step{wd:Nat}{ws:List ByteArray}{ks:List Nat}{w w1:World}{k:Nat}{vs done:List ByteArray}{b o:Nat}{L:Option Addr}{c lc:Nat}{wr:World}(h:j5c wd ws ks w w1 k vs done (some ⟨b,o,none⟩) L c lc wr)(hk:k<ks.length):
  ∃q,ks[k]=q/\1<=q/\q<=vs.length/\∃A',(∀W:World,(Instr.slice 42 (.slice (some ⟨b,o,none⟩) vs.length c) (some (.int .i64 (q:Int))) none none).run prog W=.ok (.slice A' (vs.drop q).length (c-q)) W)/\
   ∀g cap2 w2,Below w1 w1 w2->q1j w1 (.slice (some ⟨g,0,none⟩) (done++[jnS (vs.take q)]).length cap2) (done++[jnS (vs.take q)]) w2->j5c wd ws ks w w1 (k+1) (vs.drop q) (done++[jnS (vs.take q)]) A' (some ⟨g,0,none⟩) (c-q) cap2 w2:=by
 have hne:vs≠[]:=fun e=>by
  have h1:=h.cu;rw[e,q6o]at h1
  have:=congrArg List.length h1
  rw[List.length_drop,List.length_nil]at this;omega
 have h1:=h.cu;rw[List.drop_eq_getElem_cons hk,q5x wd hne,List.cons.injEq]at h1;obtain⟨p1,p2⟩:=q9f wd hne;obtain⟨A',e1,e2⟩:=y7z h.wo p2 h.vc;refine⟨agF wd vs,h1.1,p1,p2,A',e1,fun g cap2 w2 hb hs=>?_⟩;exact{b:=hb,le:=hk,vc:=by have:=h.vc;rw[List.length_drop];omega,wo:=e2,fe:=h.fe.drop _,cu:=h1.2,ro:=hs,li:=by rw[h.li,q5y wd hne,List.append_assoc];rfl,dl:=by have:=h.dl;rw[List.length_append,List.length_drop];simp;omega}
theorem y0t(ws:List ByteArray)(a:Option Addr)(cap wd:Nat)(w:World)(hc:ws.length<=cap)(hW:Wds w a ws)(h0:q6p ws wd=0):
  Calls prog 102 #[.slice a ws.length cap,.int .i64 wd] w fun e w'=>(∃L c,e=.returned (.tuple #[.slice L (q3f wd ws).length c,.nilIface])/\q1j w (.slice L (q3f wd ws).length c) (q3f wd ws) w')/\Below w w w':=by
 obtain⟨hf0,n,hn0,hn1,hn2⟩:=j2t h0;obtain rfl:wd=n:=by omega
 have H0:Hid (q6p ws wd=0):=h0;have HF:Hid (Few ws):=y1n hf0;have hl:=HF.o.1;have HW:Hid (Wds w a ws):=hW;clear h0 hf0 hn0 hW;go_in;go_wp2_with fail;refine(v4e ws a cap wd _ HW.o).mono ?_;rintro e w2⟨rfl,rfl⟩;rw[H0.o,q0e];go_wp2_with fail;refine(k2r ws a cap wd _ hc HF.o hn2 HW.o).mono ?_;rintro e w1⟨⟨K,kc,rfl,hO⟩,hb1⟩;generalize hks:z2d wd ws=ks at hO;have HK:Hid (z1w w.heap.size (.slice K ks.length kc) ks w1):=hO;have HKS:Hid (z2d wd ws=ks):=hks;have HB1:Hid (Below w w w1):=hb1
 have hkl:ks.length<=60:=by
  have:=z0k wd _ ws Zl
  have e:∀(ks:List Nat)(ws:List ByteArray),(k2y ws ks).length=ks.length:=by
   intro ks
   induction ks with
   | nil=>intro ws;rfl
   | cons k r ih=>intro ws;simp[k2y,ih]
  rw[q3f,e,hks]at this;omega
 have hs1:=hb1.size;clear hO hks hb1;go_wp2
 go_loopw [0,7,20] (fun l x i wr=>∃(k:Nat)(vs done:List ByteArray)(A L:Option Addr)(c lc:Nat),l=.slice A vs.length c/\x=.slice L done.length lc/\i=.int .i64 (k:Int)/\j5c wd ws ks w w1 k vs done A L c lc wr) (fun _ _ i _=>ks.length-(intOf i).toNat)
 case atStart=>exact⟨0,ws,[],a,none,cap,0,rfl,rfl,rfl,{b:=Below.refl _ _,le:=Nat.zero_le _,vc:=hc,wo:=HW.o,fe:=HF.o,cu:=HKS.o.symm,ro:=World.ownsRow_nil _ _ _ _,li:=rfl,dl:=by simpa using hl}⟩
 case round=>
  obtain⟨k,vs,done,A,L,c,lc,rfl,rfl,rfl,hR⟩:=hrel;have HR:Hid (j5c wd ws ks w w1 k vs done A L c lc wr):=hR;have hle:=hR.le;have hvc:=hR.vc;have hdl:=hR.dl;have hsr:=hR.b.size;clear hR;by_cases hlt:k<ks.length
  ·have hki:(k:Int)<(ks.length:Int):=by omega
   obtain⟨g,rfl,hg,c0⟩:=z7x HK.o k hlt;have c1:wr.cell? ⟨g,k,none⟩=some (.int .i64 ((ks[k]:Nat):Int)):=(HR.o.b.cell (p:=⟨g,k,none⟩) hg).trans c0;clear c0
   have hv0:0<vs.length:=by
    rcases Nat.eq_zero_or_pos vs.length with h|h
    ·have:vs=[]:=List.eq_nil_of_length_eq_zero h
     have h1:=HR.o.cu;rw[this,q6o]at h1
     have:=congrArg List.length h1
     rw[List.length_drop,List.length_nil]at this;omega
    ·exact h
   obtain⟨b0,o0,ea,hb0⟩:=HR.o.wo.some hv0;subst ea;obtain⟨q,hq,hq1,hq2,A',hs,hnext⟩:=HR.o.step hlt;rw[hq]at c1;have HNX:=(show Hid (_)from hnext);have hhead:=y7y (some ⟨b0,o0,none⟩) vs.length c q (by omega);have hbr:Below w w wr:=HB1.o.trans (HR.o.b.mono hs1)
   have HL:Hid (Calls prog 167 #[.slice (some ⟨b0,o0,none⟩) q c] wr fun e w'=>e=.returned (.string (jnS (vs.take q)))/\Below wr wr w'):=
    y0u q (vs.take q) (by rw[List.length_take];omega) b0 o0 c wr (by omega) (Nat.lt_of_lt_of_le hb0 hbr.size) (HR.o.fe.take q) (Wds.W (HR.o.wo.take q) hbr)
   generalize hjn:jnS (vs.take q)=s at HL HNX;generalize hdl2:(vs.drop q).length=dl at hs;have HDL:Hid ((vs.drop q).length=dl):=hdl2;clear hq hnext hjn hdl2 hbr;go_wp2_with fail;refine HL.o.mono ?_;rintro e w2⟨rfl,hb2⟩;have HO2:Hid (q1j w1 (.slice L done.length lc) done w2):=q2r HR.o.ro hb2;have hbw:Below w1 w1 w2:=HR.o.b.trans (hb2.mono hsr);have HBW:Hid (Below w1 w1 w2):=hbw;have hs2:=hbw.size;clear hbw hb2;obtain⟨i0,hi0,hz0,hz1,hz2⟩:=info_parts z3g;go_wp2_with(at_builtin;refine wpList_append_lies _ rfl _ _ 42 rfl w1.heap.size 9 i0 _ 1 16 Tryz.underlying42 hi0 hz0 hz1 hz2 rfl (by decide) _ _ _ rfl (World.ownsRow.alloc HO2.o _) ⟨w2,0,none⟩ 1 1 [.string s] rfl rfl (cell_one_new w2 _ _) (by intro u hu;simp at hu;subst hu;rfl) (by decide) (by unfold maxLen;omega) (by omega) (by simp;omega) (w2.heap.size+1) (by simp) ?_);intro g2 cap2 w3 hown3 hgrow3 hat3 hlt3;have hb3:=(HBW.o.alloc (by omega) (.cells #[.string s] 9)).grown hgrow3 (by simp;omega) (fun j hj=>(World.ownsRow.lt HO2.o j hj).1)
   have hO3:q1j w1 (.slice (some ⟨g2,0,none⟩) (done++[s]).length cap2) (done++[s]) w3:=by
    show w3.ownsRow _ _ _ _ _ _;rw[q3e,List.length_append];exact hown3
   have HN3:=(show Hid (_)from HNX.o g2 cap2 w3 hb3 hO3);clear hown3 hgrow3 hb3 hO3 hat3 hlt3;go_wp2
   go_roundw
   case rel=>exact⟨k+1,vs.drop q,done++[s],A',some ⟨g2,0,none⟩,c-q,cap2,by rw[HDL.o],by rw[List.length_append];rfl,by go_num,HN3.o⟩
   case measure=>simp[intOf];omega
  ·have hki:¬(k:Int)<(ks.length:Int):=by omega
   have HE:Hid (q3f wd ws=done):=by
    show q3f wd ws=done;have h1:=HR.o.cu;rw[List.drop_eq_nil_of_le (by omega)]at h1
    have h2:vs=[]:=by
     by_cases h:vs=[]
     ·exact h
     ·rw[q5x wd h]at h1;cases h1
    rw[HR.o.li,h2,q5z,List.append_nil]
   go_wp2;go_ret2;rw[HE.o];exact⟨⟨L,lc,rfl,Joins.ownsRow_le HR.o.ro hs1⟩,HB1.o.trans (HR.o.b.mono hs1)⟩
end Go.Proofs.YthcpdohdppkmkaaGreatDoor
