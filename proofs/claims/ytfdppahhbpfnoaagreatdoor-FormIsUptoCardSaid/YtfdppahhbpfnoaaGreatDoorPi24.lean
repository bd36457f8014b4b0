import Derived.Lib.AppendIntMem
import Derived.Lib.ItoaNum
import Derived.Test.YtfdppahhbpfnoaaGreatDoorPi20
import Derived.Test.YtfdppahhbpfnoaaGreatDoorShf
open Go.Proofs.Tryz
namespace Go.Proofs.YtfdppahhbpfnoaaGreatDoor
open Go Go.RowKit
set_option maxRecDepth 100000
set_option maxHeartbeats 1000000
theorem v0t(ws:List ByteArray)(a:Option Addr)(cap:Nat)(wd:Int)(w:World)(hW:Wds w a ws):
  Calls prog 104 #[.slice a ws.length cap,.int .i64 wd] w fun e w'=>e=.returned (q1v (q6u ws wd))/\w=w':=by
 have D:Hid (Wds w a ws):=hW;clear hW;by_cases C:q1b ws=0
 ·have B:Hid (q1b ws=0):=C;clear C;by_cases H:wd<1
  ·have A:Hid (q6u ws wd=1):=by
    show q6u ws wd=1;rw[q6u,if_neg (by rw[B.o];simp),if_pos (.inl H)]
   go_in;go_wp2_with fail;refine(q6m ws a cap _ D.o).mono ?_;rintro e E⟨rfl,rfl⟩;rw[B.o,q1l];go_wp2;go_ret;exact⟨by rw[A.o];rfl,rfl⟩
  by_cases I:100<wd
  ·have A:Hid (q6u ws wd=1):=by
    show q6u ws wd=1;rw[q6u,if_neg (by rw[B.o];simp),if_pos (.inr I)]
   go_in;go_wp2_with fail;refine(q6m ws a cap _ D.o).mono ?_;rintro e E⟨rfl,rfl⟩;rw[B.o,q1l];go_wp2;go_ret;exact⟨by rw[A.o];rfl,rfl⟩
  ·have A:Hid (q6u ws wd=0):=by
    show q6u ws wd=0;rw[q6u,if_neg (by rw[B.o];simp),if_neg (by omega)]
   go_in;go_wp2_with fail;refine(q6m ws a cap _ D.o).mono ?_;rintro e E⟨rfl,rfl⟩;rw[B.o,q1l];go_wp2;go_ret;exact⟨by rw[A.o];rfl,rfl⟩
 ·have A:Hid (q6u ws wd=q1b ws):=by
   show q6u ws wd=q1b ws;rw[q6u,if_pos C]
  have G:Hid (q1v (q1b ws)=.iface 23 (.int .i64 (q1b ws))):=q0t C;clear C;go_in;go_wp2_with fail;refine(q6m ws a cap _ D.o).mono ?_;rintro e E⟨rfl,rfl⟩;rw[G.o];go_wp2;go_ret;exact⟨by rw[A.o,G.o];rfl,rfl⟩
theorem v0s(ws:List ByteArray)(a:Option Addr)(cap:Nat)(w:World)(h0:ws≠[])(hF:Few ws)(hW:Wds w a ws):
  Calls prog 158 #[.slice a ws.length cap] w fun e w'=>e=.returned (.int .i64 (ln ws))/\w=w':=by
 have H:Hid (Wds w a ws):=hW;have Q:0<ws.length:=List.length_pos_iff.2 h0;have P:=hF.1
 have E:Hid ((ln ws:Int)=(ws.length:Int)-1+tot ws):=by
  show(ln ws:Int)=_
  simp only[ln];omega
 have D:Hid (Few ws):=hF;clear hW hF h0;go_in;go_wp2
 go_loopw [3,11] (fun s i wr=>wr=w/\∃k:Nat,k<=ws.length/\i=.int .i64 k/\s=.int .i64 ((ws.length:Int)-1+tot (ws.take k))) (fun _ i _=>ws.length-(intOf i).toNat)
 case atStart=>exact⟨rfl,0,Nat.zero_le _,rfl,by simp[tot]⟩
 case round=>
  obtain⟨rfl,k,O,rfl,rfl⟩:=hrel;by_cases A:k<ws.length
  ·obtain⟨N,R,J,K,I⟩:=H.o k A;subst J;have B:Hid (tot (ws.take (k+1))=tot (ws.take k)+ws[k].size):=v5v A;have L:=(D.o.take k).tot;have M:=D.o.2 _ (List.getElem_mem A);generalize ws[k]=x at I B M;generalize tot (ws.take k)=t0 at B L;go_wp2
   go_roundw
   case rel=>exact⟨by trivial,k+1,by omega,by go_num,by rw[B.o];go_num⟩
   case measure=>simp[intOf];omega
  ·have C:k=ws.length:=by omega
   subst C;have G:Hid (tot (ws.take ws.length)=tot ws):=by show _=_;rw[List.take_length]
   go_wp2;go_ret;exact⟨by rw[E.o,<-G.o];rfl,rfl⟩
theorem j2h{n wd:Nat}{last:Bool}(h:wd<n):(bd n wd last:Int)=1000*((n:Int)-wd):=by
 rw[bd,if_pos h];omega
theorem j2g{n wd:Nat}(h:¬wd<n):bd n wd true=0:=by rw[bd,if_neg h];rfl
theorem k5t{n wd:Nat}(h:¬wd<n):(bd n wd false:Int)=((wd:Int)-n)*((wd:Int)-n):=by
 rw[bd,if_neg h];simp only[Bool.false_eq_true,if_false];rw[Int.natCast_mul]
 congr 1<;>omega
theorem v6e(n wd:Nat)(last:Bool)(w:World)(hn:n<=1260)(hw:wd<=100):
  Calls prog 157 #[.int .i64 n,.int .i64 wd,.bool last] w fun e w'=>e=.returned (.int .i64 (bd n wd last))/\w=w':=by
 by_cases h:wd<n
 ·have A:Hid ((bd n wd last:Int)=1000*((n:Int)-wd)):=j2h h;have B:(wd:Int)-n<0:=by omega
  clear h;go_in;go_wp2;go_ret;exact⟨by rw[A.o];go_num,rfl⟩
 ·cases last with
  | true=>
   have A:Hid (bd n wd true=0):=j2g h;have B:¬(wd:Int)-n<0:=by omega
   clear h;go_in;go_wp2;go_ret;exact⟨by rw[A.o];rfl,rfl⟩
  | false=>
   have A:Hid ((bd n wd false:Int)=((wd:Int)-n)*((wd:Int)-n)):=k5t h;have B:¬(wd:Int)-n<0:=by omega
   obtain⟨m,C⟩:∃m:Int,m=(wd:Int)-n:=⟨_,rfl⟩;have G:IntKind.i64.wrap ((wd:Int)-n)=(wd:Int)-n:=by rw[IntKind.wrap_i64];omega
   have H:IntKind.i64.wrap (((wd:Int)-n)*((wd:Int)-n))=((wd:Int)-n)*((wd:Int)-n):=by
    have D:0<=((wd:Int)-n)*((wd:Int)-n):=Int.mul_nonneg (by omega) (by omega);have E:((wd:Int)-n)*((wd:Int)-n)<=100*100:=Int.mul_le_mul (by omega) (by omega) (by omega) (by omega);rw[IntKind.wrap_i64];omega
   clear h C;go_in;go_wp2;go_ret;exact⟨by rw[A.o];rfl,rfl⟩
set_option maxHeartbeats 2000000
theorem q7e(ws:List ByteArray)(a:Option Addr)(cap:Nat)(w:World)(hF:Few ws)(hW:Wds w a ws):
  Calls prog 56 #[.slice a ws.length cap] w fun e w'=>e=.returned (.string (jnS ws))/\w=w':=by
 have L:Hid (Wds w a ws):=hW;have G:Hid (Few ws):=hF;have R:=hF.1;clear hW hF;go_in;go_wp2
 go_loopw [3,4] (fun s i wr=>wr=w/\∃k:Nat,k<=ws.length/\i=.int .i64 k/\s=.string (jnS (ws.take k))) (fun _ i _=>ws.length-(intOf i).toNat)
 case atStart=>exact⟨rfl,0,Nat.zero_le _,rfl,rfl⟩
 case round=>
  obtain⟨rfl,k,Q,rfl,rfl⟩:=hrel;by_cases A:k<ws.length
  ·obtain⟨P,S,M,N,H⟩:=L.o k A;subst M;have O:(k:Int)<(ws.length:Int):=by omega
   have I:=G.o.2 _ (List.getElem_mem A);have J:(jnS (ws.take k)).size<=1260:=by rw[z3d];exact(G.o.take k).ln
   by_cases C:k=0
   ·have B:Hid (jnS (ws.take (k+1))=jnS (ws.take k)++ws[k]):=by
     show _=_;subst C;rw[List.take_zero,y0j,j5d A];exact(ByteArray.empty_append).symm
    have D:¬(0:Int)<(k:Int):=by omega
    generalize ws[k]=x at H B I;generalize jnS (ws.take k)=z at B J;clear C;go_wp2
    go_roundw
    case rel=>exact⟨by trivial,k+1,by omega,by go_num,by rw[B.o]⟩
    case measure=>simp[intOf];omega
   ·have B:Hid (jnS (ws.take (k+1))=jnS (ws.take k)++⟨#[32]⟩++ws[k]):=v3f (by omega) A;have D:(0:Int)<(k:Int):=by omega
    generalize ws[k]=x at H B I;generalize jnS (ws.take k)=z at B J;clear C;go_wp2
    go_roundw
    case rel=>exact⟨by trivial,k+1,by omega,by go_num,by rw[B.o]⟩
    case measure=>simp[intOf];omega
  ·have E:k=ws.length:=by omega
   subst E;have K:Hid (jnS (ws.take ws.length)=jnS ws):=by show _=_;rw[List.take_length]
   go_wp2;go_ret;exact⟨by rw[<-K.o];rfl,rfl⟩
theorem v4o(ws:List ByteArray)(a:Option Addr)(cap wd:Nat)(last:Bool)(w:World)(hF:Few ws)(hw:wd<=100)(hW:Wds w a ws):
  Calls prog 55 #[.slice a ws.length cap,.int .i64 wd,.bool last] w fun e w'=>e=.returned (.int .i64 (bd (ln ws) wd last))/\w=w':=by
 have D:Hid (Wds w a ws):=hW;have C:Hid (Few ws):=hF;have I:=hF.ln;have B:Hid ((jnS ws).size=ln ws):=z3d ws;clear hW hF;generalize ln ws=n at I B;by_cases h:wd<n
 ·have A:Hid ((bd n wd last:Int)=1000*((n:Int)-wd)):=j2h h;have E:(wd:Int)<n:=by omega
  clear h;go_in;go_wp2_with fail;refine(q7e ws a cap _ C.o D.o).mono ?_;rintro e H⟨rfl,rfl⟩;have G:=B.o;go_wp2;go_ret;exact⟨by rw[A.o];go_num,rfl⟩
 ·cases last with
  | true=>
   have A:Hid (bd n wd true=0):=j2g h;have E:¬(wd:Int)<n:=by omega
   clear h;go_in;go_wp2_with fail;refine(q7e ws a cap _ C.o D.o).mono ?_;rintro e H⟨rfl,rfl⟩;have G:=B.o;go_wp2;go_ret;exact⟨by rw[A.o];rfl,rfl⟩
  | false=>
   have A:Hid ((bd n wd false:Int)=((wd:Int)-n)*((wd:Int)-n)):=k5t h;have E:¬(wd:Int)<n:=by omega
   have L:IntKind.i64.wrap ((wd:Int)-n)=(wd:Int)-n:=by rw[IntKind.wrap_i64];omega
   have M:IntKind.i64.wrap (((wd:Int)-n)*((wd:Int)-n))=((wd:Int)-n)*((wd:Int)-n):=by
    have J:0<=((wd:Int)-n)*((wd:Int)-n):=Int.mul_nonneg (by omega) (by omega);have K:((wd:Int)-n)*((wd:Int)-n)<=100*100:=Int.mul_le_mul (by omega) (by omega) (by omega) (by omega);rw[IntKind.wrap_i64];omega
   clear h;go_in;go_wp2_with fail;refine(q7e ws a cap _ C.o D.o).mono ?_;rintro e H⟨rfl,rfl⟩;have G:=B.o;go_wp2;go_ret;exact⟨by rw[A.o];rfl,rfl⟩
theorem y1o(n:Nat)(ws:List ByteArray)(hn:ws.length=n)(a:Option Addr)(cap wd:Nat)(last:Bool)(w:World)(hF:Few ws)(hw:wd<=100)(hW:Wds w a ws):
  Calls prog 55 #[.slice a n cap,.int .i64 wd,.bool last] w fun e w'=>e=.returned (.int .i64 (bd (ln ws) wd last))/\w=w':=by
 subst hn;exact v4o ws a cap wd last w hF hw hW
theorem v6h(n:Nat)(ws:List ByteArray)(hn:ws.length=n)(a:Option Addr)(cap:Nat)(w:World)(h0:ws≠[])(hF:Few ws)(hW:Wds w a ws):
  Calls prog 158 #[.slice a n cap] w fun e w'=>e=.returned (.int .i64 (ln ws))/\w=w':=by
 subst hn;exact v0s ws a cap w h0 hF hW
structure Lst(wd:Nat)(ws:List ByteArray)(bL bF k:Nat)(w:World):Prop where
 ne:bL≠bF
 rl:z9v w bL (ws.length+1)
 rf:z9v w bF ws.length
 cl:∀j,k<=j->j<=ws.length->w.cell? ⟨bL,j,none⟩=some (.int .i64 ((best wd (ws.drop j):Nat):Int))
 cf:∀j,k<=j->j<ws.length->w.cell? ⟨bF,j,none⟩=some (.int .i64 ((agF wd (ws.drop j):Nat):Int))
theorem Lst.kept{wd:Nat}{ws:List ByteArray}{bL bF k:Nat}{w w':World}(h:Lst wd ws bL bF k w)(h1:w'.heap[bL]?=w.heap[bL]?)(h2:w'.heap[bF]?=w.heap[bF]?):Lst wd ws bL bF k w' where
 ne:=h.ne
 rl:=h.rl.kept h1
 rf:=h.rf.kept h2
 cl:=fun j a b=>(World.cell?_of_block (w:=w) (a:=⟨bL,j,none⟩) h1).trans (h.cl j a b)
 cf:=fun j a b=>(World.cell?_of_block (w:=w) (a:=⟨bF,j,none⟩) h2).trans (h.cf j a b)
theorem Lst.made(wd:Nat)(ws:List ByteArray)(w:World):
  Lst wd ws w.heap.size (w.heap.size+1) ws.length ((w.alloc (.cells (madeCells #[.int .i64 0] (ws.length+1)) 3)).alloc (.cells (madeCells #[.int .i64 0] ws.length) 3)):=by
 have A:((w.alloc (.cells (madeCells #[.int .i64 0] (ws.length+1)) 3)).alloc (.cells (madeCells #[.int .i64 0] ws.length) 3)).heap[w.heap.size]?=some (.cells (madeCells #[.int .i64 0] (ws.length+1)) 3 (0,0)):=
  (Below.heap_alloc _ _ _ (by simp)).trans (heap_alloc_new w _)
 have B:((w.alloc (.cells (madeCells #[.int .i64 0] (ws.length+1)) 3)).alloc (.cells (madeCells #[.int .i64 0] ws.length) 3)).heap[w.heap.size+1]?=some (.cells (madeCells #[.int .i64 0] ws.length) 3 (0,0)):=by
  have:=heap_alloc_new (w.alloc (.cells (madeCells #[.int .i64 0] (ws.length+1)) 3)) (.cells (madeCells #[.int .i64 0] ws.length) 3)
  simpa using this
 refine⟨by omega,⟨_,_,A,size_madeCells _ _⟩,⟨_,_,B,size_madeCells _ _⟩,fun j a b=>?_,fun j a b=>by omega⟩;obtain rfl:j=ws.length:=by omega
 have:best wd (ws.drop ws.length)=0:=by rw[List.drop_length];rfl
 rw[this];simp only[World.cell?,A];exact k1q _ (by omega)
structure Mid(wd:Nat)(ws:List ByteArray)(bL bF i m:Nat)(w:World):Prop where
 l:Lst wd ws bL bF (i+1) w
 c:1<=m->w.cell? ⟨bL,i,none⟩=some (.int .i64 ((q9f (fOf wd (ws.drop i)) m:Nat):Int))/\w.cell? ⟨bF,i,none⟩=some (.int .i64 ((j1o (fOf wd (ws.drop i)) m:Nat):Int))
theorem Mid.kept{wd:Nat}{ws:List ByteArray}{bL bF i m:Nat}{w w':World}(h:Mid wd ws bL bF i m w)(h1:w'.heap[bL]?=w.heap[bL]?)(h2:w'.heap[bF]?=w.heap[bF]?):Mid wd ws bL bF i m w' where
 l:=h.l.kept h1 h2
 c:=fun hm=>⟨(World.cell?_of_block (w:=w) (a:=⟨bL,i,none⟩) h1).trans (h.c hm).1,(World.cell?_of_block (w:=w) (a:=⟨bF,i,none⟩) h2).trans (h.c hm).2⟩
theorem Mid.start{wd:Nat}{ws:List ByteArray}{bL bF i:Nat}{w:World}(h:Lst wd ws bL bF (i+1) w):Mid wd ws bL bF i 0 w:=⟨h,fun hm=>by omega⟩
theorem Mid.skip{wd:Nat}{ws:List ByteArray}{bL bF i m:Nat}{w:World}(h:Mid wd ws bL bF i m w)(h1:¬(m=0\/fOf wd (ws.drop i) (m+1)<=q9f (fOf wd (ws.drop i)) m)):Mid wd ws bL bF i (m+1) w:=by
 refine⟨h.l,fun _=>?_⟩;rw[q9f,j1o,if_neg h1,if_neg h1];exact h.c (by omega)
theorem Mid.put{wd:Nat}{ws:List ByteArray}{bL bF i m:Nat}{w:World}(h:Mid wd ws bL bF i m w)(hi:i<ws.length)(h1:m=0\/fOf wd (ws.drop i) (m+1)<=q9f (fOf wd (ws.drop i)) m):
  Mid wd ws bL bF i (m+1) ((w.setCell ⟨bL,i,none⟩ (.int .i64 ((fOf wd (ws.drop i) (m+1):Nat):Int))).setCell ⟨bF,i,none⟩ (.int .i64 ((m:Int)+1))):=by
 have ne:=h.l.ne;refine⟨⟨ne,h.l.rl.set.set,h.l.rf.set.set,fun j a b=>?_,fun j a b=>?_⟩,fun _=>?_⟩
 ·exact(cso (.inl (Ne.symm ne))).trans ((cso (.inr (by omega))).trans (h.l.cl j a b))
 ·exact(cso (.inr (by omega))).trans ((cso (.inl ne)).trans (h.l.cf j a b))
 ·rw[q9f,j1o,if_pos h1,if_pos h1];obtain⟨C,A⟩:=h.l.rl.cell (i:=i) (by omega);obtain⟨D,B⟩:=h.l.rf.cell (i:=i) hi;exact⟨(cso (.inl (Ne.symm ne))).trans (css A),css ((cso (.inl ne)).trans B)⟩
theorem Mid.done{wd:Nat}{ws:List ByteArray}{bL bF i m:Nat}{w:World}(h:Mid wd ws bL bF i m w)(hi:i<ws.length)(hm:m=ws.length-i):Lst wd ws bL bF i w:=by
 have A:ws.drop i≠[]:=fun e=>by
  have:=congrArg List.length e
  rw[List.length_drop,List.length_nil]at this;omega
 obtain⟨B,C⟩:=h.c (by omega);refine⟨h.l.ne,h.l.rl,h.l.rf,fun j a b=>?_,fun j a b=>?_⟩
 ·by_cases e:j=i
  ·subst e;rw[z3o wd A,List.length_drop,<-hm];exact B
  ·exact h.l.cl j (by omega) b
 ·by_cases e:j=i
  ·subst e;rw[agF,List.length_drop,<-hm];exact C
  ·exact h.l.cf j (by omega) b
theorem j3t(wd:Nat)(ws:List ByteArray)(i k:Nat):fOf wd (ws.drop i) k=bd (ln ((ws.drop i).take k)) wd (k==ws.length-i)+best wd (ws.drop (i+k)):=by
 rw[fOf,List.drop_drop,List.length_drop]
theorem Lst.next{wd:Nat}{ws:List ByteArray}{bL bF i m:Nat}{w:World}(h:Mid wd ws bL bF i m w)(hm:i+(m+1)<=ws.length):w.cell? ⟨bL,i+(m+1),none⟩=some (.int .i64 ((best wd (ws.drop (i+(m+1))):Nat):Int)):=h.l.cl _ (by omega) hm
set_option maxHeartbeats 4000000
theorem y3z{i q n:Nat}(h:i+q<=n):((i:Int)+(q:Int)==(n:Int))=(q==n-i):=by
 by_cases e:q=n-i
 ·rw[beq_iff_eq.2 e,beq_iff_eq.2 (by omega)]
 ·rw[beq_false_of_ne e,beq_false_of_ne (by omega)]
theorem k7c{ws:List ByteArray}{i q:Nat}(h1:1<=q)(h2:i+q<=ws.length):((ws.drop i).take q).length=q/\(ws.drop i).take q≠[]:=by
 have e:((ws.drop i).take q).length=q:=by rw[List.length_take,List.length_drop];omega
 exact⟨e,fun h=>by rw[h]at e;simp at e;omega⟩
theorem y0n{ws:List ByteArray}{b0 o0:Nat}{w wr:World}(hW:Wds w (some ⟨b0,o0,none⟩) ws)(hF:Few ws)(hb:Below w w wr)(i q c n:Nat)(h1:1<=q)(h2:i+q<=ws.length):
  Calls prog 158 #[.slice (some ⟨b0,o0+i,none⟩) q c] (wr.drewN n) fun e w'=>e=.returned (.int .i64 (ln ((ws.drop i).take q)))/\wr.drewN n=w':=
 v6h q _ (k7c h1 h2).1 _ c _ (k7c h1 h2).2 ((hF.drop i).take q) (Wds.W ((z2x.drop hW i).take q) (q0f hb n))
theorem j6j{wd:Nat}{ws:List ByteArray}{bL bF i q bv sv nq:Nat}{w:World}(h:Mid wd ws bL bF i (q-1) w)(hi:i<ws.length)(hq:1<=q)(ho:fOf wd (ws.drop i) q=bv+sv)(h1:q=1\/bv+sv<=q9f (fOf wd (ws.drop i)) (q-1)):
  Mid wd ws bL bF i (q+1-1) (((w.drewN nq).setCell ⟨bL,i,none⟩ (.int .i64 ((bv:Int)+(sv:Int)))).setCell ⟨bF,i,none⟩ (.int .i64 (q:Int))):=by
 obtain⟨m,rfl⟩:∃m,q=m+1:=⟨q-1,by omega⟩;simp only[Nat.add_sub_cancel]at h h1⊢;have C:Mid wd ws bL bF i m (w.drewN nq):=h.kept rfl rfl
 have:=C.put hi (by rw[ho];omega)
 rw[ho]at this;have A:((bv+sv:Nat):Int)=(bv:Int)+(sv:Int):=by omega
 have B:((m+1:Nat):Int)=(m:Int)+1:=by omega
 rw[A]at this;rw[B];exact this
theorem v3v{wd:Nat}{ws:List ByteArray}{bL bF i q nq:Nat}{w:World}(h:Mid wd ws bL bF i (q-1) w)(hq:1<=q)(h1:¬fOf wd (ws.drop i) q<=q9f (fOf wd (ws.drop i)) (q-1))(h2:¬q=1):Mid wd ws bL bF i (q+1-1) (w.drewN nq):=by
 obtain⟨m,rfl⟩:∃m,q=m+1:=⟨q-1,by omega⟩;simp only[Nat.add_sub_cancel]at h h1⊢;have A:Mid wd ws bL bF i m (w.drewN nq):=h.kept rfl rfl;exact A.skip (by omega)
theorem k1b(ws:List ByteArray)(a:Option Addr)(cap wd:Nat)(w:World)(hc:ws.length<=cap)(hF:Few ws)(hw:wd<=100)(hW:Wds w a ws):
  Calls prog 105 #[.slice a ws.length cap,.int .i64 wd] w fun e w'=>(∃A c,e=.returned (.slice A (z3u wd ws).length c)/\z1j w.heap.size (.slice A (z3u wd ws).length c) (z3u wd ws) w')/\Below w w w':=by
 have hl:=hF.1;have HW:Hid (Wds w a ws):=hW;have y:Hid (Few ws):=hF
 have Aq:∀W:World,(Instr.makeSlice 45 (.int .i64 ((ws.length:Int)+1)) (.int .i64 ((ws.length:Int)+1))).run prog W=.ok (.slice (some ⟨W,0,none⟩) (ws.length+1) (ws.length+1)) (W.alloc (.cells (madeCells #[.int .i64 0] (ws.length+1)) 3)):=fun W=>by
  have:=run_make_row' 45 3 _ 8 Tryz.underlying45 z2n rfl .i64 .i64 (ws.length+1) (by omega) (by omega) W
  have e:((ws.length+1:Nat):Int)=(ws.length:Int)+1:=by omega
  rw[e]at this;exact this
 have Ar:∀W:World,(Instr.makeSlice 45 (.int .i64 (ws.length:Int)) (.int .i64 (ws.length:Int))).run prog W=.ok (.slice (some ⟨W,0,none⟩) ws.length ws.length) (W.alloc (.cells (madeCells #[.int .i64 0] ws.length) 3)):=fun W=>
  run_make_row' 45 3 _ 8 Tryz.underlying45 z2n rfl .i64 .i64 ws.length (by omega) (by omega) W
 have HM:Hid (Lst wd ws w.heap.size (w.heap.size+1) ws.length ((w.alloc (.cells (madeCells #[.int .i64 0] (ws.length+1)) 3)).alloc (.cells (madeCells #[.int .i64 0] ws.length) 3))):=Lst.made wd ws w;clear hW hF;go_in;go_wp2
 go_loopw [7] (fun i wr=>Below w w wr/\∃k:Nat,k<=ws.length/\i=.int .i64 ((k:Int)-1)/\Lst wd ws w.heap.size (w.heap.size+1) k wr) (fun i _=>(intOf i+1).toNat)
 case atStart=>exact⟨((Below.refl _ w).alloc Zl _).alloc (by simp) _,ws.length,Nat.le_refl _,by go_num,HM.o⟩
 case round=>
  obtain⟨g,k,hk,rfl,hL⟩:=hrel;have HB:Hid (Below w w wr):=g;have t:Hid (Lst wd ws w.heap.size (w.heap.size+1) k wr):=hL;clear g hL;by_cases o:k=0
  ·subst o;have Ak:¬((0:Int)<=((0:Nat):Int)-1):=by omega
   have Af:w.heap.size+2<=wr.heap.size:=t.o.rf.lt;go_wp2
   go_loopw [10,11] (fun l i wx=>Below (w.heap.size+2) wr wx/\∃(k:Nat)(C:List Nat)(A:Option Addr)(c:Nat),k<=ws.length/\C.length<=k/\i=.int .i64 (k:Int)/\l=.slice A C.length c/\z1j (w.heap.size+2) (.slice A C.length c) C wx/\z3u wd ws=C++z3u wd (ws.drop k)) (fun _ i _=>ws.length-(intOf i).toNat)
   case atStart=>exact⟨Below.refl _ _,0,[],none,0,Nat.zero_le _,Nat.le_refl _,rfl,rfl,World.ownsRow_nil _ _ _ _,rfl⟩
   case round=>
    rename_i wo0 wo1 wo2;obtain⟨I,k,C,A,c,An,Ao,rfl,rfl,hO,hcut⟩:=hrel;have V:Hid (Below (w.heap.size+2) _ wr):=I;have H:Hid (z1j (w.heap.size+2) (.slice A C.length c) C wr):=hO;have HC:Hid (z3u wd ws=C++z3u wd (ws.drop k)):=hcut;have z:Hid (Lst wd ws w.heap.size (w.heap.size+1) 0 wr):=t.o.kept (I.block _ (by omega)) (I.block _ (by omega));have Au:=I.size;clear I hO hcut;by_cases E:k<ws.length
    ·have R:(k:Int)<(ws.length:Int):=by omega
     have Q:ws.drop k≠[]:=fun e=>by
      have:=congrArg List.length e
      rw[List.length_drop,List.length_nil]at this;omega
     have c1:=z.o.cf k (Nat.zero_le _) E
     have X:Hid (z3u wd ws=(C++[agF wd (ws.drop k)])++z3u wd (ws.drop (k+agF wd (ws.drop k)))):=by
      show z3u wd ws=_;rw[HC.o,z0b wd Q,List.drop_drop,List.append_assoc];rfl
     obtain⟨Ac,m⟩:=z1l wd Q;rw[List.length_drop]at m;have Y:Hid (∀W:World,Lst wd ws w.heap.size (w.heap.size+1) 0 W->W.cell? ⟨w.heap.size+1,k,none⟩=some (.int .i64 ((agF wd (ws.drop k):Nat):Int))):=fun W h=>h.cf k (Nat.zero_le _) E
     generalize agF wd (ws.drop k)=av at c1 X Ac m Y;clear Q;obtain⟨i0,Ad,Ag,Ah,Ai⟩:=info_parts z2n;go_wp2_with(at_builtin;refine wpList_append_lies _ rfl _ _ 45 rfl (w.heap.size+2) 3 i0 _ 1 8 Tryz.underlying45 Ad Ag Ah Ai rfl (by decide) _ _ _ rfl (World.ownsRow.alloc H.o _) ⟨wr,0,none⟩ 1 1 [.int .i64 (av:Int)] rfl rfl (cell_one_new wr _ _) (by intro u hu;simp at hu;subst hu;rfl) (by decide) (by unfold maxLen;omega) (by omega) (by simp;omega) (wr.heap.size+1) (by simp) ?_);intro g2 N w2 J D f r;have K:=(V.o.alloc (by omega) (.cells #[.int .i64 (av:Int)] 3)).grown D (by simp;omega) (fun j hj=>(World.ownsRow.lt H.o j hj).1);have x:=(show Hid (Below _ _ _)from K);have c2:=Y.o w2 (t.o.kept (K.block _ (by omega)) (K.block _ (by omega)))
     have Aa:Hid (z1j (w.heap.size+2) (.slice (some ⟨g2,0,none⟩) (C.length+1) N) (C++[av]) w2):=by
      show w2.ownsRow _ _ _ _ _ _;rw[z2p,List.length_append];exact J
     clear J D K f r;go_wp2
     go_roundw
     case rel=>exact⟨x.o,k+av,C++[av],some ⟨g2,0,none⟩,N,by omega,by simp;omega,by go_num,by rw[List.length_append];rfl,by rw[List.length_append];exact Aa.o,X.o⟩
     case measure=>simp[intOf];omega
    ·have Ap:¬(k:Int)<(ws.length:Int):=by omega
     have HE:Hid (z3u wd ws=C):=by
      show z3u wd ws=C;rw[HC.o,List.drop_eq_nil_of_le (by omega),z3b,List.append_nil]
     go_wp2;go_ret;rw[HE.o];exact⟨⟨A,c,rfl,Joins.ownsRow_le H.o (by omega)⟩,HB.o.trans (V.o.mono (by omega))⟩
  ·obtain⟨i,rfl⟩:∃i,k=i+1:=⟨k-1,by omega⟩;have R:(((i+1:Nat):Int)-1)=(i:Int):=by omega
   rw[R];have v:i<ws.length:=by omega
   clear R o;go_wp2
   go_loopw [8] (fun n wx=>Below w w wx/\∃q:Nat,1<=q/\i+q<=ws.length+1/\n=.int .i64 (q:Int)/\Mid wd ws w.heap.size (w.heap.size+1) i (q-1) wx) (fun n _=>(ws.length+1-(intOf n).toNat))
   case atStart=>exact⟨HB.o,1,by omega,by omega,by go_num,Mid.start t.o⟩
   case round=>
    rename_i wy;obtain⟨g,q,M,As,rfl,hM⟩:=hrel;have G:Hid (Below w w wr):=g;have B:Hid (Mid wd ws w.heap.size (w.heap.size+1) i (q-1) wr):=hM;clear g hM;by_cases E:i+q<=ws.length
    ·obtain⟨b0,o0,ea,Al⟩:=HW.o.some (show 0<ws.length by omega);subst ea;have Aj:(i:Int)+(q:Int)<=(ws.length:Int):=by omega
     have At:=j9b b0 o0 ws.length cap i q (by omega) (by omega);have P:wr.cell? ⟨w,i+q,none⟩=some (.int .i64 ((best wd (ws.drop (i+q)):Nat):Int)):=B.o.l.cl (i+q) (by omega) E
     have Z:Hid (∀n,Calls prog 158 #[.slice (some ⟨b0,o0+i,none⟩) q (cap-i)] (wr.drewN n) fun e w'=>e=.returned (.int .i64 (ln ((ws.drop i).take q)))/\w'=wr.drewN n):=fun n=>
      (y0n HW.o y.o G.o i q (cap-i) n M E).mono fun _ _ h=>⟨h.1,h.2.symm⟩
     have O:Hid (∀n,Calls prog 157 #[.int .i64 (ln ((ws.drop i).take q)),.int .i64 wd,.bool ((i:Int)+(q:Int)==(ws.length:Int))] (wr.drewN n) fun e w'=>e=.returned (.int .i64 (bd (ln ((ws.drop i).take q)) wd (q==ws.length-i)))/\w'=wr.drewN n):=fun n=>by
      rw[y3z E];exact(v6e _ wd _ _ ((y.o.drop i).take q).ln hw).mono fun _ _ h=>⟨h.1,h.2.symm⟩
     have H:Hid (fOf wd (ws.drop i) q=bd (ln ((ws.drop i).take q)) wd (q==ws.length-i)+best wd (ws.drop (i+q))):=j3t wd ws i q;have L:=j3u hw (y.o.drop i) q;rw[H.o]at L;generalize ln ((ws.drop i).take q)=lv at Z O H L;generalize bd lv wd (q==ws.length-i)=bv at O H L;generalize best wd (ws.drop (i+q))=sv at P H L;go_wp2_with fail
     go_quiet (first|(go_at_call 158;exact Calls.quiet_of_same (Z.o _))|(go_at_call 157;exact Calls.quiet_of_same (O.o _)))
     obtain⟨y1,e1⟩:=B.o.l.rl.cell (show i<ws.length+1 by omega);obtain⟨y2,e2⟩:=B.o.l.rf.cell v;have f1:wr.frozen? ⟨w,i,none⟩=false:=B.o.l.rl.frozen;have f2:wr.frozen? ⟨w.heap.size+1,i,none⟩=false:=B.o.l.rf.frozen;have Af:w.heap.size+1<wr.heap.size:=B.o.l.rf.lt;by_cases U:q=1
     ·have Ae:((q:Int)==1)=true:=by simp[U]
      have d:=hid (j6j (nq:=nq) B.o v M H.o (.inl U));clear U;go_wp2
      go_roundw
      case rel=>exact⟨j2j (q0f G.o nq) Zl (by omega),q+1,by omega,by omega,by go_num,d.o⟩
      case measure=>simp[intOf];omega
     ·have Ae:((q:Int)==1)=false:=by simp;omega
      have Ab:=(B.o.c (by omega)).1;generalize s:q9f (fOf wd (ws.drop i)) (q-1)=mv at Ab;have b:Hid (q9f (fOf wd (ws.drop i)) (q-1)=mv):=s;clear s e1;by_cases S:bv+sv<=mv
      ·have d:=hid (j6j (nq:=nq) B.o v M H.o (.inr (by rw[b.o];exact S)));have p:(bv:Int)+(sv:Int)<=(mv:Int):=by omega
       clear U S;go_wp2
       go_roundw
       case rel=>exact⟨j2j (q0f G.o nq) Zl (by omega),q+1,by omega,by omega,by go_num,d.o⟩
       case measure=>simp[intOf];omega
      ·have d:=hid (v3v (nq:=nq) B.o M (by rw[H.o,b.o];omega) U);have p:¬(bv:Int)+(sv:Int)<=(mv:Int):=by omega
       clear U S;go_wp2
       go_roundw
       case rel=>exact⟨q0f G.o nq,q+1,by omega,by omega,by go_num,d.o⟩
       case measure=>simp[intOf];omega
    ·have Am:¬(i:Int)+(q:Int)<=(ws.length:Int):=by omega
     have HD:Hid (Lst wd ws w.heap.size (w.heap.size+1) i wr):=B.o.done v (by omega);go_wp2
     go_roundw
     case rel=>exact⟨G.o,i,by omega,by go_num,HD.o⟩
     case measure=>simp[intOf]
theorem v9u(n:Nat):Lib.decDigits n=q7t n:=by
 induction n using Nat.strongRecOn with
 | ind n ih=>
  rw[Lib.decDigits,q7t];by_cases h:n<10
  ·rw[dif_pos h,dif_pos (by omega)]
  ·rw[dif_neg h,dif_neg (by omega),ih (n / 10) (by omega)]
theorem v3d(n:Int)(h0:0<=n)(h1:n<=999999)(w:World)(ht:j1n w):Calls prog 131 #[.int .i64 n] w fun e w'=>e=.returned (.string (wbS (q7t n.toNat)))/\Below w w w':=by
 refine(itoa_sh n (by omega) (by omega) w ht).mono ?_;rintro e w'⟨rfl,k,A,rfl⟩;refine⟨?_,Lib.below_grow _ _ Zl _ _⟩;rw[Lib.itoa,if_neg (by omega),v9u];rfl
theorem j5y(n:Nat)(h1:0<n)(hn:n<=1000000)(w:World):
  Calls prog 207 #[.slice none 0 0,.int .i64 (n:Int)] w fun e w'=>∃c,e=.returned (.slice (some ⟨w,0,none⟩) 0 c)/\q6c w.heap.size (.slice (some ⟨w,0,none⟩) 0 c) [] w'/\Below w w w':=by
 obtain⟨J,M,E,I,C⟩:=info_parts v7j
 have B:∀ty,(Builtin.append_ #[49,3] ty #[.slice none 0 0,.int .i64 (n:Int)]).run prog w=
   .ok (.slice (some ⟨w,0,none⟩) n (grownCap w n 0 107)) (w.drew.alloc (.cells (#[]++Builtin.zeroCells (Value.agg #[.int .i64 0,.string ⟨#[]⟩,.int .i64 0]).cells n++Builtin.zeroCells (Value.agg #[.int .i64 0,.string ⟨#[]⟩,.int .i64 0]).cells (grownCap w n 0 107-n)) 107)):=fun ty=>by
  have D:(Builtin.firstCells J.size 0 (.slice none 0 0)).run prog w.drew=.ok ([]:List Value).toArray w.drew:=run_firstCells_none w.drew J.size 0 0 0;have h:=Lib.run_append_grow_zeros w 49 3 ty 107 J _ .i64 .i64 Tryz.underlying49 Tryz.underlying3 M E none 0 0 [] D n h1 (by omega) (by omega) (by omega) (by rw[C];omega) (growslice_fits (by omega) (by rw[C];omega));simp only[Nat.zero_add]at h;exact h
 have H:n<=grownCap w n 0 107:=grownCap_ge w _ _ _;have A:=grownCap_le_maxLen w n 0 107 (by unfold maxLen;omega);generalize grownCap w n 0 107=G at B H A;have L:G<=9223372036854775807:=by unfold maxLen at A;omega
 have K:Hid (q6c w.heap.size (.slice (some ⟨w,0,none⟩) 0 G) [] (w.drew.alloc (.cells (#[]++Builtin.zeroCells (Value.agg #[.int .i64 0,.string ⟨#[]⟩,.int .i64 0]).cells n++Builtin.zeroCells (Value.agg #[.int .i64 0,.string ⟨#[]⟩,.int .i64 0]).cells (G-n)) 107))):=by
  refine⟨rfl,.inr ⟨w.heap.size,G,_,rfl,Nat.le_refl _,heap_alloc_new w.drew _,Nat.zero_le _,A,?_,rfl⟩⟩;simp only[Array.size_append,size_zeroCells,Array.size_empty];show 0+n*3+(G-n)*3=G*3;omega
 have N:(0:Int)<(n:Int):=by omega
 generalize(#[]++Builtin.zeroCells (Value.agg #[.int .i64 0,.string ⟨#[]⟩,.int .i64 0]).cells n++Builtin.zeroCells (Value.agg #[.int .i64 0,.string ⟨#[]⟩,.int .i64 0]).cells (G-n))=Z at B K
 clear M E I C A;go_in;go_wp2_with(at_builtin;refine Lib.wpList_append_run _ rfl _ _ _ _ rfl _ _ rfl rfl _ _ (B _) ?_);go_ret;exact⟨G,rfl,K.o,Below.drew (Zb.alloc Zl _)⟩
def v8t(w:World)(a:Option Addr)(ps:List (List Nd)):Prop:=
 ∀i(h:i<ps.length),∃b o a' c',a=some ⟨b,o,none⟩/\b<w.heap.size/\w.cell? ⟨b,o+i,none⟩=some (.slice a' ps[i].length c')/\q1p w a' ps[i]/\(a'=none->ps[i].length=0/\c'=0)
theorem v8t.W{w w':World}{a:Option Addr}{ps:List (List Nd)}(h:v8t w a ps)(hb:Below w w w'):v8t w' a ps:=by
 intro i H;obtain⟨b,o,B,C,e,A,D,E,G⟩:=h i H;exact⟨b,o,B,C,e,Nat.lt_of_lt_of_le A hb.size,(hb.cell (p:=⟨b,_,none⟩) A).trans D,E.W hb,G⟩
theorem z6g{ps:List (List Nd)}{i:Nat}(h:i<ps.length):(ps.take (i+1)).flatten=(ps.take i).flatten++ps[i]:=by
 rw[List.take_succ_eq_append_getElem h,List.flatten_append];simp
theorem z4c(ps:List (List Nd))(i:Nat):(ps.take i).flatten.length<=ps.flatten.length:=by
 have h:ps.flatten=(ps.take i).flatten++(ps.drop i).flatten:=by rw[<-List.flatten_append,List.take_append_drop]
 rw[h,List.length_append];omega
structure y6v(w:World)(ps:List (List Nd))(i:Nat)(v:Value)(wr:World):Prop where
 le:i<=ps.length
 o:q6c w.heap.size v (ps.take i).flatten wr
 b:Below w w wr
theorem z4f(ps:List (List Nd))(a:Option Addr)(c:Nat)(w:World)(hP:v8t w a ps)(h0:0<ps.flatten.length)(hl:ps.flatten.length<=900000)(hp:ps.length<=10):
  Calls prog 182 #[.slice a ps.length c] w fun e w'=>∃A c',e=.returned (.slice A ps.flatten.length c')/\q6c w.heap.size (.slice A ps.flatten.length c') ps.flatten w'/\Below w w w':=by
 have z:Hid (v8t w a ps):=hP;have u:Hid (Calls prog 207 #[.slice none 0 0,.int .i64 (ps.flatten.length:Int)] w fun e w'=>∃c,e=.returned (.slice (some ⟨w,0,none⟩) 0 c)/\q6c w.heap.size (.slice (some ⟨w,0,none⟩) 0 c) [] w'/\Below w w w'):=j5y ps.flatten.length h0 (by omega) w;clear hP;generalize hN:ps.flatten.length=N at u h0 hl⊢;have P:Hid (ps.flatten.length=N):=hN;clear hN;go_in;go_wp2_with fail
 go_loopw [3,11] (fun s x wr=>w=wr/\∃i:Nat,i<=ps.length/\x=.int .i64 (i:Int)/\s=.int .i64 ((ps.take i).flatten.length:Int)) (fun _ x _=>ps.length-(intOf x).toNat)
 case atStart=>exact⟨rfl,0,Nat.zero_le _,rfl,rfl⟩
 case round=>
  obtain⟨rfl,i,hi,rfl,rfl⟩:=hrel;by_cases C:i<ps.length
  ·have K:(i:Int)<(ps.length:Int):=by omega
   obtain⟨b0,o0,Y,j,rfl,q,p,_,_⟩:=z.o i C;have B:=congrArg List.length (z6g C);rw[List.length_append]at B;have E:=z4c ps (i+1);rw[P.o]at E;have M:=(show Hid (_=_)from B);have V:(ps.take i).flatten.length+ps[i].length<=900000:=by omega
   clear B E;generalize ps[i].length=pn at M p V
   generalize(ps.take i).flatten.length=sn at M V⊢
   have Aa:¬(sn:Int)+(pn:Int)<0:=by omega
   go_wp2;refine⟨⟨trivial,i+1,C,by go_num,?_⟩,?_⟩
   ·rw[M.o];go_num
   ·simp[intOf];omega
  ·have K:¬(i:Int)<(ps.length:Int):=by omega
   have G:(ps.take i).flatten.length=N:=by rw[List.take_of_length_le (by omega)];exact P.o
   rw[G];clear G;go_wp2_with fail;refine u.o.mono ?_;rintro e w1⟨c1,rfl,S,b1⟩;have f:Hid (y6v w ps 0 (.slice (some ⟨w,0,none⟩) 0 c1) w1):=⟨Nat.zero_le _,S,b1⟩;clear S b1;go_wp2_with fail
   go_loopw [6,27] (fun v x w'=>∃(i:Nat)(A:Option Addr)(n c:Nat),x=.int .i64 (i:Int)/\v=.slice A n c/\n=(ps.take i).flatten.length/\y6v w ps i (.slice A n c) w') (fun _ x _=>ps.length-(intOf x).toNat)
   case atStart=>exact⟨0,_,_,_,rfl,rfl,rfl,f.o⟩
   case round=>
    obtain⟨i,A,n,l,rfl,rfl,L,O⟩:=hrel;have E:=z4c ps i;rw[P.o,<-L]at E;by_cases C:i<ps.length
    ·have K:(i:Int)<(ps.length:Int):=by omega
     obtain⟨b0,o0,Y,j,rfl,q,p,hT,J⟩:=z.o.W O.b i C;have B:=z6g C;have I:=z4c ps (i+1);rw[B,List.length_append,P.o,<-L]at I;have M:=(show Hid (_=_)from B);have Z:Hid (q6c w.heap.size (.slice A n l) (ps.take i).flatten wr):=O.o;have d:Hid (Below w w wr):=O.b;have X:=O.b.size;have HT:Hid (q1p wr Y ps[i]):=hT;have Q:Hid (Y=none->ps[i].length=0/\j=0):=J;have y:Hid ((ps.take i).flatten.length=n):=L.symm;have g:Hid (∃m,ps[i].length=m):=⟨_,rfl⟩;generalize U:ps[i].length=pn at p I Q;have R:Hid (ps[i].length=pn):=U;clear B hT J L O U g E;go_wp2_with(at_builtin;refine z7s rfl _ _ rfl w.heap.size _ (ps.take i).flatten rfl Z.o Y pn ps[i] R.o j rfl HT.o Q.o (n+pn) (by rw[y.o]) (by omega) X ?_);intro t c3 w3 H D
     have h:Hid (y6v w ps (i+1) (.slice t (n+pn) c3) w3):=by
      refine⟨C,?_,d.o.grown D X (fun k hk=>(World.ownsRow.lt Z.o k hk).1)⟩;rw[M.o];exact H
     clear H D;go_wp2;refine⟨⟨i+1,t,n+pn,c3,by go_num,rfl,?_,h.o⟩,?_⟩
     ·rw[M.o,List.length_append,y.o,R.o]
     ·simp[intOf];omega
    ·have K:¬(i:Int)<(ps.length:Int):=by omega
     have G:ps.take i=ps:=List.take_of_length_le (by omega);obtain⟨_,r,hb⟩:=O;rw[G]at r L;rw[P.o]at L;subst L;have Z:Hid (q6c w.heap.size (.slice A n l) ps.flatten wr):=r;have d:Hid (Below w w wr):=hb;clear r hb G;go_wp2;go_ret;exact⟨A,l,rfl,Z.o,d.o⟩
def q1s(wd:Nat)(ws:List ByteArray):List ByteArray:=j6b ws (z3u wd ws)
theorem q3v(wd:Nat){ws:List ByteArray}(h:ws≠[]):q1s wd ws=jnS (ws.take (agF wd ws))::q1s wd (ws.drop (agF wd ws)):=by
 rw[q1s,z0b wd h];rfl
theorem q4f(wd:Nat):q1s wd []=[]:=by rw[q1s,z3b];rfl
theorem q7x(wd:Nat):∀(n:Nat)(ws:List ByteArray),ws.length<=n->(q1s wd ws).length<=ws.length
 | 0,ws,h=>by
  have:ws=[]:=List.eq_nil_of_length_eq_zero (by omega)
  subst this;rw[q4f];simp
 | n+1,ws,h=>by
  by_cases h0:ws=[]
  ·subst h0;rw[q4f];simp
  ·have hp:=z1l wd h0;have ih:=q7x wd n (ws.drop (agF wd ws)) (by simp only[List.length_drop];omega);rw[q3v wd h0,List.length_cons];simp only[List.length_drop]at ih;omega
theorem j0m(s:ByteArray)(w:World)(h:s.size<=281474976710656):
  Calls prog 78 #[.string s] w fun e w'=>e=.returned (.string s)/\Below w w w':=by
 go_in;go_wp2_with fail;refine(clone_sh s _ h).mono ?_;rintro e B⟨rfl,A⟩;go_wp2;go_ret;exact⟨rfl,A⟩
theorem v6g(n:Nat)(ws:List ByteArray)(hn:ws.length=n)(b o c:Nat)(w:World)(hc:n<=c)(hb:b<w.heap.size)(hF:Few ws)(hW:Wds w (some ⟨b,o,none⟩) ws):
  Calls prog 106 #[.slice (some ⟨b,o,none⟩) n c] w fun e w'=>e=.returned (.string (jnS ws))/\Below w w w':=by
 subst hn
 have C:Hid (∀W:World,Below w w W->Calls prog 70 #[.slice (some ⟨b,o,none⟩) ws.length c,.string ⟨#[32]⟩] W fun e w'=>e=.returned (.string (jnS ws))/\Below W W w'):=fun W hB=>by
  have K:=hF.ln;have H:=hF.1;refine join_sh b o c ws ⟨#[32]⟩ W ?_ (Nat.lt_of_lt_of_le hb hB.size) (by omega) hc ?_
  ·intro j x I;obtain⟨G,rfl⟩:=List.getElem?_eq_some_iff.1 I;obtain⟨J,L,e,_,E⟩:=Wds.W hW hB j G;simp only[Option.some.injEq,Addr.mk.injEq,and_true]at e;obtain⟨rfl,rfl⟩:=e;exact E
  ·have:=j5c ws
   show(jnL ws).length<=_
   omega
 have D:(jnS ws).size<=281474976710656:=by
  rw[z3d]
  have:=hF.ln
  omega
 clear hW hF;generalize jnS ws=s at C D;go_in;go_wp2_with fail;refine(C.o _ Zb).mono ?_;rintro e M⟨rfl,A⟩;go_wp2_with fail;refine(j0m s _ D).mono ?_;rintro e N⟨rfl,B⟩;go_wp2;go_ret;exact⟨rfl,q0d A Zl B⟩
structure j1r(wd:Nat)(ws:List ByteArray)(ks:List Nat)(w w1:World)(k:Nat)(vs done:List ByteArray)(A L:Option Addr)(c lc:Nat)(wr:World):Prop where
 b:Below w1 w1 wr
 le:k<=ks.length
 vc:vs.length<=c
 wo:Wds w A vs
 fe:Few vs
 cu:ks.drop k=z3u wd vs
 ro:q2g w1 (.slice L done.length lc) done wr
 li:q1s wd ws=done++q1s wd vs
 dl:done.length+vs.length<=60
theorem j1r.step{wd:Nat}{ws:List ByteArray}{ks:List Nat}{w w1:World}{k:Nat}{vs A:List ByteArray}{b o:Nat}{L:Option Addr}{c lc:Nat}{wr:World}(h:j1r wd ws ks w w1 k vs A (some ⟨b,o,none⟩) L c lc wr)(hk:k<ks.length):
  ∃q,ks[k]=q/\1<=q/\q<=vs.length/\∃A',(∀W:World,(Instr.slice 58 (.slice (some ⟨b,o,none⟩) vs.length c) (some (.int .i64 (q:Int))) none none).run prog W=.ok (.slice A' (vs.drop q).length (c-q)) W)/\
   ∀g cap2 w2,Below w1 w1 w2->q2g w1 (.slice (some ⟨g,0,none⟩) (A++[jnS (vs.take q)]).length cap2) (A++[jnS (vs.take q)]) w2->j1r wd ws ks w w1 (k+1) (vs.drop q) (A++[jnS (vs.take q)]) A' (some ⟨g,0,none⟩) (c-q) cap2 w2:=by
 have B:vs≠[]:=fun e=>by
  have C:=h.cu;rw[e,z3b]at C
  have:=congrArg List.length C
  rw[List.length_drop,List.length_nil]at this;omega
 have C:=h.cu;rw[List.drop_eq_getElem_cons hk,z0b wd B,List.cons.injEq]at C;obtain⟨H,D⟩:=z1l wd B;obtain⟨A',E,G⟩:=y1s h.wo D h.vc;refine⟨agF wd vs,C.1,H,D,A',E,fun g cap2 w2 hb hs=>?_⟩;exact{b:=hb,le:=hk,vc:=by have:=h.vc;rw[List.length_drop];omega,wo:=G,fe:=h.fe.drop _,cu:=C.2,ro:=hs,li:=by rw[h.li,q3v wd B,List.append_assoc];rfl,dl:=by have:=h.dl;rw[List.length_append,List.length_drop];simp;omega}
theorem v6f(ws:List ByteArray)(a:Option Addr)(cap wd:Nat)(w:World)(hc:ws.length<=cap)(hW:Wds w a ws)(h0:q6u ws wd=0):
  Calls prog 69 #[.slice a ws.length cap,.int .i64 wd] w fun e w'=>(∃L c,e=.returned (.tuple #[.slice L (q1s wd ws).length c,.nilIface])/\q2g w (.slice L (q1s wd ws).length c) (q1s wd ws) w')/\Below w w w':=by
 obtain⟨y,n,Ak,Au,Al⟩:=k9c h0;obtain rfl:wd=n:=by omega
 have H0:Hid (q6u ws wd=0):=h0;have HF:Hid (Few ws):=v7a y;have hl:=HF.o.1;have HW:Hid (Wds w a ws):=hW;clear h0 y Ak hW;go_in;go_wp2_with fail;refine(v0t ws a cap wd _ HW.o).mono ?_;rintro e V⟨rfl,rfl⟩;rw[H0.o,q1l];go_wp2_with fail;refine(k1b ws a cap wd _ hc HF.o Al HW.o).mono ?_;rintro e M⟨⟨K,kc,rfl,hO⟩,O⟩;generalize S:z3u wd ws=C at hO;have HK:Hid (z1j w.heap.size (.slice K C.length kc) C M):=hO;have Ad:Hid (z3u wd ws=C):=S;have d:Hid (Below w w M):=O
 have As:C.length<=60:=by
  have:=q7x wd _ ws Zl
  have e:∀(C:List Nat)(ws:List ByteArray),(j6b ws C).length=C.length:=by
   intro C
   induction C with
   | nil=>intro ws;rfl
   | cons k r ih=>intro ws;simp[j6b,ih]
  rw[q1s,e,S]at this;omega
 have U:=O.size;clear hO S O;go_wp2
 go_loopw [0,7,20] (fun l x i wr=>∃(k:Nat)(D B:List ByteArray)(A L:Option Addr)(c Z:Nat),l=.slice A D.length c/\x=.slice L B.length Z/\i=.int .i64 (k:Int)/\j1r wd ws C w M k D B A L c Z wr) (fun _ _ i _=>C.length-(intOf i).toNat)
 case atStart=>exact⟨0,ws,[],a,none,cap,0,rfl,rfl,rfl,{b:=Below.refl _ _,le:=Nat.zero_le _,vc:=hc,wo:=HW.o,fe:=HF.o,cu:=Ad.o.symm,ro:=World.ownsRow_nil _ _ _ _,li:=rfl,dl:=by simpa using hl}⟩
 case round=>
  obtain⟨k,D,B,A,L,c,Z,rfl,rfl,rfl,Y⟩:=hrel;have G:Hid (j1r wd ws C w M k D B A L c Z wr):=Y;have At:=Y.le;have Ay:=Y.vc;have Ar:=Y.dl;have Am:=Y.b.size;clear Y;by_cases z:k<C.length
  ·have Aj:(k:Int)<(C.length:Int):=by omega
   obtain⟨g,rfl,hg,c0⟩:=z6t HK.o k z;have c1:wr.cell? ⟨g,k,none⟩=some (.int .i64 ((C[k]:Nat):Int)):=(G.o.b.cell (p:=⟨g,k,none⟩) hg).trans c0;clear c0
   have An:0<D.length:=by
    rcases Nat.eq_zero_or_pos D.length with h|h
    ·have:D=[]:=List.eq_nil_of_length_eq_zero h
     have X:=G.o.cu;rw[this,z3b]at X
     have:=congrArg List.length X
     rw[List.length_drop,List.length_nil]at this;omega
    ·exact h
   obtain⟨b0,o0,ea,Af⟩:=G.o.wo.some An;subst ea;obtain⟨q,hq,Av,Aw,A',hs,I⟩:=G.o.step z;rw[hq]at c1;have f:=hid I;have Ag:=y1r (some ⟨b0,o0,none⟩) D.length c q (by omega);have Q:Below w w wr:=d.o.trans (G.o.b.mono U)
   have HL:Hid (Calls prog 106 #[.slice (some ⟨b0,o0,none⟩) q c] wr fun e w'=>e=.returned (.string (jnS (D.take q)))/\Below wr wr w'):=
    v6g q (D.take q) (by rw[List.length_take];omega) b0 o0 c wr (by omega) (Nat.lt_of_lt_of_le Af Q.size) (G.o.fe.take q) (Wds.W (G.o.wo.take q) Q)
   generalize Ai:jnS (D.take q)=s at HL f;generalize N:(D.drop q).length=dl at hs;have Ac:Hid ((D.drop q).length=dl):=N;clear hq I Ai N Q;go_wp2_with fail;refine HL.o.mono ?_;rintro e V⟨rfl,P⟩;have m:Hid (q2g M (.slice L B.length Z) B V):=q3c G.o.ro P;have R:Below M M V:=G.o.b.trans (P.mono Am);have Ab:Hid (Below M M V):=R;have Ax:=R.size;clear R P;obtain⟨i0,Ah,Ao,Ap,Aq⟩:=info_parts z0t;go_wp2_with(at_builtin;refine wpList_append_lies _ rfl _ _ 58 rfl M.heap.size 9 i0 _ 1 16 Tryz.underlying58 Ah Ao Ap Aq rfl (by decide) _ _ _ rfl (World.ownsRow.alloc m.o _) ⟨V,0,none⟩ 1 1 [.string s] rfl rfl (cell_one_new V _ _) (by intro u hu;simp at hu;subst hu;rfl) (by decide) (by unfold maxLen;omega) (by omega) (by simp;omega) (V.heap.size+1) (by simp) ?_);intro g2 H w3 J E t Aa;have v:=(Ab.o.alloc (by omega) (.cells #[.string s] 9)).grown E (by simp;omega) (fun j hj=>(World.ownsRow.lt m.o j hj).1)
   have o:q2g M (.slice (some ⟨g2,0,none⟩) (B++[s]).length H) (B++[s]) w3:=by
    show w3.ownsRow _ _ _ _ _ _;rw[q2f,List.length_append];exact J
   have Ae:=hid (f.o g2 H w3 v o);clear J E v o t Aa;go_wp2
   go_roundw
   case rel=>exact⟨k+1,D.drop q,B++[s],A',some ⟨g2,0,none⟩,c-q,H,by rw[Ac.o],by rw[List.length_append];rfl,by go_num,Ae.o⟩
   case measure=>simp[intOf];omega
  ·have Aj:¬(k:Int)<(C.length:Int):=by omega
   have HE:Hid (q1s wd ws=B):=by
    show q1s wd ws=B;have X:=G.o.cu;rw[List.drop_eq_nil_of_le (by omega)]at X
    have h2:D=[]:=by
     by_cases h:D=[]
     ·exact h
     ·rw[z0b wd h]at X;cases X
    rw[G.o.li,h2,q4f,List.append_nil]
   go_wp2;go_ret2;rw[HE.o];exact⟨⟨L,Z,rfl,Joins.ownsRow_le G.o.ro U⟩,d.o.trans (G.o.b.mono U)⟩
end Go.Proofs.YtfdppahhbpfnoaaGreatDoor
