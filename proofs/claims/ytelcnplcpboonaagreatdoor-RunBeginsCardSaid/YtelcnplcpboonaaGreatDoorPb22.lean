import Derived.Test.YtelcnplcpboonaaGreatDoorPb16
import Derived.Test.YtelcnplcpboonaaGreatDoorPb17
import Derived.Test.YtelcnplcpboonaaGreatDoorPb18
import Derived.Test.YtelcnplcpboonaaGreatDoorRep
import Derived.Deep.QuietTactic
open Go.Proofs.Tryz
namespace Go.Proofs.YtelcnplcpboonaaGreatDoor
open Go Go.RowKit
def Row(w:World)(b n:Nat):Prop:=∃cs T,w.heap[b]?=some (.cells cs T (0,0))/\cs.size=n
theorem Row.lt{w:World}{b n:Nat}(h:Row w b n):b<w.heap.size:=by
 obtain⟨B,T,h,_⟩:=h;rcases Nat.lt_or_ge b w.heap.size with A|A
 ·exact A
 ·simp[Array.getElem?_eq_none A]at h
theorem Row.cell{w:World}{b n i:Nat}(h:Row w b n)(hi:i<n):∃y,w.cell? ⟨b,i,none⟩=some y:=by
 obtain⟨A,T,h,B⟩:=h;refine⟨A[i],?_⟩;simp[World.cell?,h]
theorem Row.frozen{w:World}{b n i:Nat}(h:Row w b n):w.frozen? ⟨b,i,none⟩=false:=by
 obtain⟨A,T,h,B⟩:=h;simp[World.frozen?,h]
theorem Row.kept{w w':World}{b n:Nat}(h:Row w b n)(hb:w'.heap[b]?=w.heap[b]?):Row w' b n:=by
 obtain⟨A,T,h,B⟩:=h;exact⟨A,T,hb.trans h,B⟩
theorem Row.set{w:World}{b n c i:Nat}{v:Value}(h:Row w b n):Row (w.setCell ⟨c,i,none⟩ v) b n:=by
 by_cases e:c=b
 ·subst e;obtain⟨A,T,h,B⟩:=h;exact⟨A.setIfInBounds i v,T,by simp[World.setCell,Array.getElem?_modify,h],by simpa using B⟩
 ·exact h.kept (Below.heap_setCell _ _ _ _ (Ne.symm e))
section
variable {be bf i:Nat} {e f:Value} {w w':World}
theorem z1k.block(h:z1k be bf i e f w w')(k:Nat)(h1:k≠be)(h2:k≠bf):w'.heap[k]?=w.heap[k]?:=by
 rw[h.2.2.2,Below.heap_setCell _ _ _ _ h2,Below.heap_setCell _ _ _ _ h1]
theorem z1k.cells(h:z1k be bf i e f w w')(b o:Nat):w'.cell? ⟨b,o,none⟩=((w.setCell ⟨be,i,none⟩ e).setCell ⟨bf,i,none⟩ f).cell? ⟨b,o,none⟩:=World.cell?_of_block (a:=⟨b,o,none⟩) (by rw[h.2.2.2])
theorem z1k.other(h:z1k be bf i e f w w')(b o:Nat)(h1:be≠b\/i≠o)(h2:bf≠b\/i≠o):w'.cell? ⟨b,o,none⟩=w.cell? ⟨b,o,none⟩:=(h.cells b o).trans ((cso h2).trans (cso h1))
theorem z1k.cellE(h:z1k be bf i e f w w')(hb:be≠bf){y:Value}(hy:w.cell? ⟨be,i,none⟩=some y):w'.cell? ⟨be,i,none⟩=some e:=(h.cells be i).trans ((cso (by omega)).trans (css hy))
theorem z1k.cellF(h:z1k be bf i e f w w')(hb:be≠bf){y:Value}(hy:w.cell? ⟨bf,i,none⟩=some y):w'.cell? ⟨bf,i,none⟩=some f:=(h.cells bf i).trans (css ((cso (by omega)).trans hy))
theorem z1k.size(h:z1k be bf i e f w w'):w'.heap.size=w.heap.size:=by rw[h.2.2.2];simp[World.setCell]
theorem z1k.W(h:z1k be bf i e f w w'){B:Nat}(h1:B<=be)(h2:B<=bf):Below B w w':=
 ⟨h.1,h.2.1,h.2.2.1,Nat.le_of_eq h.size.symm,fun k hk=>h.block k (by omega) (by omega)⟩
theorem z1k.row{b n:Nat}(h:z1k be bf i e f w w')(hr:Row w b n):Row w' b n:=by
 refine(Row.set (c:=bf) (i:=i) (v:=f) (Row.set (c:=be) (i:=i) (v:=e) hr)).kept ?_;rw[h.2.2.2]
end
def q7m(w:World)(be bf:Nat)(ds:List Nd)(k:Nat):Prop:=
 ∀i(t:Tr)(r:List Nd),k<=i->t.Wf->ds.drop i=t.N++r->w.cell? ⟨be,i,none⟩=some (.int .i64 ((i+t.N.length:Nat):Int))/\w.cell? ⟨bf,i,none⟩=some (.bool t.isFlat)
theorem q7m.kept{w w':World}{be bf:Nat}{ds:List Nd}{k:Nat}(h:q7m w be bf ds k)(h1:w'.heap[be]?=w.heap[be]?)(h2:w'.heap[bf]?=w.heap[bf]?):q7m w' be bf ds k:=by
 intro i t r D E C;obtain⟨A,B⟩:=h i t r D E C;exact⟨(World.cell?_of_block (w:=w) (a:=⟨be,i,none⟩) h1).trans A,(World.cell?_of_block (w:=w) (a:=⟨bf,i,none⟩) h2).trans B⟩
theorem q7m.end{w:World}{be bf:Nat}{ds:List Nd}:q7m w be bf ds ds.length:=by
 intro i t r C D A;rw[List.drop_eq_nil_of_le C]at A
 have:=t.pos
 have B:=congrArg List.length A;rw[List.length_append,List.length_nil]at B;omega
theorem q7m.step{w w':World}{be bf:Nat}{ds:List Nd}{i:Nat}{t:Tr}{r:List Nd}{y1 y2:Value}(h:q7m w be bf ds (i+1))(ht:t.Wf)(hd:ds.drop i=t.N++r)(hb:be≠bf)(e1:w.cell? ⟨be,i,none⟩=some y1)(e2:w.cell? ⟨bf,i,none⟩=some y2)
  (hp:z1k be bf i (.int .i64 ((i+t.N.length:Nat):Int)) (.bool t.isFlat) w w'):q7m w' be bf ds i:=by
 intro j D C I B A;by_cases H:j=i
 ·subst H;obtain⟨rfl,_⟩:=q6q t D r C ht B (hd.symm.trans A);exact⟨hp.cellE hb e1,hp.cellF hb e2⟩
 ·obtain⟨E,G⟩:=h j D C (by omega) B A;exact⟨(hp.other be j (by omega) (by omega)).trans E,(hp.other bf j (by omega) (by omega)).trans G⟩
theorem q1j{ds A:List Nd}{i:Nat}{x:Nd}(h:ds.drop i=x::A):∃hi:i<ds.length,ds[i]=x/\ds.drop (i+1)=A:=by
 have hi:i<ds.length:=by
  rcases Nat.lt_or_ge i ds.length with B|B
  ·exact B
  ·rw[List.drop_eq_nil_of_le B]at h;cases h
 rw[List.drop_eq_getElem_cons hi,List.cons.injEq]at h;exact⟨hi,h⟩
theorem z6t{ds A r:List Nd}{i:Nat}(h:ds.drop i=A++r):ds.drop (i+A.length)=r:=by
 rw[<-List.drop_drop,h,List.drop_left]
theorem q7u{ds:List Nd}{i:Nat}{t:Tr}{r:List Nd}(h:ds.drop i=t.N++r):i<ds.length:=by
 rcases Nat.lt_or_ge i ds.length with A|A
 ·exact A
 ·have B:=congrArg List.length h
  have:=t.pos
  rw[List.drop_eq_nil_of_le A,List.length_append,List.length_nil]at B;omega
theorem j4s(bp be bf s B i:Nat)(ds:List Nd)(a:Option Addr)(t:Tr)(r:List Nd)(w:World)(ht:t.Wf)(hd:ds.drop i=t.N++r)(hl:ds.length<=400)(hN:q0w s w a ds)(h1:bp≠be)(h2:bp≠bf)(h3:be≠bf)(h4:s≠be)(h5:s≠bf)
  (c0:w.cell? ⟨bp,0,none⟩=some (.slice a ds.length B)) (c1:w.cell? ⟨bp,1,none⟩=some (.slice (some ⟨be,0,none⟩) ds.length ds.length)) (c2:w.cell? ⟨bp,2,none⟩=some (.slice (some ⟨bf,0,none⟩) ds.length ds.length))
  (hE:Row w be ds.length) (hF:Row w bf ds.length) (hK:q7m w be bf ds (i+1)):
  Calls prog 278 #[.pointer (some ⟨bp,0,none⟩),.int .i64 i] w fun e w'=>e=.returned (.tuple #[])/\z1k be bf i (.int .i64 ((i+t.N.length:Nat):Int)) (.bool t.isFlat) w w':=by
 have V:=q7u hd;obtain⟨J,H⟩:=hE.cell V;obtain⟨K,I⟩:=hF.cell V;have L:w.frozen? ⟨be,i,none⟩=false:=hE.frozen;have M:w.frozen? ⟨bf,i,none⟩=false:=hF.frozen;obtain⟨o,b,C,_,_⟩:=hN i V;subst b;have D:(i:Int)<ds.length:=by omega
 cases t with
 | leaf x=>
  obtain⟨_,S,_⟩:=q1j (x:=x) (A:=r) hd;have R:((i+(Tr.leaf x).N.length:Nat):Int)=(i:Int)+1:=rfl;rw[R];rw[S]at C;rcases q4t ht.1 ht.2 with e|e|e|e|e
  ·have E:(Tr.leaf x).isFlat=true:=by simp[Tr.isFlat,Tr.flat,e]
   rw[E];rw[e]at C;exact q7e 1 (.inl rfl) bp be bf s o _ B i w hl D h1 h2 h3 h4 h5 c0 c1 c2 C J K H I L M
  ·have E:(Tr.leaf x).isFlat=true:=by simp[Tr.isFlat,Tr.flat,e]
   rw[E];rw[e]at C;exact q7e 2 (.inr (.inl rfl)) bp be bf s o _ B i w hl D h1 h2 h3 h4 h5 c0 c1 c2 C J K H I L M
  ·have E:(Tr.leaf x).isFlat=true:=by simp[Tr.isFlat,Tr.flat,e]
   rw[E];rw[e]at C;exact q7e 3 (.inr (.inr (.inl rfl))) bp be bf s o _ B i w hl D h1 h2 h3 h4 h5 c0 c1 c2 C J K H I L M
  ·have E:(Tr.leaf x).isFlat=false:=by simp[Tr.isFlat,Tr.flat,e]
   rw[E];rw[e]at C;exact y0c bp be bf s o _ B i w hl D h1 h2 h3 h4 h5 c0 c1 c2 C J K H I L M
  ·have E:(Tr.leaf x).isFlat=true:=by simp[Tr.isFlat,Tr.flat,e]
   rw[E];rw[e]at C;exact q7e 5 (.inr (.inr (.inr rfl))) bp be bf s o _ B i w hl D h1 h2 h3 h4 h5 c0 c1 c2 C J K H I L M
 | one x a'=>
  obtain⟨_,S,G⟩:=q1j (x:=x) (A:=a'.N++r) hd;have W:=q7u G;obtain⟨Q,P⟩:=hK (i+1) a' r Zl ht.2.2 G;have R:((i+(Tr.one x a').N.length:Nat):Int)=((i+1+a'.N.length:Nat):Int):=by simp only[Tr.N,List.length_cons];congr 1;omega
  have E:(Tr.one x a').isFlat=a'.isFlat:=rfl;rw[R,E];rw[S]at C;rcases z1g ht.2.1 with e|e
  ·rw[e]at C;exact k5p 7 (.inl rfl) bp be bf s o _ B i _ _ w hl D (by omega) h1 h2 h3 h4 h5 c0 c1 c2 C Q P J K H I L M
  ·rw[e]at C;exact k5p 8 (.inr rfl) bp be bf s o _ B i _ _ w hl D (by omega) h1 h2 h3 h4 h5 c0 c1 c2 C Q P J K H I L M
 | two x a' b'=>
  obtain⟨_,S,U⟩:=q1j (x:=x) (A:=a'.N++b'.N++r) hd;have G:ds.drop (i+1)=a'.N++(b'.N++r):=by rw[U,List.append_assoc]
  have O:=z6t G;have W:=q7u G;have c:=q7u O;have d:=a'.pos;obtain⟨Q,P⟩:=hK (i+1) a' _ Zl ht.2.2.1 G;obtain⟨X,Z⟩:=hK _ b' r (by omega) ht.2.2.2 O;have R:((i+(Tr.two x a' b').N.length:Nat):Int)=((i+1+a'.N.length+b'.N.length:Nat):Int):=by simp only[Tr.N,List.length_cons,List.length_append];congr 1;omega
  rw[R];rw[S]at C;rcases q9q ht.2.1 with e|e
  ·have E:(Tr.two x a' b').isFlat=(a'.isFlat&&b'.isFlat):=(j5d e).2;rw[E];rw[e]at C;cases Y:a'.isFlat with
   | true=>
    rw[Y]at P;exact v2k bp be bf s o _ B i _ _ _ w hl D (by omega) (by omega) (by omega) h1 h2 h3 h4 h5 c0 c1 c2 C Q X P Z J K H I L M
   | false=>
    rw[Y]at P;exact v2j bp be bf s o _ B i _ _ _ w hl D (by omega) (by omega) (by omega) h1 h2 h3 h4 h5 c0 c1 c2 C Q X P Z J K H I L M
  ·have E:(Tr.two x a' b').isFlat=a'.isFlat:=by simp[Tr.isFlat,Tr.flat,e]
   rw[E];rw[e]at C;exact y0d bp be bf s o _ B i _ _ _ w hl D (by omega) (by omega) (by omega) h1 h2 h3 h4 h5 c0 c1 c2 C Q X P J K H I L M
theorem j4f:(prog.info? 3).map (fun i=>(i.zero,i.size,i.bytes))=some (some (.int .i64 0),1,8):=by kernel_rfl
theorem v0p:(prog.info? 4).map (fun i=>(i.zero,i.size,i.bytes))=some (some (.bool false),1,1):=by kernel_rfl
structure z6i(w0:World)(s bp be bf:Nat)(a:Option Addr)(cap:Nat)(ds:List Nd)(w:World):Prop where
 b1:w0.heap.size<=bp
 b2:w0.heap.size+1<=be
 b3:w0.heap.size+1<=bf
 n1:bp≠be
 n2:bp≠bf
 n3:be≠bf
 c0:w.cell? ⟨bp,0,none⟩=some (.slice a ds.length cap)
 c1:w.cell? ⟨bp,1,none⟩=some (.slice (some ⟨be,0,none⟩) ds.length ds.length)
 c2:w.cell? ⟨bp,2,none⟩=some (.slice (some ⟨bf,0,none⟩) ds.length ds.length)
 re:Row w be ds.length
 rf:Row w bf ds.length
 rb:w.heap[w0.heap.size]?=some (.cells #[.slice none 0 0,.slice none 0 0,.slice none 0 0] 334 (0,0))
 bw:Below w0 w0 w
 nd:q0w s w a ds
theorem z6i.put{w0 w w':World}{s bp be bf cap i:Nat}{a:Option Addr}{ds:List Nd}{e f:Value}(h:z6i w0 s bp be bf a cap ds w)(hs:s<w0.heap.size)(hp:z1k be bf i e f w w'):z6i w0 s bp be bf a cap ds w' where
 b1:=h.b1
 b2:=h.b2
 b3:=h.b3
 n1:=h.n1
 n2:=h.n2
 n3:=h.n3
 c0:=(hp.other bp 0 (.inl h.n1.symm) (.inl h.n2.symm)).trans h.c0
 c1:=(hp.other bp 1 (.inl h.n1.symm) (.inl h.n2.symm)).trans h.c1
 c2:=(hp.other bp 2 (.inl h.n1.symm) (.inl h.n2.symm)).trans h.c2
 re:=hp.row h.re
 rf:=hp.row h.rf
 rb:=(hp.block _ (by have:=h.b2;omega) (by have:=h.b3;omega)).trans h.rb
 bw:=h.bw.trans (hp.W (by have:=h.b2;omega) (by have:=h.b3;omega))
 nd:=h.nd.kept (hp.block s (by have:=h.b2;omega) (by have:=h.b3;omega))
set_option maxRecDepth 100000
set_option maxHeartbeats 4000000
theorem q3r(z:Value)(n:Nat):(madeCells #[z] n).size=n:=by simp[madeCells]
theorem q1v(w:World)(O0 O1 O2 O3:Obj):((((w.alloc O0).alloc O1).alloc O2).alloc O3).drew.heap[w.heap.size]?=some O0/\((((w.alloc O0).alloc O1).alloc O2).alloc O3).drew.heap[w.heap.size+1]?=some O1
  /\((((w.alloc O0).alloc O1).alloc O2).alloc O3).drew.heap[w.heap.size+1+1]?=some O2/\((((w.alloc O0).alloc O1).alloc O2).alloc O3).drew.heap[w.heap.size+1+1+1]?=some O3:=by
 have E:(w.alloc O0).heap.size=w.heap.size+1:=by simp
 have G:((w.alloc O0).alloc O1).heap.size=w.heap.size+1+1:=by simp
 have H:(((w.alloc O0).alloc O1).alloc O2).heap.size=w.heap.size+1+1+1:=by simp
 have D:=heap_alloc_new w O0;have A:=heap_alloc_new (w.alloc O0) O1;have B:=heap_alloc_new ((w.alloc O0).alloc O1) O2;have C:=heap_alloc_new (((w.alloc O0).alloc O1).alloc O2) O3;rw[E]at A;rw[G]at B;rw[H]at C;refine⟨?_,?_,?_,C⟩
 ·exact(Below.heap_alloc _ _ _ (by omega)).trans ((Below.heap_alloc _ _ _ (by omega)).trans ((Below.heap_alloc _ _ _ (by omega)).trans D))
 ·exact(Below.heap_alloc _ _ _ (by omega)).trans ((Below.heap_alloc _ _ _ (by omega)).trans A)
 ·exact(Below.heap_alloc _ _ _ (by omega)).trans B
theorem q9z(w:World)(O0 O1 O2 O3:Obj):Below w w ((((w.alloc O0).alloc O1).alloc O2).alloc O3).drew:=
 Below.drew (((((Below.refl _ w).alloc Zl _).alloc (by simp) _).alloc (by simp;omega) _).alloc (by simp;omega) _)
theorem q7i{w W:World}{s bp be bf A:Nat}{a:Option Addr}{ds:List Nd}(hs:s<w.heap.size)(hN:q0w s w a ds)(bw:Below w w W)(rb:W.heap[w.heap.size]?=some (.cells #[.slice none 0 0,.slice none 0 0,.slice none 0 0] 334 (0,0)))
  (hp:W.heap[bp]?=some (.cells #[.slice a ds.length A,.slice (some ⟨be,0,none⟩) ds.length ds.length,.slice (some ⟨bf,0,none⟩) ds.length ds.length] 334 (0,0))) {ce cf:Array Value} {Te Tf:TypeId} (he:W.heap[be]?=some (.cells ce Te (0,0))) (B:ce.size=ds.length) (hf:W.heap[bf]?=some (.cells cf Tf (0,0))) (C:cf.size=ds.length)
  (b1:w.heap.size<=bp) (b2:w.heap.size+1<=be) (b3:w.heap.size+1<=bf) (n1:bp≠be) (n2:bp≠bf) (n3:be≠bf):z6i w s bp be bf a A ds W where
 b1:=b1
 b2:=b2
 b3:=b3
 n1:=n1
 n2:=n2
 n3:=n3
 c0:=by simp[World.cell?,hp]
 c1:=by simp[World.cell?,hp]
 c2:=by simp[World.cell?,hp]
 re:=⟨ce,Te,he,B⟩
 rf:=⟨cf,Tf,hf,C⟩
 rb:=rb
 bw:=bw
 nd:=hN.kept (bw.block s hs)
theorem k3h(ds:List Nd)(a:Option Addr)(B s:Nat)(w:World)(h0:q2o ds=0)(hN:q0w s w a ds)(hs:s<w.heap.size):
  Calls prog 260 #[.slice a ds.length B] w fun e w'=>(∃be bf,e=.returned (.agg #[.slice a ds.length B,.slice (some ⟨be,0,none⟩) ds.length ds.length,.slice (some ⟨bf,0,none⟩) ds.length ds.length])/\be<w'.heap.size/\bf<w'.heap.size/\q7m w' be bf ds 0)/\Below w w w':=by
 obtain⟨o,J,b⟩:=q5b h0
 have q:∀W:World,(Instr.makeSlice 73 (.int .i64 (ds.length:Int)) (.int .i64 (ds.length:Int))).run prog W=.ok (.slice (some ⟨W,0,none⟩) ds.length ds.length) (W.alloc (.cells (madeCells #[.int .i64 0] ds.length) 3)):=fun W=>
  run_make_row' 73 3 _ 8 Tryz.underlying73 j4f rfl .i64 .i64 ds.length (by omega) (by omega) W
 have r:∀W:World,(Instr.makeSlice 332 (.int .i64 (ds.length:Int)) (.int .i64 (ds.length:Int))).run prog W=.ok (.slice (some ⟨W,0,none⟩) ds.length ds.length) (W.alloc (.cells (madeCells #[.bool false] ds.length) 4)):=fun W=>
  run_make_row' 332 4 _ 1 Tryz.underlying332 v0p rfl .i64 .i64 ds.length (by omega) (by omega) W
 have O:Hid (∀x∈ds,q0r x=0):=J;have K:Hid (q1l ds 0 1=some ds.length):=b;have H:Hid (q0w s w a ds):=hN;clear h0 hN J b;go_in
 go_upto_region 1 with fail
 go_cut [0,2,3] (fun s0 s2 s3 wx=>s0=.slice a ds.length B/\s2=.pointer (some ⟨w,0,none⟩)/\∃C be bf,s3=.pointer (some ⟨C,0,none⟩)/\z6i w s C be bf a B ds wx)
 case first=>
  go_region_held3 (fun _=>True) (trivial) (fail)
  all_goals (go_wp2)
  all_goals
   go_meet
   first
    | exact⟨rfl,rfl,w.heap.size+1+1+1,w.heap.size+1,w.heap.size+1+1,rfl,q7i hs H.o (q9z w _ _ _ _) (q1v w _ _ _ _).1 (q1v w _ _ _ _).2.2.2 (q1v w _ _ _ _).2.1 (q3r _ _) (q1v w _ _ _ _).2.2.1 (q3r _ _) (by omega) (by omega) (by omega) (by omega) (by omega) (by omega)⟩
    | exact⟨rfl,rfl,w.heap.size+1+1,w.heap.size+1,w.heap.size+1+1+1,rfl,q7i hs H.o (q9z w _ _ _ _) (q1v w _ _ _ _).1 (q1v w _ _ _ _).2.2.1 (q1v w _ _ _ _).2.1 (q3r _ _) (q1v w _ _ _ _).2.2.2 (q3r _ _) (by omega) (by omega) (by omega) (by omega) (by omega) (by omega)⟩
    | exact⟨rfl,rfl,w.heap.size+1+1+1,w.heap.size+1+1,w.heap.size+1,rfl,q7i hs H.o (q9z w _ _ _ _) (q1v w _ _ _ _).1 (q1v w _ _ _ _).2.2.2 (q1v w _ _ _ _).2.2.1 (q3r _ _) (q1v w _ _ _ _).2.1 (q3r _ _) (by omega) (by omega) (by omega) (by omega) (by omega) (by omega)⟩
    | exact⟨rfl,rfl,w.heap.size+1,w.heap.size+1+1,w.heap.size+1+1+1,rfl,q7i hs H.o (q9z w _ _ _ _) (q1v w _ _ _ _).1 (q1v w _ _ _ _).2.1 (q1v w _ _ _ _).2.2.1 (q3r _ _) (q1v w _ _ _ _).2.2.2 (q3r _ _) (by omega) (by omega) (by omega) (by omega) (by omega) (by omega)⟩
    | exact⟨rfl,rfl,w.heap.size+1+1,w.heap.size+1+1+1,w.heap.size+1,rfl,q7i hs H.o (q9z w _ _ _ _) (q1v w _ _ _ _).1 (q1v w _ _ _ _).2.2.1 (q1v w _ _ _ _).2.2.2 (q3r _ _) (q1v w _ _ _ _).2.1 (q3r _ _) (by omega) (by omega) (by omega) (by omega) (by omega) (by omega)⟩
    | exact⟨rfl,rfl,w.heap.size+1,w.heap.size+1+1+1,w.heap.size+1+1,rfl,q7i hs H.o (q9z w _ _ _ _) (q1v w _ _ _ _).1 (q1v w _ _ _ _).2.1 (q1v w _ _ _ _).2.2.2 (q3r _ _) (q1v w _ _ _ _).2.2.1 (q3r _ _) (by omega) (by omega) (by omega) (by omega) (by omega) (by omega)⟩
 case rest=>
  obtain⟨rfl,rfl,C,be,bf,rfl,Y⟩:=hcut;have l:Hid (z6i w s C be bf a B ds wc):=Y;clear Y;go_wp2
  go_loopw [4] (fun i wr=>z6i w s C be bf a B ds wr/\∃k:Nat,k<=ds.length/\i=.int .i64 ((k:Int)-1)/\q7m wr be bf ds k) (fun i _=>(intOf i+1).toNat)
  case atStart=>exact⟨l.o,ds.length,Nat.le_refl _,by go_num,q7m.end⟩
  case round=>
   obtain⟨f,k,D,rfl,X⟩:=hrel;have A:Hid (z6i w s C be bf a B ds wr):=f;have L:Hid (q7m wr be bf ds k):=X;clear f X;by_cases R:k=0
   ·subst R;have d:¬((0:Int)<=((0:Nat):Int)-1):=by omega
    have c0:=A.o.c0;have c1:=A.o.c1;have c2:=A.o.c2;have G:=A.o.rb;have r0:wr.cell? ⟨w,0,none⟩=some (.slice none 0 0):=by simp[World.cell?,G]
    have r1:wr.cell? ⟨w,1,none⟩=some (.slice none 0 0):=by simp[World.cell?,G]
    have r2:wr.cell? ⟨w,2,none⟩=some (.slice none 0 0):=by simp[World.cell?,G]
    have f0:wr.frozen? ⟨w,0,none⟩=false:=by simp[World.frozen?,G]
    have f1:wr.frozen? ⟨w,1,none⟩=false:=by simp[World.frozen?,G]
    have f2:wr.frozen? ⟨w,2,none⟩=false:=by simp[World.frozen?,G]
    clear G;go_wp2;refine bodyPost_ret (v:=.agg #[.slice a ds.length B,.slice (some ⟨be,0,none⟩) ds.length ds.length,.slice (some ⟨bf,0,none⟩) ds.length ds.length]) (by simp[results,Tryz.results260,go_sem,r0,r1,r2]) rfl ?_
    have Q:∀v0 v1 v2,Below w wr (((wr.setCell ⟨w,0,none⟩ v0).setCell ⟨w,1,none⟩ v1).setCell ⟨w,2,none⟩ v2):=fun v0 v1 v2=>
     (((Below.refl _ wr).setCell (p:=⟨w,0,none⟩) Zl _).setCell (p:=⟨w,1,none⟩) Zl _).setCell (p:=⟨w,2,none⟩) Zl _
    have u:=A.o.b2;have y:=A.o.b3;have le:=A.o.re.lt;have z:=A.o.rf.lt
    have D:∀v0 v1 v2 k,k≠w.heap.size->(((wr.setCell ⟨w,0,none⟩ v0).setCell ⟨w,1,none⟩ v1).setCell ⟨w,2,none⟩ v2).heap[k]?=wr.heap[k]?:=fun v0 v1 v2 k D=>
     (Below.heap_setCell _ _ _ _ D).trans ((Below.heap_setCell _ _ _ _ D).trans (Below.heap_setCell _ _ _ _ D))
    exact⟨⟨be,bf,rfl,Nat.lt_of_lt_of_le le (Q _ _ _).size,Nat.lt_of_lt_of_le z (Q _ _ _).size,L.o.kept (D _ _ _ _ (by omega)) (D _ _ _ _ (by omega))⟩,A.o.bw.trans (Q _ _ _)⟩
   ·obtain⟨i,rfl⟩:∃i,k=i+1:=⟨k-1,by omega⟩;have I:(((i+1:Nat):Int)-1)=(i:Int):=by omega
    rw[I];obtain⟨j,c,m,n⟩:=j3b K.o (show i<ds.length by omega);obtain⟨t,g,Z,_⟩:=j8j O.o c;have S:Hid (ds.drop i=t.N++ds.drop j):=Z;clear Z c I;go_wp2_with fail;refine(j4s C be bf s B i ds a t (ds.drop j) _ g S.o o A.o.nd A.o.n1 A.o.n2 A.o.n3 (by have:=A.o.b2;omega) (by have:=A.o.b3;omega) A.o.c0 A.o.c1 A.o.c2 A.o.re A.o.rf L.o).mono ?_;rintro e h⟨rfl,E⟩;obtain⟨y1,U⟩:=A.o.re.cell (show i<ds.length by omega);obtain⟨y2,V⟩:=A.o.rf.cell (show i<ds.length by omega);have P:Hid (z6i w s C be bf a B ds h):=A.o.put hs E;have M:Hid (q7m h be bf ds i):=L.o.step g S.o A.o.n3 U V E;clear E U V;go_wp2
    go_roundw
    case rel=>exact⟨P.o,i,by omega,by go_num,M.o⟩
    case measure=>simp[intOf]
def WS(B b:Nat)(pl:List Value)(l:List UInt8)(cv:Value)(w:World):Prop:=IsO 337 B b pl (Lib.byteCells l) [cv] w
abbrev q5v(be bf:Nat)(n cap:Nat)(a:Option Addr):List Value:=[.slice a n cap,.slice (some ⟨be,0,none⟩) n n,.slice (some ⟨bf,0,none⟩) n n]
theorem y9n:j0v 337 6 3:=by unfold j0v;kernel_rfl
section
variable {B b be bf n cap:Nat} {a:Option Addr} {l:List UInt8} {cv:Value} {w w':World}
theorem WS.c0(h:WS B b (q5v be bf n cap a) l cv w):w.cell? ⟨b,0,none⟩=some (.slice a n cap):=IsO.cellP h 0 (by show 0<3;decide)
theorem WS.c1(h:WS B b (q5v be bf n cap a) l cv w):w.cell? ⟨b,1,none⟩=some (.slice (some ⟨be,0,none⟩) n n):=IsO.cellP h 1 (by show 1<3;decide)
theorem WS.c2(h:WS B b (q5v be bf n cap a) l cv w):w.cell? ⟨b,2,none⟩=some (.slice (some ⟨bf,0,none⟩) n n):=IsO.cellP h 2 (by show 2<3;decide)
theorem WS.c5(h:WS B b (q5v be bf n cap a) l cv w):w.cell? ⟨b,5,none⟩=some cv:=IsO.cellR h 0
theorem WS.f5(h:WS B b (q5v be bf n cap a) l cv w):w.frozen? ⟨b,5,none⟩=false:=IsO.frozen h 5
theorem WS.lt{pl:List Value}(h:WS B b pl l cv w):b<w.heap.size:=IsO.lt h
theorem WS.alloc{pl:List Value}(h:WS B b pl l cv w)(o:Obj):WS B b pl l cv (w.alloc o):=IsO.alloc h o
theorem WS.drew{pl:List Value}(h:WS B b pl l cv w):WS B b pl l cv w.drew:=h
theorem WS.W{pl:List Value}(h:WS B b pl l cv w)(hb:Below w w w'):WS B b pl l cv w':=IsO.W h hb
theorem WS.stored(h:WS B b (q5v be bf n cap a) l cv w)(v:Value):WS B b (q5v be bf n cap a) l v (w.setCell ⟨b,5,none⟩ v):=IsO.stored h 0 v
end
theorem y7p{B b be bf n A:Nat}{a:Option Addr}{l:List UInt8}{cv:Value}{w:World}(h:WS B b (q5v be bf n A a) l cv w)(hB:B<=b)(s:ByteArray)(hl:l.length+s.size<=2000000000):
  Calls prog 10 #[.pointer (some ⟨b,3,none⟩),.string s] w fun e w'=>(∃z,e=.returned (.tuple #[.int .i64 z,.nilIface]))/\WS B b (q5v be bf n A a) (l++s.data.toList) cv w'/\Below B w w':=by
 have E:=h.lt;refine(k3r 337 B b 3 (q5v be bf n A a) _ [cv] s w rfl y9n (by decide) h (by rw[Lib.byteCells_length];omega) (by omega)).mono ?_;rintro e w'⟨rfl,C,D,_⟩;refine⟨⟨_,rfl⟩,?_,D.W hB⟩;rw[WS,Lib.byteCells_append];exact C
structure LC(B s be bf:Nat)(a:Option Addr)(ds:List Nd)(w:World):Prop where
 nd:q0w s w a ds
 kn:q7m w be bf ds 0
theorem LC.W{B s be bf:Nat}{a:Option Addr}{ds:List Nd}{w w':World}(h:LC B s be bf a ds w)(hB:s<B/\be<B/\bf<B)(hb:Below B w w'):LC B s be bf a ds w':=
 ⟨h.nd.kept (hb.block s hB.1),h.kn.kept (hb.block be hB.2.1) (hb.block bf hB.2.2)⟩
def z8p(B b:Nat)(pl:List Value)(res:Except Int (List UInt8 × List Int))(l:List UInt8)(e:Ending)(w':World):Prop:=
 match res with
 | .ok (u,ws')=>e=.returned .nilIface/\∃wa' wc',WS B b pl (l++u) (.slice wa' ws'.length wc') w'/\q2e B w' wa' ws'/\ws'.length<=wc'
 | .error er=>er≠0/\e=.returned (q0s er)
def k1t(fn B b s be bf:Nat)(ds:List Nd)(a:Option Addr)(cap:Nat)(A:List Nd)(f:Nat->List Int->Except Int (List UInt8 × List Int)):Prop:=
 ∀(i:Nat)(r:List Nd)(deep:Nat)(ws:List Int)(wa:Option Addr)(wc:Nat)(l:List UInt8)(w:World),ds.drop i=A++r->LC B s be bf a ds w->q2e B w wa ws->q1y ws->ws.length<=wc->WS B b (q5v be bf ds.length cap a) l (.slice wa ws.length wc) w->
  deep+8*A.length<=3300->l.length+4000*A.length<=1000000000->
  Calls prog fn #[.pointer (some ⟨b,0,none⟩),.int .i64 i,.int .i64 deep] w fun e w'=>z8p B b (q5v be bf ds.length cap a) (f deep ws) l e w'/\Below B w w'
abbrev q2q:=k1t 261
theorem z3o(n:Nat)(hn:n<=4000)(w:World):Calls prog 279 #[.string ⟨#[32]⟩,.int .i64 n] w fun e w'=>e=.returned (.string ⟨(List.replicate n 32).toArray⟩)/\Below w w w':=by
 refine(repeat_any ⟨#[32]⟩ n w (by omega) (by show 1*n<=_;omega)).mono ?_;rintro e w'⟨rfl,B⟩;refine⟨?_,B⟩
 have:=Lib.repeatL_replicate 32 1 n
 have A:Lib.repeatL (ByteArray.mk #[32]).data.toList n=List.replicate n 32:=by simpa using this
 rw[A]
theorem q0w.part{s o i:Nat}{w:World}{ds A r:List Nd}(h:q0w s w (some ⟨s,o,none⟩) ds)(hd:ds.drop i=A++r):q0w s w (some ⟨s,o+i*3,none⟩) A:=by
 intro j I;have J:=congrArg List.length hd;rw[List.length_drop,List.length_append]at J;have B:i+j<ds.length:=by omega
 obtain⟨K,e,C,D,E⟩:=h (i+j) B;simp only[Option.some.injEq,Addr.mk.injEq,and_true,true_and]at e;subst e
 have H:ds[i+j]=A[j]:=by
  have G:(ds.drop i)[j]?=some A[j]:=by rw[hd,List.getElem?_append_left I];simp
  rw[List.getElem?_drop]at G;exact(List.getElem?_eq_some_iff.1 G).2
 rw[H]at C D E;refine⟨o+i*3,rfl,?_,?_,?_⟩
 ·rw[show o+i*3+j*3=o+(i+j)*3 by omega];exact C
 ·rw[show o+i*3+j*3+1=o+(i+j)*3+1 by omega];exact D
 ·rw[show o+i*3+j*3+2=o+(i+j)*3+2 by omega];exact E
theorem v5i(B b s be bf:Nat)(ds:List Nd)(a:Option Addr)(A:Nat)(i:Nat)(t:Tr)(r:List Nd)(l:List UInt8)(cv:Value)(w:World)(ht:t.Wf)(hd:ds.drop i=t.N++r)(hC:LC B s be bf a ds w)(hW:WS B b (q5v be bf ds.length A a) l cv w)(hf:t.isFlat=false):
  Calls prog 293 #[.pointer (some ⟨b,0,none⟩),.int .i64 i] w fun e w'=>e=.returned (q0s 4)/\Below B w w':=by
 have G:=q7u hd;have E:=hW.c2;have D:=(hC.kn i t r (Nat.zero_le _) ht hd).2;rw[hf]at D;have C:(i:Int)<(ds.length:Int):=by omega
 rw[y4e];clear hC hW hd;go_in;go_wp2;go_ret;exact⟨rfl,Below.refl _ _⟩
theorem j8z(B b s be bf:Nat)(hb:s<B/\be<B/\bf<B)(hB:B<=b)(ds:List Nd)(a:Option Addr)(A:Nat)(U:ds.length<=A)(hl:ds.length<=400)(i:Nat)(t:Tr)(r:List Nd)(l:List UInt8)(cv:Value)(w:World)(ht:t.Wf)(hd:ds.drop i=t.N++r)(hC:LC B s be bf a ds w)(hW:WS B b (q5v be bf ds.length A a) l cv w)(hf:t.isFlat=true)(q:l.length<=1000000000):
  Calls prog 293 #[.pointer (some ⟨b,0,none⟩),.int .i64 i] w fun e w'=>e=.returned .nilIface/\WS B b (q5v be bf ds.length A a) (l++t.line.data.toList) cv w'/\Below B w w':=by
 have g:=q7u hd;have Q:=hW.c0;have R:=hW.c1;have v:=hW.c2;obtain⟨P,u⟩:=hC.kn i t r (Nat.zero_le _) ht hd;rw[hf]at u;obtain⟨D,c,_,_,_⟩:=hC.nd i g;subst c;have G:=hW.lt;have O:B<=w.heap.size:=by omega
 have h:(i:Int)<(ds.length:Int):=by omega
 have E:i+t.N.length<=ds.length:=by
  have:=congrArg List.length hd
  rw[List.length_drop,List.length_append]at this;omega
 have hp:=t.pos;have X:q2z w (some ⟨s,D+i*3,none⟩) t.N:=(hC.nd.part hd).nods (by omega);have n:t.line.size<=8000:=by have:=z2z t ht;rw[z9r];omega
 generalize hj:i+t.N.length=j at P E;have H:t.N.length=j-i:=by omega
 have J:Hid (∀W:World,Below w w W->Calls prog 273 #[.slice (some ⟨s,D+i*3,none⟩) (j-i) (A-i)] W fun e w'=>e=.returned (.tuple #[.string t.line,.bool true,.nilIface])/\Below W W w'):=fun W hW=>by
  have:=j3t t.N t rfl ht (by omega) (some ⟨s,D+i*3,none⟩) (A-i) (by omega) W (X.W hW)
  rw[hf,H]at this;exact this
 have x:(i:Int)<=(j:Int):=by omega
 have M:be<w.heap.size:=by omega
 have o:(0:Int)<=(i:Int):=by omega
 have p:(0:Int)<=(j:Int):=by omega
 have k:(i:Int)<(A:Int):=by omega
 have d:¬(A-i=0):=by omega
 have f:¬(A=i):=by omega
 have m:((j:Int)-(i:Int)).toNat=j-i:=by omega
 have V:((A:Int)-(i:Int)).toNat=A-i:=by omega
 have y:(j:Int)<=(A:Int):=by omega
 have S:(j:Int)<=(ds.length:Int):=by omega
 have Z:Hid (WS B b (q5v be bf ds.length A (some ⟨s,D,none⟩)) l cv w):=hW;clear hC hW hd X H;go_in;go_wp2_with fail
 go_region_held3 (fun w'=>w'.cell? ⟨b,0,none⟩=some (.slice (some ⟨s,D,none⟩) ds.length A)/\w'.cell? ⟨b,1,none⟩=some (.slice (some ⟨be,0,none⟩) ds.length ds.length)/\w'.cell? ⟨be,i,none⟩=some (.int .i64 (j:Int)))
  (first|exact⟨Q,R,P⟩|exact⟨((q0t C).1 _ _ G).trans Q,((q0t C).1 _ _ G).trans R,((q0t C).1 _ _ M).trans P⟩)
  (first|(go_at_call 273;refine(J.o _ (Below.drew (Below.refl _ w))).mono ?_;rintro e Y⟨rfl,C⟩))
 all_goals
  have K:Hid (WS B b (q5v be bf ds.length A (some ⟨s,D,none⟩)) l cv Y):=WS.W (WS.drew Z.o) C;have I:Hid (Below B w Y):=(Below.drew (Below.refl B w)).trans (C.mono O);clear C;go_wp2_with fail;refine(y7p K.o hB t.line (by omega)).mono ?_;rintro e w3⟨⟨z,rfl⟩,S,L⟩;go_wp2;go_ret;exact⟨rfl,S,I.o.trans L⟩
theorem y7g(B b s be bf:Nat)(_hb:s<B/\be<B/\bf<B)(hB:B<=b)(ds:List Nd)(a:Option Addr)(H:Nat)(_hl:ds.length<=400)(tx:ByteArray)(n:Int):q2q B b s be bf ds a H (⟨2,tx,n⟩::[]) (fun deep ws=>.ok (10::List.replicate deep 32,ws)):=by
 intro i r deep ws U wc l w P L f _ S D E R;obtain⟨u,Z,c⟩:=q1j (x:=⟨2,tx,n⟩) (A:=[]++r) P;obtain⟨g,t,V,X,Y⟩:=L.nd i u;subst t;rw[Z]at V X Y;dsimp only at V X Y;have c0:=D.c0;have c1:=D.c1;have c2:=D.c2;have c5:=D.c5;have y:=D.lt;have Aa:s<w.heap.size:=by omega
 have N:B<=w.heap.size:=by omega
 have v:(i:Int)<(ds.length:Int):=by omega
 have HD:Hid (ds.drop i=⟨2,tx,n⟩::([]++r)):=P;have j:Hid (ds.drop (i+1)=[]++r):=c;have HC:Hid (LC B s be bf (some ⟨s,g,none⟩) ds w):=L;have k:Hid (q2e B w U ws):=f;have q:Hid (WS B b (q5v be bf ds.length H (some ⟨s,g,none⟩)) l (.slice U ws.length wc) w):=D;have h:Hid (∀O:Obj,Below B w (w.alloc O)):=fun O=>(Below.refl _ w).alloc N O
 clear L f D P Z c;simp only[List.length_cons,List.length_nil]at E R;have Q:(⟨(List.replicate deep 32).toArray⟩:ByteArray).size<=3300:=by rw[<-q0y];simp;omega
 have C:∀W:World,Calls prog 279 #[.string ⟨#[32]⟩,.int .i64 deep] W fun e w'=>e=.returned (.string ⟨(List.replicate deep 32).toArray⟩)/\Below W W w':=fun W=>z3o deep (by omega) W
 generalize G:(⟨(List.replicate deep 32).toArray⟩:ByteArray)=rs at Q C;have o:Hid ((⟨(List.replicate deep 32).toArray⟩:ByteArray)=rs):=G;have m:Hid (∀W:World,Calls prog 279 #[.string ⟨#[32]⟩,.int .i64 deep] W fun e w'=>e=.returned (.string rs)/\Below W W w'):=C;have p:Hid (l++(⟨#[10]⟩++rs:ByteArray).data.toList=l++10::List.replicate deep 32):=(show _=_ by rw[<-G];simp);have K:Hid (l.length+(⟨#[10]⟩++rs:ByteArray).size<=2000000000):=(show _<=_ by rw[<-q0y];simp;omega);clear G C;go_in;go_wp2_with fail
 go_region_with (first
  | (go_at_call 279;refine(m.o _).mono ?_;rintro e w2⟨rfl,J⟩)
  | (go_at_call 10;refine(y7p (WS.W (WS.drew (q.o.alloc _)) J) hB _ K.o).mono ?_;rintro e w3⟨⟨z,rfl⟩,d,M⟩))
 all_goals
  go_wp2;go_ret;have I:Below B w w3:=((Below.drew (h.o _)).trans (J.mono (by simp;omega))).trans M;rw[p.o]at d;exact⟨⟨rfl,U,wc,d,k.o.W I,S⟩,I⟩
theorem y7h(B b s be bf:Nat)(_hb:s<B/\be<B/\bf<B)(hB:B<=b)(ds:List Nd)(a:Option Addr)(H:Nat)(_hl:ds.length<=400)(tx:ByteArray)(n:Int):q2q B b s be bf ds a H (⟨3,tx,n⟩::[]) (fun deep ws=>.ok (10::List.replicate deep 32,ws)):=by
 intro i r deep ws U wc l w P L f _ S D E R;obtain⟨u,Z,c⟩:=q1j (x:=⟨3,tx,n⟩) (A:=[]++r) P;obtain⟨g,t,V,X,Y⟩:=L.nd i u;subst t;rw[Z]at V X Y;dsimp only at V X Y;have c0:=D.c0;have c1:=D.c1;have c2:=D.c2;have c5:=D.c5;have y:=D.lt;have Aa:s<w.heap.size:=by omega
 have N:B<=w.heap.size:=by omega
 have v:(i:Int)<(ds.length:Int):=by omega
 have HD:Hid (ds.drop i=⟨3,tx,n⟩::([]++r)):=P;have j:Hid (ds.drop (i+1)=[]++r):=c;have HC:Hid (LC B s be bf (some ⟨s,g,none⟩) ds w):=L;have k:Hid (q2e B w U ws):=f;have q:Hid (WS B b (q5v be bf ds.length H (some ⟨s,g,none⟩)) l (.slice U ws.length wc) w):=D;have h:Hid (∀O:Obj,Below B w (w.alloc O)):=fun O=>(Below.refl _ w).alloc N O
 clear L f D P Z c;simp only[List.length_cons,List.length_nil]at E R;have Q:(⟨(List.replicate deep 32).toArray⟩:ByteArray).size<=3300:=by rw[<-q0y];simp;omega
 have C:∀W:World,Calls prog 279 #[.string ⟨#[32]⟩,.int .i64 deep] W fun e w'=>e=.returned (.string ⟨(List.replicate deep 32).toArray⟩)/\Below W W w':=fun W=>z3o deep (by omega) W
 generalize G:(⟨(List.replicate deep 32).toArray⟩:ByteArray)=rs at Q C;have o:Hid ((⟨(List.replicate deep 32).toArray⟩:ByteArray)=rs):=G;have m:Hid (∀W:World,Calls prog 279 #[.string ⟨#[32]⟩,.int .i64 deep] W fun e w'=>e=.returned (.string rs)/\Below W W w'):=C;have p:Hid (l++(⟨#[10]⟩++rs:ByteArray).data.toList=l++10::List.replicate deep 32):=(show _=_ by rw[<-G];simp);have K:Hid (l.length+(⟨#[10]⟩++rs:ByteArray).size<=2000000000):=(show _<=_ by rw[<-q0y];simp;omega);clear G C;go_in;go_wp2_with fail
 go_region_with (first
  | (go_at_call 279;refine(m.o _).mono ?_;rintro e w2⟨rfl,J⟩)
  | (go_at_call 10;refine(y7p (WS.W (WS.drew (q.o.alloc _)) J) hB _ K.o).mono ?_;rintro e w3⟨⟨z,rfl⟩,d,M⟩))
 all_goals
  go_wp2;go_ret;have I:Below B w w3:=((Below.drew (h.o _)).trans (J.mono (by simp;omega))).trans M;rw[p.o]at d;exact⟨⟨rfl,U,wc,d,k.o.W I,S⟩,I⟩
theorem y7i(B b s be bf:Nat)(_hb:s<B/\be<B/\bf<B)(hB:B<=b)(ds:List Nd)(a:Option Addr)(H:Nat)(_hl:ds.length<=400)(tx:ByteArray)(n:Int):q2q B b s be bf ds a H (⟨4,tx,n⟩::[]) (fun deep ws=>.ok (10::List.replicate deep 32,ws)):=by
 intro i r deep ws U wc l w P L f _ S D E R;obtain⟨u,Z,c⟩:=q1j (x:=⟨4,tx,n⟩) (A:=[]++r) P;obtain⟨g,t,V,X,Y⟩:=L.nd i u;subst t;rw[Z]at V X Y;dsimp only at V X Y;have c0:=D.c0;have c1:=D.c1;have c2:=D.c2;have c5:=D.c5;have y:=D.lt;have Aa:s<w.heap.size:=by omega
 have N:B<=w.heap.size:=by omega
 have v:(i:Int)<(ds.length:Int):=by omega
 have HD:Hid (ds.drop i=⟨4,tx,n⟩::([]++r)):=P;have j:Hid (ds.drop (i+1)=[]++r):=c;have HC:Hid (LC B s be bf (some ⟨s,g,none⟩) ds w):=L;have k:Hid (q2e B w U ws):=f;have q:Hid (WS B b (q5v be bf ds.length H (some ⟨s,g,none⟩)) l (.slice U ws.length wc) w):=D;have h:Hid (∀O:Obj,Below B w (w.alloc O)):=fun O=>(Below.refl _ w).alloc N O
 clear L f D P Z c;simp only[List.length_cons,List.length_nil]at E R;have Q:(⟨(List.replicate deep 32).toArray⟩:ByteArray).size<=3300:=by rw[<-q0y];simp;omega
 have C:∀W:World,Calls prog 279 #[.string ⟨#[32]⟩,.int .i64 deep] W fun e w'=>e=.returned (.string ⟨(List.replicate deep 32).toArray⟩)/\Below W W w':=fun W=>z3o deep (by omega) W
 generalize G:(⟨(List.replicate deep 32).toArray⟩:ByteArray)=rs at Q C;have o:Hid ((⟨(List.replicate deep 32).toArray⟩:ByteArray)=rs):=G;have m:Hid (∀W:World,Calls prog 279 #[.string ⟨#[32]⟩,.int .i64 deep] W fun e w'=>e=.returned (.string rs)/\Below W W w'):=C;have p:Hid (l++(⟨#[10]⟩++rs:ByteArray).data.toList=l++10::List.replicate deep 32):=(show _=_ by rw[<-G];simp);have K:Hid (l.length+(⟨#[10]⟩++rs:ByteArray).size<=2000000000):=(show _<=_ by rw[<-q0y];simp;omega);clear G C;go_in;go_wp2_with fail
 go_region_with (first
  | (go_at_call 279;refine(m.o _).mono ?_;rintro e w2⟨rfl,J⟩)
  | (go_at_call 10;refine(y7p (WS.W (WS.drew (q.o.alloc _)) J) hB _ K.o).mono ?_;rintro e w3⟨⟨z,rfl⟩,d,M⟩))
 all_goals
  go_wp2;go_ret;have I:Below B w w3:=((Below.drew (h.o _)).trans (J.mono (by simp;omega))).trans M;rw[p.o]at d;exact⟨⟨rfl,U,wc,d,k.o.W I,S⟩,I⟩
end Go.Proofs.YtelcnplcpboonaaGreatDoor
