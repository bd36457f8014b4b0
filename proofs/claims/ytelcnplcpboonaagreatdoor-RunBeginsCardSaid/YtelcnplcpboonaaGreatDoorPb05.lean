import Derived.Test.YtelcnplcpboonaaGreatDoorPb00
import Derived.Deep.OwnRows
import Derived.Deep.AppendLies
import Derived.OwnWalk
import Derived.Lib.SmallJoins
import Derived.Laws.AppendOwn
import Derived.Laws.AppendOwnNone
open Go.Proofs.Tryz
namespace Go.Proofs.YtelcnplcpboonaaGreatDoor
open Go Go.RowKit
def z1s(B:Nat)(w:World)(a:Option Addr)(ws:List ByteArray):Prop:=
 ∀i(h:i<ws.length),∃b o,a=some ⟨b,o,none⟩/\b<B/\w.cell? ⟨b,o+i,none⟩=some (.string ws[i])
theorem z1s.W{B:Nat}{w w':World}{a:Option Addr}{ws:List ByteArray}(h:z1s B w a ws)(hb:Below B w w'):z1s B w' a ws:=by
 intro i D;obtain⟨b,o,e,A,C⟩:=h i D;exact⟨b,o,e,A,(hb.cell (p:=⟨b,_,none⟩) A).trans C⟩
theorem z1s.up{B B':Nat}{w:World}{a:Option Addr}{ws:List ByteArray}(h:z1s B w a ws)(hB:B<=B'):z1s B' w a ws:=by
 intro i C;obtain⟨b,o,e,D,A⟩:=h i C;exact⟨b,o,e,by omega,A⟩
theorem z1s.nil(B:Nat)(w:World)(a:Option Addr):z1s B w a []:=fun i hi=>by simp at hi
theorem z1s.take{B:Nat}{w:World}{a:Option Addr}{ws:List ByteArray}(h:z1s B w a ws)(k:Nat):z1s B w a (ws.take k):=by
 intro i E;have A:i<ws.length:=by simp at E;omega
 obtain⟨b,o,e,C,D⟩:=h i A;exact⟨b,o,e,C,by rw[List.getElem_take];exact D⟩
theorem z1s.drop{B:Nat}{w:World}{b o:Nat}{ws:List ByteArray}(h:z1s B w (some ⟨b,o,none⟩) ws)(k:Nat):z1s B w (some ⟨b,o+k,none⟩) (ws.drop k):=by
 intro i E;have A:k+i<ws.length:=by simp at E;omega
 obtain⟨G,H,e,C,D⟩:=h (k+i) A;simp only[Option.some.injEq,Addr.mk.injEq,and_true]at e;obtain⟨rfl,rfl⟩:=e;refine⟨b,o+k,rfl,C,?_⟩;rw[List.getElem_drop,Nat.add_assoc];exact D
theorem z1s.some{B:Nat}{w:World}{a:Option Addr}{ws:List ByteArray}(h:z1s B w a ws)(h0:0<ws.length):∃b o,a=some ⟨b,o,none⟩/\b<B:=by
 obtain⟨b,o,e,A,_⟩:=h 0 h0;exact⟨b,o,e,A⟩
abbrev Wds(w:World)(a:Option Addr)(ws:List ByteArray):Prop:=z1s w.heap.size w a ws
theorem Wds.W{w w':World}{a:Option Addr}{ws:List ByteArray}(h:Wds w a ws)(hb:Below w w w'):Wds w' a ws:=(z1s.W h hb).up hb.size
def q2e(B:Nat)(w:World)(a:Option Addr)(ws:List Int):Prop:=
 ∀i(h:i<ws.length),∃b o,a=some ⟨b,o,none⟩/\b<B/\w.cell? ⟨b,o+i,none⟩=some (.int .i64 ws[i])
theorem q2e.W{B:Nat}{w w':World}{a:Option Addr}{ws:List Int}(h:q2e B w a ws)(hb:Below B w w'):q2e B w' a ws:=by
 intro i D;obtain⟨b,o,e,A,C⟩:=h i D;exact⟨b,o,e,A,(hb.cell (p:=⟨b,_,none⟩) A).trans C⟩
theorem q2e.rest{B:Nat}{w:World}{b o:Nat}{x:Int}{ws:List Int}(h:q2e B w (some ⟨b,o,none⟩) (x::ws)):q2e B w (some ⟨b,o+1,none⟩) ws:=by
 intro i E;obtain⟨D,G,e,A,C⟩:=h (i+1) (by simp;omega);simp only[Option.some.injEq,Addr.mk.injEq,and_true]at e;obtain⟨rfl,rfl⟩:=e;refine⟨b,o+1,rfl,A,?_⟩;rw[show o+1+i=o+(i+1) by omega];exact C
theorem q2e.slid{B:Nat}{w:World}{b o A:Nat}{x:Int}{ws:List Int}(h:q2e B w (some ⟨b,o,none⟩) (x::ws))(hc:ws.length+1<=A):
  q2e B w (if A=1 then some ⟨b,o,none⟩else some ⟨b,o+1,none⟩) ws:=by
 by_cases C:A=1
 ·have:ws=[]:=List.eq_nil_of_length_eq_zero (by omega)
  subst this;exact fun i hi=>by simp at hi
 ·rw[if_neg C];exact h.rest
abbrev z4j(w:World)(a:Option Addr)(ws:List Int):Prop:=q2e w.heap.size w a ws
theorem q2e.up{B B':Nat}{w:World}{a:Option Addr}{ws:List Int}(h:q2e B w a ws)(hB:B<=B'):q2e B' w a ws:=by
 intro i C;obtain⟨b,o,e,D,A⟩:=h i C;exact⟨b,o,e,by omega,A⟩
theorem z4j.W{w w':World}{a:Option Addr}{ws:List Int}(h:z4j w a ws)(hb:Below w w w'):z4j w' a ws:=(q2e.W h hb).up hb.size
set_option maxRecDepth 100000
theorem y2o(a:Option Addr)(n c k:Nat)(hk:k<=c)(W:World):
  (Instr.slice 72 (.slice a n c) none (some (.int .i64 (k:Int))) none).run prog W=.ok (.slice a k c) W:=by
 rw[run_slice_h W 72 a n c Tryz.underlying72 .i64 (k:Int) (by omega) (by omega)];have A:(sizeOf (prog.elem 72)).run prog W=.ok 1 W:=by kernel_rfl
 rw[A];simp[Result.andThen,sliced,Addr.add]
theorem y2p{B:Nat}{w:World}{b o c k:Nat}{ws:List ByteArray}(h:z1s B w (some ⟨b,o,none⟩) ws)(hk:k<=ws.length)(hc:ws.length<=c):
  ∃A,(∀W:World,(Instr.slice 72 (.slice (some ⟨b,o,none⟩) ws.length c) (some (.int .i64 (k:Int))) none none).run prog W=.ok (.slice A (ws.drop k).length (c-k)) W)/\z1s B w A (ws.drop k):=by
 refine⟨if c=k then some ⟨b,o,none⟩else some ⟨b,o+k,none⟩,fun W=>?_,?_⟩
 ·rw[run_slice_l W 72 _ ws.length c Tryz.underlying72 .i64 (k:Int) (by omega) (by omega)];have D:(sizeOf (prog.elem 72)).run prog W=.ok 1 W:=by kernel_rfl
  rw[D]
  have C:(⟨b,o,none⟩:Addr).add k=⟨b,o+k,none⟩:=by
   unfold Addr.add
   split
   ·rename_i h;subst h;rfl
   ·rfl
  simp[Result.andThen,sliced,C]
 ·by_cases e:c=k
  ·have:ws.drop k=[]:=List.drop_eq_nil_of_le (by omega)
   rw[this];exact z1s.nil _ _ _
  ·rw[if_neg e];exact h.drop k
theorem y6p(b o n c i k:Nat)(hi:i<c)(hk:i+k<=c)(W:World):
  (Instr.slice 72 (.slice (some ⟨b,o,none⟩) n c) (some (.int .i64 (i:Int))) (some (.int .i64 ((i:Int)+(k:Int)))) none).run prog W=.ok (.slice (some ⟨b,o+i,none⟩) k (c-i)) W:=by
 rw[run_slice_lh W 72 _ n c Tryz.underlying72 .i64 .i64 (i:Int) ((i:Int)+(k:Int)) (by omega) (by omega) (by omega)];have E:(sizeOf (prog.elem 72)).run prog W=.ok 1 W:=by kernel_rfl
 rw[E]
 have D:(⟨b,o,none⟩:Addr).add i=⟨b,o+i,none⟩:=by
  unfold Addr.add
  split
  ·rename_i h;subst h;rfl
  ·rfl
 have A:((i:Int)+(k:Int)).toNat=i+k:=by omega
 have B:¬c=i:=by omega
 have C:i+k-i=k:=by omega
 simp[Result.andThen,sliced,D,A,B,C]
theorem z5i:(prog.info? 3).map (fun i=>(i.zero,i.size,i.bytes))=some (some (.int .i64 0),1,8):=by kernel_rfl
theorem z3r:(prog.info? 9).map (fun i=>(i.zero,i.size,i.bytes))=some (some (.string ⟨#[]⟩),1,16):=by kernel_rfl
def k1o(w:World)(b n:Nat):Prop:=∃cs T,w.heap[b]?=some (.cells cs T (0,0))/\cs.size=n
theorem k1o.lt{w:World}{b n:Nat}(h:k1o w b n):b<w.heap.size:=by
 obtain⟨B,T,h,_⟩:=h;rcases Nat.lt_or_ge b w.heap.size with A|A
 ·exact A
 ·simp[Array.getElem?_eq_none A]at h
theorem k1o.cell{w:World}{b n i:Nat}(h:k1o w b n)(hi:i<n):∃y,w.cell? ⟨b,i,none⟩=some y:=by
 obtain⟨A,T,h,B⟩:=h;refine⟨A[i],?_⟩;simp[World.cell?,h]
theorem k1o.frozen{w:World}{b n i:Nat}(h:k1o w b n):w.frozen? ⟨b,i,none⟩=false:=by
 obtain⟨A,T,h,B⟩:=h;simp[World.frozen?,h]
theorem k1o.kept{w w':World}{b n:Nat}(h:k1o w b n)(hb:w'.heap[b]?=w.heap[b]?):k1o w' b n:=by
 obtain⟨A,T,h,B⟩:=h;exact⟨A,T,hb.trans h,B⟩
theorem k1o.set{w:World}{b n c i:Nat}{v:Value}(h:k1o w b n):k1o (w.setCell ⟨c,i,none⟩ v) b n:=by
 by_cases e:c=b
 ·subst e;obtain⟨A,T,h,B⟩:=h;exact⟨A.setIfInBounds i v,T,by simp[World.setCell,Array.getElem?_modify,h],by simpa using B⟩
 ·exact h.kept (Below.heap_setCell _ _ _ _ (Ne.symm e))
theorem j5t{n j:Nat}(z:Value)(h:j<n):(madeCells #[z] n)[j]?=some z:=by
 simp[madeCells,h,Nat.mod_one]
def q1w(ks:List Nat):List Value:=ks.map fun(k:Nat)=>.int .i64 (k:Int)
theorem z1f(a b:List Nat):q1w (a++b)=q1w a++q1w b:=by simp[q1w]
def z2g(B:Nat)(v:Value)(ks:List Nat)(w:World):Prop:=w.ownsRow B 3 1 v ks.length (q1w ks)
theorem q3b{B:Nat}{w w':World}(h:Below B w w')(n:Nat):Below B w (w'.drewN n):=h.trans ⟨rfl,rfl,rfl,Nat.le_refl _,fun _ _=>rfl⟩
theorem j1k{B:Nat}{w w':World}{b1 o1 b2 o2:Nat}{v1 v2:Value}(h:Below B w w')(h1:B<=b1)(h2:B<=b2):Below B w ((w'.setCell ⟨b1,o1,none⟩ v1).setCell ⟨b2,o2,none⟩ v2):=
 (h.setCell (p:=⟨b1,o1,none⟩) h1 _).setCell (p:=⟨b2,o2,none⟩) h2 _
theorem k9a{B:Nat}{w:World}{A:Option Addr}{n c:Nat}{ks:List Nat}(h:z2g B (.slice A n c) ks w)(j:Nat)(hj:j<ks.length):∃g,A=some ⟨g,0,none⟩/\g<w.heap.size/\w.cell? ⟨g,j,none⟩=some (.int .i64 ((ks[j]:Nat):Int)):=by
 rcases h.2 with⟨E,K⟩|⟨g,c,H,E,_,G,I,_,J,C⟩
 ·omega
 ·simp only[Value.slice.injEq]at E;obtain⟨rfl,rfl,rfl⟩:=E;refine⟨g,rfl,(Array.getElem?_eq_some_iff.1 G).1,?_⟩;have D:(q1w ks)[j]?=some (.int .i64 ((ks[j]:Nat):Int)):=by simp[q1w,hj]
  rw[<-C]at D;rw[List.getElem?_take_of_lt (by omega)]at D;simp only[World.cell?,G];simpa using D
theorem q1z{w w':World}{B e A n:Nat}{v:Value}{xs:List Value}(h:w.ownsRow B e A v n xs)(hb:Below w w w'):w'.ownsRow B e A v n xs:=by
 refine⟨h.1,?_⟩;rcases h.2 with G|⟨g,c,D,rfl,H,E,C⟩
 ·exact .inl G
 ·exact .inr ⟨g,c,D,rfl,H,(hb.block g (Array.getElem?_eq_some_iff.1 E).1).trans E,C⟩
def strCells(xs:List ByteArray):List Value:=xs.map fun x=>.string x
theorem q3l(a b:List ByteArray):strCells (a++b)=strCells a++strCells b:=by simp[strCells]
def q1n(B:Nat)(v:Value)(xs:List ByteArray)(w:World):Prop:=w.ownsRow B 9 1 v xs.length (strCells xs)
theorem q9k{B:Nat}{w:World}{A:Option Addr}{n c:Nat}{xs:List ByteArray}(h:q1n B (.slice A n c) xs w):Wds w A xs:=by
 intro j I;rcases h.2 with⟨E,L⟩|⟨g,c,H,E,_,G,J,_,K,C⟩
 ·omega
 ·simp only[Value.slice.injEq]at E;obtain⟨rfl,rfl,rfl⟩:=E;refine⟨g,0,rfl,(Array.getElem?_eq_some_iff.1 G).1,?_⟩;have D:(strCells xs)[j]?=some (.string xs[j]):=by simp[strCells,I]
  rw[<-C]at D;rw[List.getElem?_take_of_lt (by omega)]at D;rw[Nat.zero_add];simp only[World.cell?,G];simpa using D
theorem j6o{w:World}{B e A n k:Nat}{v:Value}{xs:List Value}(h:w.ownsRow B e A v n xs)(hk:v.ownBlock=some k):∃cur,w.heap[k]?=some (.cells cur e (0,0)):=by
 rcases h.2 with⟨rfl,_⟩|⟨g,c,cur,rfl,_,C,_⟩
 ·simp[Value.ownBlock]at hk
 ·simp only[Value.ownBlock,Option.some.injEq]at hk;subst hk;exact⟨cur,C⟩
theorem z7s{w w':World}{B B' e e' A C n n':Nat}{v v':Value}{xs D:List Value}(h:w.ownsRow B e A v n xs)(h':w.ownsRow B' e' C v' n' D)(he:e≠e')(hg:w.grownBy w' v'.ownBlock):w'.ownsRow B e A v n xs:=by
 refine h.kept hg ?_;cases H:v.ownBlock with
 | none=>exact .inl rfl
 | some k=>
  refine .inr fun e0=>?_
  obtain⟨I,G⟩:=j6o h H;obtain⟨J,E⟩:=j6o h' e0.symm;rw[G]at E;cases E;exact he rfl
structure But(B b:Nat)(w w':World):Prop where
 os:w'.os=w.os
 tape:w'.tape=w.tape
 output:w'.output=w.output
 size:w.heap.size<=w'.heap.size
 block:∀k,k<B->k≠b->w'.heap[k]?=w.heap[k]?
section
variable {B b:Nat} {w w' a:World}
theorem But.refl(B b:Nat)(w:World):But B b w w:=⟨rfl,rfl,rfl,Nat.le_refl _,fun _ _ _=>rfl⟩
theorem But.trans{c:World}(h:But B b a w)(k:But B b w c):But B b a c:=
 ⟨k.os.trans h.os,k.tape.trans h.tape,k.output.trans h.output,Nat.le_trans h.size k.size,fun i hi hb=>(k.block i hi hb).trans (h.block i hi hb)⟩
theorem But.drew(h:But B b a w):But B b a w.drew:=⟨h.os,h.tape,h.output,h.size,h.block⟩
theorem But.of(h:Below B w w'):But B b w w':=⟨h.os,h.tape,h.output,h.size,fun k hk _=>h.block k hk⟩
theorem But.W(h:But B b w w')(hB:B<=b):Below B w w':=⟨h.os,h.tape,h.output,h.size,fun k hk=>h.block k hk (by omega)⟩
theorem But.mono{B':Nat}(h:But B b w w')(hB:B'<=B):But B' b w w':=⟨h.os,h.tape,h.output,h.size,fun k hk=>h.block k (by omega)⟩
theorem But.alloc(h:But B b a w)(hB:B<=w.heap.size)(o:Obj):But B b a (w.alloc o):=
 h.trans (.of ((Below.refl B w).alloc hB o))
theorem But.setCell(h:But B b a w){p:Addr}(hp:p.block=b\/B<=p.block)(u:Value):But B b a (w.setCell p u):=
 h.trans ⟨rfl,rfl,rfl,by simp[World.setCell],fun k hk hb=>Below.heap_setCell _ _ _ _ (by omega)⟩
theorem But.grown{row:Option Nat}(h:But B b a w)(hg:w.grownBy w' row)(hB:B<=w.heap.size)(hr:∀k,row=some k->B<=k):But B b a w':=
 h.trans ⟨hg.os,hg.tape,hg.output,hg.size,fun k hk _=>hg.block k (by omega) (fun e=>by have:=hr k e.symm;omega)⟩
end
theorem But.low{B b:Nat}{w w':World}(h:But B b w w'){B':Nat}(hB:B'<=B)(hb:B'<=b):Below B' w w':=(h.mono hB).W hb
theorem z1t(b o k:Nat):(⟨b,o,none⟩:Addr).add k=⟨b,o+k,none⟩:=by
 unfold Addr.add
 split
 ·rename_i h;subst h;rfl
 ·rfl
theorem z6k{w:World}{E:Array Oper}{rest:List Oper}{o:Oper}{a:Act}{Q:Exit->Act->World->Prop}(I:o.guard=none)(s x:Operand)
  (ho:o.op=.call {callee:=.builtin .append,args:=#[s,x],argTypes:=#[72,72]})
  (B:Nat) (v:Value) (xs:List ByteArray) (hs:a.eval s=v) (C:q1n B v xs w)
  (wa:Option Addr) (n:Nat) (ws:List ByteArray) (hn:ws.length=n) (wc:Nat) (hx:a.eval x=.slice wa n wc) (hW:Wds w wa ws) (K:wa=none->n=0/\wc=0)
  (m:Nat) (hm:xs.length+n=m) (hb:m<=1000000) (D:B<=w.heap.size)
  (h:∀A c w',q1n B (.slice A m c) (xs++ws) w'->w.grownBy w' v.ownBlock->wpList prog E Q rest (a.put o.dst (.slice A m c)) w'):wpList prog E Q (o::rest) a w:=by
 subst hn hm;obtain⟨W,V,P,R,S⟩:=info_parts z3r
 have U:∀G w',q1n B G (xs++ws) w'->w.grownBy w' v.ownBlock->wpList prog E Q rest (a.put o.dst G) w':=by
  intro G w' H N
  obtain⟨A,c,rfl⟩:∃A c,G=.slice A (xs.length+ws.length) c:=by
   rcases H.2 with⟨M,L⟩|⟨g,c,X,M,_⟩
   ·rw[List.length_append]at L;exact⟨none,0,by rw[M,L]⟩
   ·rw[List.length_append]at M;exact⟨_,c,M⟩
  exact h A c w' H N
 cases wa with
 | none=>
  obtain⟨L,rfl⟩:=K rfl;obtain rfl:ws=[]:=List.eq_nil_of_length_eq_zero L;refine wpList_append_own_none I s x 72 ho B 9 W 1 Tryz.underlying72 V v xs.length (strCells xs) hs C hx ?_;refine U v w ?_ ⟨rfl,rfl,rfl,Nat.le_refl _,fun _ _ _=>rfl⟩;rw[List.append_nil];exact C
 | some ad=>
  refine wpList_append_own w I s x 72 ho B 9 W _ 1 16 Tryz.underlying72 V P R S rfl (by decide) v xs.length (strCells xs) hs C ad ws.length wc (strCells ws) hx (by simp[strCells]) ?_ ?_ (by unfold maxLen;omega) (by omega) D ?_
  ·intro j u O;have J:j<ws.length:=by have:=(List.getElem?_eq_some_iff.1 O).1;simpa[strCells]using this
   obtain⟨b,o,e,_,c⟩:=hW j J;simp only[Option.some.injEq]at e;subst e;rw[z1t]
   have:u=.string ws[j]:=by simp[strCells,J]at O;exact O.symm
   rw[this];exact c
  ·intro u Y;obtain⟨x,_,rfl⟩:=List.mem_map.1 Y;rfl
  ·intro G w' H N _;rw[<-q3l]at H;refine U G w' ?_ N;show w'.ownsRow _ _ _ _ _ _;rw[List.length_append];exact H
def q3o(ks:List Int):List Value:=ks.map fun k=>.int .i64 k
theorem z1a(a b:List Int):q3o (a++b)=q3o a++q3o b:=by simp[q3o]
def z8n(B:Nat)(v:Value)(ks:List Int)(w:World):Prop:=w.ownsRow B 3 1 v ks.length (q3o ks)
theorem v0h{w:World}{E:Array Oper}{rest:List Oper}{o:Oper}{a:Act}{Q:Exit->Act->World->Prop}(I:o.guard=none)(s x:Operand)
  (ho:o.op=.call {callee:=.builtin .append,args:=#[s,x],argTypes:=#[73,73]})
  (B:Nat) (v:Value) (xs:List Int) (hs:a.eval s=v) (C:z8n B v xs w)
  (wa:Option Addr) (n:Nat) (ws:List Int) (hn:ws.length=n) (wc:Nat) (hx:a.eval x=.slice wa n wc) (hW:z4j w wa ws) (K:wa=none->n=0/\wc=0)
  (m:Nat) (hm:xs.length+n=m) (hb:m<=1000000) (D:B<=w.heap.size)
  (h:∀A c w',z8n B (.slice A m c) (xs++ws) w'->w.grownBy w' v.ownBlock->wpList prog E Q rest (a.put o.dst (.slice A m c)) w'):wpList prog E Q (o::rest) a w:=by
 subst hn hm;obtain⟨W,V,P,R,S⟩:=info_parts z5i
 have U:∀G w',z8n B G (xs++ws) w'->w.grownBy w' v.ownBlock->wpList prog E Q rest (a.put o.dst G) w':=by
  intro G w' H N
  obtain⟨A,c,rfl⟩:∃A c,G=.slice A (xs.length+ws.length) c:=by
   rcases H.2 with⟨M,L⟩|⟨g,c,X,M,_⟩
   ·rw[List.length_append]at L;exact⟨none,0,by rw[M,L]⟩
   ·rw[List.length_append]at M;exact⟨_,c,M⟩
  exact h A c w' H N
 cases wa with
 | none=>
  obtain⟨L,rfl⟩:=K rfl;obtain rfl:ws=[]:=List.eq_nil_of_length_eq_zero L;refine wpList_append_own_none I s x 73 ho B 3 W 1 Tryz.underlying73 V v xs.length (q3o xs) hs C hx ?_;refine U v w ?_ ⟨rfl,rfl,rfl,Nat.le_refl _,fun _ _ _=>rfl⟩;rw[List.append_nil];exact C
 | some ad=>
  refine wpList_append_own w I s x 73 ho B 3 W _ 1 8 Tryz.underlying73 V P R S rfl (by decide) v xs.length (q3o xs) hs C ad ws.length wc (q3o ws) hx (by simp[q3o]) ?_ ?_ (by unfold maxLen;omega) (by omega) D ?_
  ·intro j u O;have J:j<ws.length:=by have:=(List.getElem?_eq_some_iff.1 O).1;simpa[q3o]using this
   obtain⟨b,o,e,_,c⟩:=hW j J;simp only[Option.some.injEq]at e;subst e;rw[z1t]
   have:u=.int .i64 ws[j]:=by simp[q3o,J]at O;exact O.symm
   rw[this];exact c
  ·intro u Y;obtain⟨x,_,rfl⟩:=List.mem_map.1 Y;rfl
  ·intro G w' H N _;rw[<-z1a]at H;refine U G w' ?_ N;show w'.ownsRow _ _ _ _ _ _;rw[List.length_append];exact H
theorem v2b{s:ByteArray}(h1:1<=s.size)(h2:s.size<=20)(h:∀k(h:k<s.size),q4x s[k]=true):isW s=true:=by
 simp only[isW,h1,h2,decide_true,Bool.true_and,List.all_eq_true];intro b A;obtain⟨i,B,rfl⟩:=List.getElem_of_mem A;exact h i (by rw[<-q0y];exact B)
theorem v9q{s:ByteArray}{k:Nat}(h:k<s.size)(hb:q4x s[k]=false):isW s=false:=by
 cases e:isW s with
 | false=>rfl
 | true=>
  simp only[isW,Bool.and_eq_true,List.all_eq_true]at e
  have:=e.2 s[k] (by
   have:k<s.data.toList.length:=by rw[q0y];exact h
   exact List.getElem_mem this)
  rw[hb]at this;cases this
theorem k4c{b:UInt8}(h:q4x b=false):(b.toNat:Int)<32\/(¬(b.toNat:Int)<32/\126<(b.toNat:Int)):=by
 simp[q4x]at h;omega
theorem j0i{b:UInt8}(h:q4x b=true):¬(b.toNat:Int)<32/\¬126<(b.toNat:Int):=by
 simp[q4x]at h;omega
theorem j7n{s:ByteArray}(h:s.size≠0):¬s.toList=[]:=by
 rw[ByteArray.toList_eq];intro e
 have:=q0y s
 rw[e]at this;exact h this.symm
theorem g0i{op:Int}(h1:¬op<1)(h2:¬9<op):op=1\/op=2\/op=3\/op=4\/op=5\/op=6\/op=7\/op=8\/op=9:=by omega
theorem j2y{ds:List Nd}(h:400<ds.length):q2o ds=3:=by rw[q2o,if_pos h]
theorem j2z{ds:List Nd}{k:Nat}(hl:ds.length<=400)(hk:k<ds.length)(ha:∀x∈ds.take k,q0r x=0)(h:q0r ds[k]≠0):q2o ds=q0r ds[k]:=by
 have e:=z9h ds k hk ha h;rw[q2o,if_neg (by omega),if_neg (by rw[e];exact h),e]
theorem v1g{ds:List Nd}(hl:ds.length<=400)(ha:∀x∈ds,q0r x=0):q2o ds=if q1l ds 0 1=some ds.length then 0 else 2:=by
 rw[q2o,if_neg (by omega),if_pos (z0h ds ha)]
theorem v4s{ds:List Nd}{k:Nat}(h:¬k<ds.length)(ha:∀x∈ds.take k,q0r x=0):∀x∈ds,q0r x=0:=by
 rw[List.take_of_length_le (by omega)]at ha;exact ha
theorem j8b{ds:List Nd}{k:Nat}(h:k<ds.length)(ha:∀x∈ds.take k,q0r x=0)(h0:q0r ds[k]=0):∀x∈ds.take (k+1),q0r x=0:=by
 intro x A;rw[List.take_succ_eq_append_getElem h]at A;rcases List.mem_append.1 A with A|A
 ·exact ha x A
 ·simp at A;subst A;exact h0
set_option maxHeartbeats 4000000
theorem k7y(op:Int)(w:World):Calls prog 253 #[.int .i64 op] w fun e w'=>e=.returned (.int .i64 (pts op))/\w=w':=by
 by_cases A:op=6
 ·subst A;go_in;go_wp2;go_ret;exact⟨rfl,rfl⟩
 by_cases D:op=9
 ·subst D;go_in;go_wp2;go_ret;exact⟨rfl,rfl⟩
 by_cases B:op=7
 ·subst B;go_in;go_wp2;go_ret;exact⟨rfl,rfl⟩
 by_cases C:op=8
 ·subst C;go_in;go_wp2;go_ret;exact⟨rfl,rfl⟩
 have e:pts op=0:=by simp[pts,A,B,C,D]
 rw[e];have E:(op==6)=false:=by simp[A]
 have G:(op==7)=false:=by simp[B]
 have H:(op==8)=false:=by simp[C]
 have I:(op==9)=false:=by simp[D]
 clear e A B C D;go_in;go_wp2;go_ret;exact⟨rfl,rfl⟩
theorem z5j(s:ByteArray)(w:World):Calls prog 252 #[.string s] w fun e w'=>e=.returned (.bool (isW s))/\w=w':=by
 by_cases L:(s.size:Int)<1
 ·have e:isW s=false:=by simp[isW];omega
  rw[e];clear e;go_in;go_wp2;go_ret;exact⟨rfl,rfl⟩
 by_cases M:20<(s.size:Int)
 ·have e:isW s=false:=by simp[isW];omega
  rw[e];clear e;go_in;go_wp2;go_ret;exact⟨rfl,rfl⟩
 go_in;go_wp2
 go_loopw [14] (fun i wr=>wr=w/\∃k:Nat,k<=s.size/\i=.int .i64 k/\∀j(h:j<s.size),j<k->q4x s[j]=true) (fun i _=>s.size-(intOf i).toNat)
 case atStart=>exact⟨rfl,0,Nat.zero_le _,rfl,fun j _ K=>by omega⟩
 case round=>
  obtain⟨rfl,k,N,rfl,A⟩:=hrel;have H:Hid (∀j(h:j<s.size),j<k->q4x s[j]=true):=A;clear A;by_cases G:k<s.size
  ·cases B:q4x s[k]with
   | false=>
    have C:Hid (isW s=false):=v9q G B;have D:=k4c B;clear B;rcases D with D|⟨D,J⟩
    ·go_wp2;go_ret;exact⟨by rw[C.o];rfl,rfl⟩
    ·go_wp2;go_ret;exact⟨by rw[C.o];rfl,rfl⟩
   | true=>
    have I:Hid (q4x s[k]=true):=B;obtain⟨D,J⟩:=j0i B;clear B;go_wp2
    go_roundw
    case rel=>
     refine⟨by trivial,k+1,by omega,by go_num,?_⟩;intro j h K;by_cases E:j=k
     ·subst E;exact I.o
     ·exact H.o j h (by omega)
    case measure=>simp[intOf];omega
  ·have C:Hid (isW s=true):=v2b (by omega) (by omega) fun j h=>H.o j h (by omega)
   go_wp2;go_ret;exact⟨by rw[C.o];rfl,rfl⟩
theorem q8m(x:Nd)(w:World):Calls prog 226 #[g0g x] w fun e w'=>e=.returned (q0s (q0r x))/\Below w w w':=by
 obtain⟨G,C,n⟩:=x;by_cases D:G<1
 ·have e:q0r ⟨G,C,n⟩=1:=by simp[q0r,D]
  rw[e,z5e];clear e;go_in;go_wp2;go_ret;exact⟨rfl,Zb.alloc Zl _⟩
 by_cases E:9<G
 ·have e:q0r ⟨G,C,n⟩=1:=by simp[q0r,E]
  rw[e,z5e];clear e;go_in;go_wp2;go_ret;exact⟨rfl,Zb.alloc Zl _⟩
 rcases g0i D E with rfl|rfl|rfl|rfl|rfl|rfl|rfl|rfl|rfl
 case inl=>
  clear D E;by_cases B:n=0
  ·subst B;cases K:isW C with
   | false=>
    have e:q0r ⟨1,C,0⟩=5:=by simp[q0r,K]
    rw[e,v6d];clear e;go_in;go_wp2_with(go_at_call 252;refine(z5j _ _).mono ?_;rintro e w'⟨rfl,rfl⟩);go_ret;exact⟨rfl,Zb.alloc Zl _⟩
   | true=>
    have e:q0r ⟨1,C,0⟩=0:=by simp[q0r,K]
    rw[e,q0q];clear e;go_in;go_wp2_with(go_at_call 252;refine(z5j _ _).mono ?_;rintro e w'⟨rfl,rfl⟩);go_ret;exact⟨rfl,Zb.alloc Zl _⟩
  ·have e:q0r ⟨1,C,n⟩=2:=by simp[q0r,B]
   rw[e,z9e];have H:(n != 0)=true:=by simp[B]
   clear e B;go_in;go_wp2;go_ret;exact⟨rfl,Zb.alloc Zl _⟩
 case inr.inr.inr.inr.inr.inr.inl=>
  clear D E;by_cases A:C.size=0
  ·obtain rfl:=k0x A;by_cases B:n<0
   ·have e:q0r ⟨7,⟨#[]⟩,n⟩=1:=by simp[q0r,B,A]
    rw[e,z5e];clear e A;go_in;go_wp2;go_ret;exact⟨rfl,Zb.alloc Zl _⟩
   by_cases J:8<n
   ·have e:q0r ⟨7,⟨#[]⟩,n⟩=1:=by simp[q0r,J,A]
    rw[e,z5e];clear e A;go_in;go_wp2;go_ret;exact⟨rfl,Zb.alloc Zl _⟩
   have e:q0r ⟨7,⟨#[]⟩,n⟩=0:=by simp[q0r,B,J,A]
   rw[e,q0q];clear e A;go_in;go_wp2;go_ret;exact⟨rfl,Zb.alloc Zl _⟩
  ·have e:q0r ⟨7,C,n⟩=2:=by simp[q0r,A]
   rw[e,z9e];have I:=j7n A;clear e A;go_in;go_wp2;go_ret;exact⟨rfl,Zb.alloc Zl _⟩
 all_goals
  clear D E;by_cases A:C.size=0
  ·obtain rfl:=k0x A;by_cases B:n=0
   ·subst B;rw[show ∀k:Int,k=0->q0s k=.nilIface from fun k hk=>by rw[hk];rfl]
    ·clear A;go_in;go_wp2;go_ret;exact⟨rfl,Zb.alloc Zl _⟩
    ·simp[q0r,A]
   ·have H:(n != 0)=true:=by simp[B]
    rw[show ∀k:Int,k=2->q0s k=.iface 50 (.int .i64 2)from fun k hk=>by rw[hk];rfl]
    ·clear A B;go_in;go_wp2;go_ret;exact⟨rfl,Zb.alloc Zl _⟩
    ·simp[q0r,B]
  ·have I:=j7n A;rw[show ∀k:Int,k=2->q0s k=.iface 50 (.int .i64 2)from fun k hk=>by rw[hk];rfl]
   ·clear A;go_in;go_wp2;go_ret;exact⟨rfl,Zb.alloc Zl _⟩
   ·simp[q0r,A]
theorem z5d(ds:List Nd)(a:Option Addr)(E i0:Nat)(w:World)(hN:q2z w a ds)(hl:ds.length<=400)(hi:i0<=ds.length):
  Calls prog 227 #[.slice a ds.length E,.int .i64 i0] w fun e w'=>((∃j:Nat,q1l ds i0 1=some j/\e=.returned (.tuple #[.int .i64 j,.bool true]))\/(q1l ds i0 1=none/\e=.returned (.tuple #[.int .i64 ds.length,.bool false])))/\w=w':=by
 have J:Hid (q2z w a ds):=hN;clear hN;go_in;go_wp2
 go_loopw [1,6] (fun i m wr=>wr=w/\∃k q:Nat,k<=ds.length/\q<=k+1/\i=.int .i64 k/\m=.int .i64 q/\q1l ds i0 1=q1l ds k q) (fun i _ _=>ds.length-(intOf i).toNat)
 case atStart=>exact⟨rfl,i0,1,hi,by omega,rfl,rfl,rfl⟩
 case round=>
  obtain⟨rfl,k,q,Q,S,rfl,rfl,I⟩:=hrel;have D:Hid (q1l ds i0 1=q1l ds k q):=I;clear I;by_cases H:q=0
  ·subst H;have A:Hid (q1l ds i0 1=some k):=D.o.trans (k8c _ _);go_wp2;go_ret2;exact⟨.inl ⟨k,A.o,rfl⟩,rfl⟩
  ·obtain⟨C,rfl⟩:∃C,q=C+1:=⟨q-1,by omega⟩;by_cases B:k<ds.length
   ·obtain⟨b,o,N,P,O,L,M⟩:=J.o k B;have K:Hid (q1l ds i0 1=q1l ds (k+1) (pts ds[k].op+C)):=D.o.trans (k8a _ _ _ B);have R:=v7h ds[k].op;subst N;clear L M H;go_wp2_with(go_at_call 253;refine(k7y _ _).mono ?_;rintro e w'⟨rfl,rfl⟩)
    go_roundw
    case rel=>
     exact⟨by trivial,k+1,pts ds[k].op+C,by omega,by omega,by go_num,by go_num,K.o⟩
    case measure=>simp[intOf];omega
   ·have G:k=ds.length:=by omega
    subst G;have A:Hid (q1l ds i0 1=none):=D.o.trans (j3c _ _ _ (by omega));go_wp2;go_ret2;exact⟨.inr ⟨A.o,rfl⟩,rfl⟩
theorem z2r{ds:List Nd}{i0 j:Nat}(a:Option Addr)(cap:Nat)(w:World)(hN:q2z w a ds)(hl:ds.length<=400)(hi:i0<=ds.length)(h:q1l ds i0 1=some j):
  Calls prog 227 #[.slice a ds.length cap,.int .i64 i0] w fun e w'=>e=.returned (.tuple #[.int .i64 j,.bool true])/\w=w':=
 (z5d ds a cap i0 w hN hl hi).mono fun e w'⟨h1,h2⟩=>⟨by
  rcases h1 with⟨j',e1,e2⟩|⟨e1,_⟩
  ·rw[h]at e1;cases e1;exact e2
  ·rw[h]at e1;(cases e1),h2⟩
theorem k2h{ds:List Nd}{i0:Nat}(a:Option Addr)(cap:Nat)(w:World)(hN:q2z w a ds)(hl:ds.length<=400)(hi:i0<=ds.length)(h:q1l ds i0 1=none):
  Calls prog 227 #[.slice a ds.length cap,.int .i64 i0] w fun e w'=>e=.returned (.tuple #[.int .i64 ds.length,.bool false])/\w=w':=
 (z5d ds a cap i0 w hN hl hi).mono fun e w'⟨h1,h2⟩=>⟨by
  rcases h1 with⟨j',e1,e2⟩|⟨_,e2⟩
  ·rw[h]at e1;cases e1
  ·exact e2,h2⟩
theorem q2h(ds:List Nd)(a:Option Addr)(B:Nat)(w:World)(hN:q2z w a ds):
  Calls prog 201 #[.slice a ds.length B] w fun e w'=>e=.returned (q0s (q2o ds))/\Below w w w':=by
 have R:Hid (q2z w a ds):=hN;clear hN;by_cases Z:400<(ds.length:Int)
 ·rw[j2y (by omega),k5e];go_in;go_wp2;go_ret;exact⟨rfl,Below.refl _ _⟩
 ·have J:ds.length<=400:=by omega
  go_in;go_wp2
  go_loopw [14] (fun i wr=>Below w w wr/\∃k:Nat,k<=ds.length/\i=.int .i64 k/\∀x∈ds.take k,q0r x=0) (fun i _=>ds.length-(intOf i).toNat)
  case atStart=>exact⟨Below.refl _ _,0,Nat.zero_le _,rfl,by simp⟩
  case round=>
   obtain⟨I,k,d,rfl,D⟩:=hrel;have O:Hid (∀x∈ds.take k,q0r x=0):=D;have K:Hid (q2z wr a ds):=R.o.W I;clear D;by_cases C:k<ds.length
   ·obtain⟨b,o,S,c,V,X,Y⟩:=K.o k C;subst S;by_cases L:q0r ds[k]=0
    ·have H:Hid (q0r ds[k]=0):=L;clear L;go_wp2_with fail;refine(q8m ds[k] _).mono ?_;rintro e N⟨rfl,A⟩;rw[H.o,q0q];have G:=q8i I Zl A;clear A;go_wp2
     go_roundw
     case rel=>exact⟨G,k+1,by omega,by go_num,j8b C O.o H.o⟩
     case measure=>simp[intOf];omega
    ·have H:Hid (q0r ds[k]≠0):=L;clear L;go_wp2_with fail;refine(q8m ds[k] _).mono ?_;rintro e N⟨rfl,A⟩;rw[q0h H.o];have G:=q8i I Zl A;clear A;go_wp2;go_ret;refine⟨?_,G⟩;rw[j2z J C O.o H.o,q0h H.o];rfl
   ·have P:Hid (q2o ds=if q1l ds 0 1=some ds.length then 0 else 2):=v1g J (v4s C O.o);cases M:q1l ds 0 1 with
    | none=>
     have E:Hid (q1l ds 0 1=none):=M;clear M;go_wp2_with fail;refine(k2h a B _ K.o J (Nat.zero_le _) E.o).mono ?_;rintro e N⟨rfl,rfl⟩;go_wp2;go_ret;refine⟨?_,I⟩;rw[P.o,E.o,if_neg (by simp),z9e];rfl
    | some j=>
     have E:Hid (q1l ds 0 1=some j):=M;clear M;by_cases Q:j=ds.length
     ·subst Q;go_wp2_with fail;refine(z2r a B _ K.o J (Nat.zero_le _) E.o).mono ?_;rintro e N⟨rfl,rfl⟩;go_wp2;go_ret;refine⟨?_,I⟩;rw[P.o,E.o,if_pos rfl,q0q];rfl
     ·have U:((j:Int) != (ds.length:Int))=true:=by simp;omega
      go_wp2_with fail;refine(z2r a B _ K.o J (Nat.zero_le _) E.o).mono ?_;rintro e N⟨rfl,rfl⟩;go_wp2;go_ret;refine⟨?_,I⟩;rw[P.o,E.o,if_neg (by simp[Q]),z9e];rfl
end Go.Proofs.YtelcnplcpboonaaGreatDoor
namespace Go.Proofs.YtelcnplcpboonaaGreatDoor
def z0m(f g:Nat->List Int->Except Int (List UInt8 × List Int))(deep:Nat)(ws:List Int):Except Int (List UInt8 × List Int):=
 match f deep ws with
 | .error e=>.error e
 | .ok (s,ws1)=>match g deep ws1 with
  | .error e=>.error e
  | .ok (t,ws2)=>.ok (s++t,ws2)
def q8x(f:Nat->List Int->Except Int (List UInt8 × List Int))(sA:ByteArray)(fl:Bool)(deep:Nat)(ws:List Int):Except Int (List UInt8 × List Int):=
 match ws with
 | []=>.error 2
 | c::ws=>if c=1 then f deep ws else if fl=true then .ok (sA.data.toList,ws)else .error 4
def q6o(f g:Nat->List Int->Except Int (List UInt8 × List Int))(deep:Nat)(ws:List Int):Except Int (List UInt8 × List Int):=
 match ws with
 | []=>.error 2
 | c::ws=>if c=0 then f deep ws else g deep ws
theorem v1v{t:Tr}{s:List UInt8}(h:t.Wf)(e:t.flat=some s):s.length<=20*t.N.length:=by
 have:=z2z t h
 rw[e]at this;exact this
theorem q6p:∀(t:Tr)(deep:Nat)(ws:List Int)(u:List UInt8)(v:List Int),t.Wf->t.lay deep ws=.ok (u,v)->deep+8*t.N.length<=3300->u.length<=4000*t.N.length
 | .leaf x,deep,ws,u,v,h,e,hd=>by
  obtain⟨_,_,_,_,h5,_⟩:=q1s h.1;simp only[Tr.lay]at e;simp only[Tr.N,List.length_cons,List.length_nil]at hd⊢
  split at e
  ·rename_i h1;cases e
   have:=q3y (h5 h1)
   rw[q0y];omega
  ·split at e
   ·cases e;simp
   ·cases e;simp;omega
 | .one x a,deep,ws,u,v,h,e,hd=>by
  obtain⟨_,_,_,_,_,h6⟩:=q1s h.1;simp only[Tr.lay]at e;simp only[Tr.N,List.length_cons]at hd⊢
  split at e
  ·rename_i h7
   have:=h6 h7
   have:=q6p a _ ws u v h.2.2 e (by omega)
   omega
  ·match ws,e with
   | c::ws,e=>
    simp only at e
    split at e
    ·have:=q6p a deep ws u v h.2.2 e (by omega)
     omega
    ·cases hf:a.flat with
     | none=>rw[hf]at e;cases e
     | some w=>
      rw[hf]at e;cases e
      have:=v1v h.2.2 hf
      omega
 | .two x a b,deep,ws,u,v,h,e,hd=>by
  simp only[Tr.lay]at e;simp only[Tr.N,List.length_cons,List.length_append]at hd⊢
  split at e
  ·cases ha:a.lay deep ws with
   | error e0=>rw[ha]at e;cases e
   | ok p=>
    obtain⟨s1,ws1⟩:=p;rw[ha]at e;simp only at e;cases hb:b.lay deep ws1 with
    | error e0=>rw[hb]at e;cases e
    | ok q=>
     obtain⟨s2,ws2⟩:=q;rw[hb]at e;cases e
     have:=q6p a deep ws s1 ws1 h.2.2.1 ha (by omega)
     have:=q6p b deep ws1 s2 _ h.2.2.2 hb (by omega)
     rw[List.length_append];omega
  ·match ws,e with
   | c::ws,e=>
    simp only at e
    split at e
    ·have:=q6p a deep ws u v h.2.2.1 e (by omega)
     omega
    ·have:=q6p b deep ws u v h.2.2.2 e (by omega)
     omega
theorem y0a{x:Nd}{a b:Tr}(h:x.op=6):Tr.lay (.two x a b)=z0m a.lay b.lay:=by
 funext deep ws
 simp only[Tr.lay,z0m,if_pos h];rfl
theorem k8t{x:Nd}{a b:Tr}(h:x.op=9):Tr.lay (.two x a b)=q6o a.lay b.lay:=by
 funext deep ws
 simp only[Tr.lay,q6o,if_neg (show ¬x.op=6 by omega)];rfl
theorem j4q{x:Nd}{a:Tr}(h:x.op=8):Tr.lay (.one x a)=q8x a.lay a.line a.isFlat:=by
 funext deep ws
 simp only[Tr.lay,q8x,if_neg (show ¬x.op=7 by omega)];cases ws with
 | nil=>rfl
 | cons c ws=>
  simp only[z9q,Tr.isFlat];cases a.flat with
  | none=>rfl
  | some s=>rfl
def shS(r:Except Int (List UInt8)):ByteArray:=match r with| .ok s=>⟨s.toArray⟩| .error _=>⟨#[]⟩
def shE(r:Except Int (List UInt8)):Int:=match r with| .ok _=>0| .error e=>e
theorem v4e{t:Tr}{ws:List Int}(h:q1y ws):t.show ws=match t.lay 0 ws with| .error e=>.error e| .ok (s,[])=>.ok s| .ok (_,_::_)=>.error 2:=by
 unfold Tr.show;rw[if_pos (k7m.2 h)];rfl
end Go.Proofs.YtelcnplcpboonaaGreatDoor
