import Derived.Test.YtchdplceopegoaaGreatDoorPi06
open Go.Proofs.Tryz
namespace Go.Proofs.YtchdplceopegoaaGreatDoor
open Go Go.RowKit
structure But(B b:Nat)(w w':World):Prop where
 os:w'.os=w.os
 tape:w'.tape=w.tape
 output:w'.output=w.output
 size:w.heap.size<=w'.heap.size
 block:∀k,k<B->k≠b->w'.heap[k]?=w.heap[k]?
section
variable {B b:Nat} {w w' a:World}
theorem But.refl(B b:Nat)(w:World):But B b w w:=⟨rfl,rfl,rfl,Nat.le_refl _,fun _ _ _=>rfl⟩
theorem But.trans{c:World}(h:But B b a w)(k:But B b w c):But B b a c:=
 ⟨k.os.trans h.os,k.tape.trans h.tape,k.output.trans h.output,Nat.le_trans h.size k.size,fun i hi hb=>(k.block i hi hb).trans (h.block i hi hb)⟩
theorem But.drew(h:But B b a w):But B b a w.drew:=⟨h.os,h.tape,h.output,h.size,h.block⟩
theorem But.of(h:Below B w w'):But B b w w':=⟨h.os,h.tape,h.output,h.size,fun k hk _=>h.block k hk⟩
theorem But.W(h:But B b w w')(hB:B<=b):Below B w w':=⟨h.os,h.tape,h.output,h.size,fun k hk=>h.block k hk (by omega)⟩
theorem But.mono{B':Nat}(h:But B b w w')(hB:B'<=B):But B' b w w':=⟨h.os,h.tape,h.output,h.size,fun k hk=>h.block k (by omega)⟩
theorem But.alloc(h:But B b a w)(hB:B<=w.heap.size)(o:Obj):But B b a (w.alloc o):=
 h.trans (.of ((Below.refl B w).alloc hB o))
theorem But.setCell(h:But B b a w){p:Addr}(hp:p.block=b\/B<=p.block)(u:Value):But B b a (w.setCell p u):=
 h.trans ⟨rfl,rfl,rfl,by simp[World.setCell],fun k hk hb=>Below.heap_setCell _ _ _ _ (by omega)⟩
theorem But.grown{row:Option Nat}(h:But B b a w)(hg:w.grownBy w' row)(hB:B<=w.heap.size)(hr:∀k,row=some k->B<=k):But B b a w':=
 h.trans ⟨hg.os,hg.tape,hg.output,hg.size,fun k hk _=>hg.block k (by omega) (fun e=>by have:=hr k e.symm;omega)⟩
theorem But.cell(h:But B b w w'){p:Addr}(hp:p.block<B)(hb:p.block≠b):w'.cell? p=w.cell? p:=World.cell?_of_block (w:=w) (h.block p.block hp hb)
end
theorem But.low{B b:Nat}{w w':World}(h:But B b w w'){B':Nat}(hB:B'<=B)(hb:B'<=b):Below B' w w':=(h.mono hB).W hb
set_option maxRecDepth 100000
def q1h(ds:List Td):List Value:=ds.flatMap fun x=>[.int .i64 x.op,.string x.tx,.int .i64 x.n]
theorem q7l:∀ds:List Td,(q1h ds).length=ds.length*3
 | []=>rfl
 | x::r=>by
  have:=q7l r
  unfold q1h at this⊢;rw[List.flatMap_cons,List.length_append,this,List.length_cons];simp;omega
theorem z5u(a b:List Td):q1h (a++b)=q1h a++q1h b:=by simp[q1h,List.flatMap_append]
theorem z2x:∀(ds:List Td)(i:Nat)(h:i<ds.length),(q1h ds)[i*3]?=some (.int .i64 ds[i].op)/\(q1h ds)[i*3+1]?=some (.string ds[i].tx)/\(q1h ds)[i*3+2]?=some (.int .i64 ds[i].n)
 | x::r,0,_=>by simp[q1h]
 | x::r,i+1,h=>by
  have h1:=z2x r i (by simpa using h);have e:q1h (x::r)=.int .i64 x.op::.string x.tx::.int .i64 x.n::q1h r:=by simp[q1h]
  rw[e,show(i+1)*3=i*3+1+1+1 by omega];exact h1
theorem z5v(ds:List Td):∀u∈q1h ds,u.oneCell'=true:=by
 intro u B;obtain⟨x,_,A⟩:=List.mem_flatMap.1 B;simp at A;rcases A with rfl|rfl|rfl<;>rfl
theorem k7h(ds:List Td)(j:Nat)(u:Value)(h:(q1h ds)[j]?=some u):∃i,∃hi:i<ds.length,(j=i*3/\u=ds[i].op)\/(j=i*3+1/\u=.string ds[i].tx)\/(j=i*3+2/\u=ds[i].n):=by
 have E:j<ds.length*3:=by rw[<-q7l];exact(List.getElem?_eq_some_iff.1 h).1
 have hi:j / 3<ds.length:=by omega
 obtain⟨A,B,C⟩:=z2x ds (j / 3) hi;refine⟨j / 3,hi,?_⟩;have D:j=j / 3*3\/j=j / 3*3+1\/j=j / 3*3+2:=by omega
 rcases D with e|e|e
 ·rw[<-e,h]at A;exact .inl ⟨e,Option.some.inj A⟩
 ·rw[<-e,h]at B;exact .inr (.inl ⟨e,Option.some.inj B⟩)
 ·rw[<-e,h]at C;exact .inr (.inr ⟨e,Option.some.inj C⟩)
theorem v2j:(prog.info? 71).map (fun i=>(i.zero,i.size,i.bytes))=some (some (.agg #[.int .i64 0,.string ⟨#[]⟩,.int .i64 0]),3,32):=by kernel_rfl
theorem k6x{B:Nat}{w:World}{a:Option Addr}{n cap:Nat}{ds:List Td}(h:w.ownsRow B 71 3 (.slice a n cap) ds.length (q1h ds)):n=ds.length/\ds.length<=cap/\Tds w a ds:=by
 rcases h.2 with⟨D,H⟩|⟨g,c,M,D,_,L,K,_,P,C⟩
 ·simp only[Value.slice.injEq]at D;obtain⟨rfl,rfl,rfl⟩:=D;refine⟨H.symm,by omega,fun i hi=>?_⟩;omega
 ·simp only[Value.slice.injEq]at D;obtain⟨rfl,rfl,rfl⟩:=D;refine⟨rfl,K,fun i hi=>?_⟩
  have J:g<w.heap.size:=by
   rcases Nat.lt_or_ge g w.heap.size with G|G
   ·exact G
   ·simp[Array.getElem?_eq_none G]at L
  have A:∀k u,(q1h ds)[k]?=some u->w.cell? ⟨g,k,none⟩=some u:=by
   intro k u E;rw[<-C]at E
   have I:k<ds.length*3:=by
    have:=(List.getElem?_eq_some_iff.1 E).1
    simp at this;omega
   rw[List.getElem?_take_of_lt I]at E;simp only[World.cell?,L];simpa using E
  obtain⟨H,N,O⟩:=z2x ds i hi;refine⟨g,0,rfl,J,?_,?_,?_⟩
  ·rw[Nat.zero_add];exact A _ _ H
  ·rw[Nat.zero_add];exact A _ _ N
  ·rw[Nat.zero_add];exact A _ _ O
theorem j0h{w:World}{b o:Nat}{ds:List Td}(h:Tds w (some ↑(b,o)) ds):∀j u,(q1h ds)[j]?=some u->w.cell? (((b,o):Addr).add j)=some u:=by
 intro j u H;obtain⟨i,G,E⟩:=k7h ds j u H;obtain⟨I,J,e,_,A,B,C⟩:=h i G;simp only[Option.some.injEq,Addr.mk.injEq,and_true]at e;obtain⟨rfl,rfl⟩:=e
 have D:∀k,((b,o):Addr).add k=(b,o+k):=by
  intro k;unfold Addr.add
  split
  ·rename_i h;subst h;rfl
  ·rfl
 rw[D];rcases E with⟨rfl,rfl⟩|⟨rfl,rfl⟩|⟨rfl,rfl⟩
 ·exact A
 ·rw[show o+(i*3+1)=o+i*3+1 by omega];exact B
 ·rw[show o+(i*3+2)=o+i*3+2 by omega];exact C
def q1b(B:Nat)(v:Value)(xs:List Td)(w:World):Prop:=w.ownsRow B 71 3 v xs.length (q1h xs)
theorem q1b.tds{B:Nat}{w:World}{A:Option Addr}{n c:Nat}{xs:List Td}(h:q1b B (.slice A n c) xs w):Tds w A xs:=(k6x h).2.2
theorem q1b.none{B:Nat}{w:World}{A:Option Addr}{n c:Nat}{xs:List Td}(h:q1b B (.slice A n c) xs w):n=xs.length/\(A=none->n=0/\c=0):=by
 rcases h.2 with⟨C,E⟩|⟨g,G,D,C,_⟩
 ·simp only[Value.slice.injEq]at C;obtain⟨rfl,rfl,rfl⟩:=C;exact⟨E.symm,fun _=>⟨rfl,rfl⟩⟩
 ·simp only[Value.slice.injEq]at C;obtain⟨rfl,rfl,rfl⟩:=C;exact⟨rfl,fun e=>by cases e⟩
theorem q4l{w:World}{G:Array Oper}{rest:List Oper}{o:Oper}{a:Act}{Q:Exit->Act->World->Prop}(J:o.guard=none)(s x:Operand)
  (ho:o.op=.call {callee:=.builtin .append,args:=#[s,x],argTypes:=#[59,59]})
  (B:Nat) (v:Value) (xs:List Td) (hs:a.eval s=v) (C:q1b B v xs w)
  (wa:Option Addr) (n:Nat) (ws:List Td) (hn:ws.length=n) (wc:Nat) (hx:a.eval x=.slice wa n wc) (hW:Tds w wa ws) (K:wa=none->n=0/\wc=0)
  (m:Nat) (hm:xs.length+n=m) (hb:m<=1000000) (E:B<=w.heap.size)
  (h:∀A c w',q1b B (.slice A m c) (xs++ws) w'->w.grownBy w' v.ownBlock->wpList prog G Q rest (a.put o.dst (.slice A m c)) w'):wpList prog G Q (o::rest) a w:=by
 subst hn hm;obtain⟨V,U,O,P,R⟩:=info_parts v2j
 have S:∀H w',q1b B H (xs++ws) w'->w.grownBy w' v.ownBlock->wpList prog G Q rest (a.put o.dst H) w':=by
  intro H w' I M
  obtain⟨A,c,rfl⟩:∃A c,H=.slice A (xs.length+ws.length) c:=by
   rcases I.2 with⟨L,D⟩|⟨g,c,W,L,_⟩
   ·rw[List.length_append]at D;exact⟨.none,0,by rw[L,D]⟩
   ·rw[List.length_append]at L;exact⟨_,c,L⟩
  exact h A c w' I M
 cases wa with
 | none=>
  obtain⟨D,rfl⟩:=K rfl;obtain rfl:ws=[]:=List.eq_nil_of_length_eq_zero D;refine wpList_append_own_none J s x 59 ho B 71 V 3 Tryz.underlying59 U v xs.length (q1h xs) hs C hx ?_;refine S v w ?_ ⟨rfl,rfl,rfl,Nat.le_refl _,fun _ _ _=>rfl⟩;rw[List.append_nil];exact C
 | some ad=>
  have N:ws=[]\/∃b o,ad=⟨b,o,Option.none⟩:=by
   rcases Nat.eq_zero_or_pos ws.length with D|D
   ·exact .inl (List.eq_nil_of_length_eq_zero D)
   ·obtain⟨b,o,e,_⟩:=hW 0 D;exact .inr ⟨b,o,by simpa using e⟩
  refine wpList_append_own w J s x 59 ho B 71 V _ 3 32 Tryz.underlying59 U O P R rfl (by decide) v xs.length (q1h xs) hs C ad ws.length wc (q1h ws) hx (q7l ws) ?_ (z5v ws) (by unfold maxLen;omega) (by omega) E ?_
  ·rcases N with rfl|⟨b,o,rfl⟩
   ·intro j u X;simp[q1h]at X
   ·exact j0h hW
  ·intro H w' I M _;rw[<-z5u]at I;refine S H w' ?_ M;show w'.ownsRow _ _ _ _ _ _;rw[List.length_append];exact I
theorem q1b.down{B B':Nat}{v:Value}{xs:List Td}{w:World}(h:q1b B v xs w)(hB:B'<=B):q1b B' v xs w:=by
 refine⟨h.1,?_⟩;rcases h.2 with D|⟨g,c,C,E,G,A⟩
 ·exact .inl D
 ·exact .inr ⟨g,c,C,E,by omega,A⟩
theorem q1b.kept{B:Nat}{v:Value}{xs:List Td}{w w':World}(h:q1b B v xs w)(hk:∀g,B<=g->g<w.heap.size->w'.heap[g]?=w.heap[g]?):q1b B v xs w':=by
 refine⟨h.1,?_⟩;rcases h.2 with G|⟨g,c,C,H,D,E,A⟩
 ·exact .inl G
 ·exact .inr ⟨g,c,C,H,D,(hk g D (Array.getElem?_eq_some_iff.1 E).1).trans E,A⟩
theorem q1b.one(w:World)(x:Td):q1b w (.slice (some ⟨w.heap.size,0,Option.none⟩) 1 1) [x] (w.alloc (.cells #[x.op,.string x.tx,x.n] 71)):=by
 have A:(w.alloc (.cells #[x.op,.string x.tx,x.n] 71)).heap[w.heap.size]?=some (.cells #[x.op,.string x.tx,x.n] 71 (0,0)):=by
  show(w.heap.push _)[w.heap.size]?=_
  simp
 exact⟨rfl,.inr ⟨w.heap.size,1,_,rfl,Nat.le_refl _,A,Nat.le_refl _,by unfold maxLen;decide,rfl,rfl⟩⟩
theorem q2g(c:UInt8)(w:World):Cw 42 #[.int .u8 (c.toNat:Int)] w (.bool (q1x c)):=by
 unfold Cw;by_cases B:(48:Int)<=(c.toNat:Int)
 ·by_cases C:(c.toNat:Int)<=57
  ·have A:Hid (q1x c=true):=by show q1x c=true;simp[q1x];omega
   go_in;go_wp2;go_ret;exact⟨by rw[A.o];rfl,rfl⟩
  ·have A:Hid (q1x c=false):=by show q1x c=false;simp[q1x];omega
   go_in;go_wp2;go_ret;exact⟨by rw[A.o];rfl,rfl⟩
 ·have A:Hid (q1x c=false):=by show q1x c=false;simp[q1x];omega
  go_in;go_wp2;go_ret;exact⟨by rw[A.o];rfl,rfl⟩
structure j0w(ds:List Td):Prop where
 l:ds.length<=40
 k:∀x∈ds,q0t x=0
def lvl(op:Int)(sec:Bool):Nat:=if op=5 then(if sec then 1 else 0)else(if sec then 2 else 1)
theorem z3t{ds:List Td}{p:Nat}{y:Td}{k n:Fo}{r:List Td}(h:ds.drop p=(Fo.cons y k n).N++r)(B:(Fo.cons y k n).ok):
  ∃hp:p<ds.length,ds[p]=y/\ds.drop (p+1)=k.N++(n.N++r)/\q3u ds p 1=some (p+1+k.N.length)/\ds.drop (p+1+k.N.length)=n.N++r:=by
 have hp:p<ds.length:=by
  rcases Nat.lt_or_ge p ds.length with C|C
  ·exact C
  ·rw[List.drop_eq_nil_of_le C,Fo.N]at h;cases h
 have A:=h;rw[List.drop_eq_getElem_cons hp,Fo.N,List.cons_append,List.cons.injEq,List.append_assoc]at A;refine⟨hp,A.1,A.2,?_,?_⟩
 ·have e:=j7g k B.2.1 (n.N++r) 0;rw[q7y,Nat.add_zero,B.1,<-A.2]at e;rw[z4s ds p 0 hp,A.1,q3u,Nat.add_zero (kdT y),e];rfl
 ·rw[<-List.drop_drop,A.2,List.drop_left]
theorem z0u{ds:List Td}{a:Option Addr}{cap p:Nat}(hs:j0w ds){q:Nat}(h:q3u ds p 1=some q)(hp:p<ds.length)(W:World)(hN:Tds W a ds):
  Cb 47 #[.slice a ds.length cap,.int .i64 (p:Int)] W (.int .i64 (q:Int)):=by
 unfold Cb;have A:=hs.l
 have:=z5l ds a cap (by omega) hs.k (ds.length+1) p W hN (by omega) (by omega)
 rw[h]at this;exact this
end Go.Proofs.YtchdplceopegoaaGreatDoor
