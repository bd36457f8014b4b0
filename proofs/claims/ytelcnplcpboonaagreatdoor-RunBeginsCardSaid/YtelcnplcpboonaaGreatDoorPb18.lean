import Derived.Test.YtelcnplcpboonaaGreatDoorPb09
import Derived.Test.YtelcnplcpboonaaGreatDoorPb14
import Derived.Deep.RegionLaw
import Derived.Test.YtelcnplcpboonaaGreatDoorPb13
import Derived.Test.YtelcnplcpboonaaGreatDoorPb11
open Go.Proofs.Tryz
namespace Go.Proofs.YtelcnplcpboonaaGreatDoor
open Go Go.RowKit
set_option maxRecDepth 100000
set_option maxHeartbeats 4000000
theorem y0d(bp be bf s o n A i j:Nat)(x2:Int)(f1:Bool)(w:World)(hn:n<=400)(hi:(i:Int)<n)(B:(i:Int)+1<n)(hj:(j:Int)<n)(C:i+1<j)(h1:bp≠be)(h2:bp≠bf)(h3:be≠bf)(h4:s≠be)(h5:s≠bf)
  (c0:w.cell? ⟨bp,0,none⟩=some (.slice (some ⟨s,o,none⟩) n A)) (c1:w.cell? ⟨bp,1,none⟩=some (.slice (some ⟨be,0,none⟩) n n)) (c2:w.cell? ⟨bp,2,none⟩=some (.slice (some ⟨bf,0,none⟩) n n))
  (d1:w.cell? ⟨s,o+i*3,none⟩=some (.int .i64 9))
  (e1:w.cell? ⟨be,i+1,none⟩=some (.int .i64 (j:Int)))
  (e2:w.cell? ⟨be,j,none⟩=some (.int .i64 x2))
  (e3:w.cell? ⟨bf,i+1,none⟩=some (.bool f1))
  (y1 y2:Value) (e5:w.cell? ⟨be,i,none⟩=some y1) (e6:w.cell? ⟨bf,i,none⟩=some y2) (z1:w.frozen? ⟨be,i,none⟩=false) (z2:w.frozen? ⟨bf,i,none⟩=false):
  Calls prog 278 #[.pointer (some ⟨bp,0,none⟩),.int .i64 i] w fun e w'=>e=.returned (.tuple #[])/\z1k be bf i (.int .i64 x2) (.bool f1) w w':=by
 have I:=j0l hn hi;have E:(0:Int)<=(i:Int)+1:=by omega
 have D:(0:Int)<=(i:Int):=by omega
 have H:((i:Int)+1).toNat=i+1:=by omega
 have G:(0:Int)<=(j:Int):=by omega
 go_in;go_wp2_with fail
 go_region_held3 (fun w'=>w'.cell? ⟨bp,0,none⟩=some (.slice (some ⟨s,o,none⟩) n A)/\w'.cell? ⟨bp,1,none⟩=some (.slice (some ⟨be,0,none⟩) n n)/\w'.cell? ⟨bp,2,none⟩=some (.slice (some ⟨bf,0,none⟩) n n)/\w'.cell? ⟨s,o+i*3,none⟩=some (.int .i64 9)/\w'.cell? ⟨be,i+1,none⟩=some (.int .i64 (j:Int))/\w'.cell? ⟨be,j,none⟩=some (.int .i64 x2)/\w'.cell? ⟨bf,i+1,none⟩=some (.bool f1))
  (first|exact⟨c0,c1,c2,d1,e1,e2,e3⟩|exact⟨(cso (by omega)).trans c0,(cso (by omega)).trans c1,(cso (by omega)).trans c2,(cso (by omega)).trans d1,(cso (by omega)).trans e1,(cso (by omega)).trans e2,(cso (by omega)).trans e3⟩|exact⟨(cso (by omega)).trans ((cso (by omega)).trans c0),(cso (by omega)).trans ((cso (by omega)).trans c1),(cso (by omega)).trans ((cso (by omega)).trans c2),(cso (by omega)).trans ((cso (by omega)).trans d1),(cso (by omega)).trans ((cso (by omega)).trans e1),(cso (by omega)).trans ((cso (by omega)).trans e2),(cso (by omega)).trans ((cso (by omega)).trans e3)⟩) (fail)
 all_goals
  go_wp2
  go_end0
  exact⟨rfl,rfl,rfl,rfl,rfl⟩
theorem y6v:(prog.info? 82).map (fun i=>(i.zero,i.size,i.bytes))=some (some (.slice none 0 0),1,24):=by kernel_rfl
def z1c(B:Nat)(v:Value)(ps:List (List Td))(w:World):Prop:=
 ∃hs:List Value,w.ownsRow B 82 1 v ps.length hs/\∀i(h:i<ps.length),∃g c,hs[i]?=some (.slice (some ⟨g,0,none⟩) ps[i].length c)/\q1p B (.slice (some ⟨g,0,none⟩) ps[i].length c) ps[i] w
theorem z1c.nil(B:Nat)(w:World):z1c B (.slice Option.none 0 0) [] w:=⟨[],⟨rfl,.inl ⟨rfl,rfl⟩⟩,fun i h=>by simp at h⟩
theorem z6b{B:Nat}{w:World}{g n c:Nat}{xs:List Td}(h:q1p B (.slice (some ⟨g,0,none⟩) n c) xs w):B<=g/\n<=c/\∃cur,w.heap[g]?=some (.cells cur 81 (0,0)):=by
 rcases h.2 with⟨A,_⟩|⟨H,G,cur,A,C,E,D,_⟩
 ·cases A
 ·simp only[Value.slice.injEq,Option.some.injEq,Addr.mk.injEq,and_true]at A;obtain⟨rfl,rfl,rfl⟩:=A;exact⟨C,D,cur,E⟩
theorem v4u{B:Nat}{w w':World}{g n c:Nat}{xs:List Td}(h:q1p B (.slice (some ⟨g,0,none⟩) n c) xs w)(hk:w'.heap[g]?=w.heap[g]?):q1p B (.slice (some ⟨g,0,none⟩) n c) xs w':=by
 refine⟨h.1,?_⟩;rcases h.2 with⟨C,_⟩|⟨I,E,D,C,G,H,A⟩
 ·cases C
 ·have e:=C;simp only[Value.slice.injEq,Option.some.injEq,Addr.mk.injEq,and_true]at e;obtain⟨rfl,_,_⟩:=e;exact .inr ⟨g,E,D,C,G,hk.trans H,A⟩
theorem z1c.kept{B:Nat}{v:Value}{ps:List (List Td)}{w w':World}(h:z1c B v ps w)(hk:∀g,B<=g->g<w.heap.size->w'.heap[g]?=w.heap[g]?):z1c B v ps w':=by
 obtain⟨L,D,K⟩:=h;refine⟨L,⟨D.1,?_⟩,fun i hi=>?_⟩
 ·rcases D.2 with J|⟨g,c,C,M,E,G,A⟩
  ·exact .inl J
  ·exact .inr ⟨g,c,C,M,E,(hk g E (Array.getElem?_eq_some_iff.1 G).1).trans G,A⟩
 ·obtain⟨g,c,H,I⟩:=K i hi;exact⟨g,c,H,I.kept hk⟩
theorem z1c.but{B b:Nat}{v:Value}{ps:List (List Td)}{w w':World}(h:z1c B v ps w)(hb:But w b w w')(hB:b<B):z1c B v ps w':=h.kept fun g h1 h2=>hb.block g h2 (by omega)
theorem z1c.cell{B:Nat}{A:Option Addr}{n c:Nat}{ps:List (List Td)}{w:World}(h:z1c B (.slice A n c) ps w):n=ps.length/\n<=c/\(A=none->n=0/\c=0)/\∀i(h:i<ps.length),∃go g c',A=some ⟨go,0,none⟩/\B<=go/\k1o w go c/\w.cell? ⟨go,i,none⟩=some (.slice (some ⟨g,0,none⟩) ps[i].length c')/\q1p B (.slice (some ⟨g,0,none⟩) ps[i].length c') ps[i] w:=by
 obtain⟨Q,L,M⟩:=h;rcases L.2 with⟨D,K⟩|⟨go,P,E,D,N,I,G,_,O,C⟩
 ·simp only[Value.slice.injEq]at D;obtain⟨rfl,rfl,rfl⟩:=D;exact⟨K.symm,Nat.le_refl _,fun _=>⟨rfl,rfl⟩,fun i hi=>by omega⟩
 ·simp only[Value.slice.injEq]at D;obtain⟨rfl,rfl,rfl⟩:=D;refine⟨rfl,G,(fun e=>by cases e),fun i hi=>?_⟩;obtain⟨g,c',H,J⟩:=M i hi;refine⟨go,g,c',rfl,N,⟨E,_,I,by omega⟩,?_,J⟩;rw[<-C,List.getElem?_take_of_lt (by omega)]at H;simp only[World.cell?,I];simpa using H
theorem z1c.prg{B:Nat}{A:Option Addr}{n c:Nat}{ps:List (List Td)}{w:World}(h:z1c B (.slice A n c) ps w):Prg w A ps:=by
 intro i H;obtain⟨E,g,D,e,_,I,G,C⟩:=h.cell.2.2.2 i H;exact⟨E,0,_,D,e,I.lt,by rw[Nat.zero_add];exact G,(z6b C).2.1,C.tds⟩
theorem v3q{B:Nat}{w:World}{v:Value}{n:Nat}{hs:List Value}(h:w.ownsRow B 82 1 v n hs){k:Nat}(hk:v.ownBlock=some k):∃cur,w.heap[k]?=some (.cells cur 82 (0,0)):=by
 rcases h.2 with⟨rfl,_⟩|⟨g,c,cur,rfl,_,A,_⟩
 ·cases hk
 ·have:g=k:=by simpa[Value.ownBlock]using hk
  subst this;exact⟨cur,A⟩
theorem z1c.own_le{B:Nat}{v:Value}{ps:List (List Td)}{w:World}(h:z1c B v ps w){k:Nat}(hk:v.ownBlock=some k):B<=k:=by
 obtain⟨E,C,_⟩:=h;rcases C.2 with⟨rfl,_⟩|⟨g,c,A,rfl,D,_⟩
 ·cases hk
 ·have:g=k:=by simpa[Value.ownBlock]using hk
  omega
theorem j7k{B:Nat}{v:Value}{ps:List (List Td)}{w:World}(h:z1c B v ps w){g n c:Nat}{t:List Td}(hT:q1p B (.slice (some ⟨g,0,none⟩) n c) t w):
  z1c B v ps (w.alloc (.cells #[.slice (some ⟨g,0,none⟩) n c] 82))/\q1p B (.slice (some ⟨g,0,none⟩) n c) t (w.alloc (.cells #[.slice (some ⟨g,0,none⟩) n c] 82))/\
  (w.alloc (.cells #[.slice (some ⟨g,0,none⟩) n c] 82)).cell? ⟨w,0,none⟩=some (.slice (some ⟨g,0,none⟩) n c):=by
 have A:Below w w (w.alloc (.cells #[.slice (some ⟨g,0,none⟩) n c] 82)):= Zb.alloc Zl _;exact⟨h.kept fun g _ h2=>A.block g h2,hT.kept fun g _ h2=>A.block g h2,cell_one_new w (.slice (some ⟨g,0,none⟩) n c) 82 0 _ rfl⟩
theorem k1g{B:Nat}{w:World}{A:Option Addr}{n c:Nat}{x:Td}{xs:List Td}(h:q1p B (.slice A n c) (x::xs) w):∃g,A=some ⟨g,0,none⟩:=by
 rcases h.2 with⟨_,E⟩|⟨g,G,D,C,_⟩
 ·simp at E
 ·simp only[Value.slice.injEq]at C;exact⟨g,C.1⟩
theorem z8b{w:World}{B:Array Oper}{o:Oper}{a:Act}{K:Act->World->Prop}{Q:Exit->Act->World->Prop}{E:Prop}(C:o.guard=none)(s x:Operand)(t:TypeId)
  (ho:o.op=.call {callee:=.builtin .append,args:=#[s,x],argTypes:=#[t,t]}) (v u v':Value) (w':World) (hs:a.eval s=v) (hx:a.eval x=u)
  (A:(Builtin.append_ #[t,t] o.type #[v,u]).run prog w=.ok v' w') (hK:K (a.put o.dst v') w'):if Region.wanted o (yielded B a.tmps)=true then Oper.wp prog o a w K Q else E:=by
 have D:Region.wanted o (yielded B a.tmps)=true:=by simp[Region.wanted,C]
 rw[if_pos D];unfold Oper.wp;simp[execOp,ho,resolve,invoke,builtin,hs,hx,A,Result.andThen];exact hK
theorem q1m{w:World}{W:Array Oper}{o:Oper}{a:Act}{K:Act->World->Prop}{Q:Exit->Act->World->Prop}{E:Prop}(J:o.guard=none)(s x:Operand)
  (ho:o.op=.call {callee:=.builtin .append,args:=#[s,x],argTypes:=#[82,82]})
  (B:Nat) (v:Value) (xs:List Td) (hs:a.eval s=v) (C:q1p B v xs w)
  (wa:Option Addr) (n:Nat) (ws:List Td) (hn:ws.length=n) (wc:Nat) (hx:a.eval x=.slice wa n wc) (hW:Tds w wa ws) (L:wa=none->n=0/\wc=0)
  (m:Nat) (hm:xs.length+n=m) (hb:m<=1000000) (G:B<=w.heap.size)
  (h:∀A c w',q1p B (.slice A m c) (xs++ws) w'->w.grownBy w' v.ownBlock->K (a.put o.dst (.slice A m c)) w'):if Region.wanted o (yielded W a.tmps)=true then Oper.wp prog o a w K Q else E:=by
 subst hn hm;obtain⟨Z,Y,S,U,V⟩:=info_parts j8c
 have X:∀H w',q1p B H (xs++ws) w'->w.grownBy w' v.ownBlock->K (a.put o.dst H) w':=by
  intro H w' I O
  obtain⟨A,c,rfl⟩:∃A c,H=.slice A (xs.length+ws.length) c:=by
   rcases I.2 with⟨N,D⟩|⟨g,c,d,N,_⟩
   ·rw[List.length_append]at D;exact⟨.none,0,by rw[N,D]⟩
   ·rw[List.length_append]at N;exact⟨_,c,N⟩
  exact h A c w' I O
 cases wa with
 | none=>
  obtain⟨D,rfl⟩:=L rfl;obtain rfl:ws=[]:=List.eq_nil_of_length_eq_zero D;refine z8b J s x 82 ho v _ _ _ hs hx (run_append_owned_none (P:=prog) (w:=w) B 82 o.type 81 Z 3 Tryz.underlying82 Y v xs.length (q0u xs) C) ?_;refine X v w ?_ ⟨rfl,rfl,rfl,Nat.le_refl _,fun _ _ _=>rfl⟩;rw[List.append_nil];exact C
 | some ad=>
  have R:ws=[]\/∃b o,ad=⟨b,o,Option.none⟩:=by
   rcases Nat.eq_zero_or_pos ws.length with D|D
   ·exact .inl (List.eq_nil_of_length_eq_zero D)
   ·obtain⟨b,o,e,_⟩:=hW 0 D;exact .inr ⟨b,o,by simpa using e⟩
  obtain⟨H,w',M,I,O,_⟩:=run_append_own (P:=prog) w B 82 o.type 81 Z _ 3 32 Tryz.underlying82 Y S U V rfl (by decide) v xs.length (q0u xs) C ad ws.length wc (q0u ws) (q6a ws) (by
   rcases R with rfl|⟨b,o,rfl⟩
   ·intro j u f;simp[q0u]at f
   ·exact k7d hW) (z3u ws) (by unfold maxLen;omega) (by omega) G
  refine z8b J s x 82 ho v _ H w' hs hx M (X H w' ?_ O);rw[<-z3t]at I;show w'.ownsRow _ _ _ _ _ _;rw[List.length_append];exact I
theorem q6u{w:World}{f:Array Oper}{o:Oper}{a:Act}{K:Act->World->Prop}{Q:Exit->Act->World->Prop}{E:Prop}(U:o.guard=none)(s x:Operand)
  (ho:o.op=.call {callee:=.builtin .append,args:=#[s,x],argTypes:=#[28,28]})
  (B:Nat) (v:Value) (ps:List (List Td)) (hs:a.eval s=v) (L:z1c B v ps w)
  (b0 g n c:Nat) (t:List Td) (hn:t.length=n) (hx:a.eval x=.slice (some ⟨b0,0,none⟩) 1 1) (hc:w.cell? ⟨b0,0,none⟩=some (.slice (some ⟨g,0,none⟩) n c)) (hT:q1p B (.slice (some ⟨g,0,none⟩) n c) t w)
  (m:Nat) (hm:ps.length+1=m) (hb:m<=1000000) (G:B<=w.heap.size)
  (h:∀A c' w',z1c B (.slice A m c') (ps++[t]) w'->w.grownBy w' v.ownBlock->K (a.put o.dst (.slice A m c')) w'):if Region.wanted o (yielded f a.tmps)=true then Oper.wp prog o a w K Q else E:=by
 subst hn hm;obtain⟨i0,V,Y,Z,b⟩:=info_parts y6v;obtain⟨N,S,h2⟩:=L
 obtain⟨v',w',M,p,q,_⟩:=run_append_own (P:=prog) w B 28 o.type 82 i0 _ 1 24 Tryz.underlying28 V Y Z b rfl (by decide) v ps.length N S ⟨b0,0,none⟩ 1 1 [.slice (some ⟨g,0,none⟩) t.length c] rfl (by
  intro j u X;cases j with
  | zero=>
   simp at X;subst X;rw[z1t];exact hc
  | succ j=>simp at X) (by intro u y;simp at y;subst y;rfl) (by unfold maxLen;omega) (by omega) G
 have C:∀{D d c':Nat}{k:List Td},q1p B (.slice (some ⟨D,0,none⟩) d c') k w->q1p B (.slice (some ⟨D,0,none⟩) d c') k w':=by
  intro D d c' k H;obtain⟨_,_,R,I⟩:=z6b H;refine v4u H (q.block D (Array.getElem?_eq_some_iff.1 I).1 fun e=>?_);obtain⟨l,J⟩:=v3q S e.symm;rw[I]at J;simp at J
 obtain⟨A,c',rfl⟩:∃A c',v'=.slice A (ps.length+1) c':=by
  rcases p.2 with⟨z,h0⟩|⟨D,c',R,z,_⟩
  ·omega
  ·exact⟨_,c',z⟩
 refine z8b U s x 28 ho v _ _ w' hs hx M (h A c' w' ⟨N++[.slice (some ⟨g,0,none⟩) t.length c],?_,fun i V=>?_⟩ q)
 ·rw[List.length_append];exact p
 ·have r:=S.1;rw[Nat.mul_one]at r;by_cases e:i<ps.length
  ·obtain⟨D,O,e1,e2⟩:=h2 i e;rw[List.getElem_append_left e];refine⟨D,O,?_,C e2⟩;rw[List.getElem?_append_left (by omega)];exact e1
  ·have W:i=ps.length:=by simp at V;omega
   subst W;rw[List.getElem_append_right Zl];refine⟨g,c,?_,?_⟩
   ·rw[List.getElem?_append_right (by omega),r];simp
   ·simp only[Nat.sub_self,List.getElem_cons_zero];exact C hT
def Tr.laid:Tr->List UInt8
 | .leaf x=>if x.op=1 then x.tx.data.toList else if x.op=2 then [32]else []
 | .one _ a=>a.laid
 | .two x a b=>if x.op=6 then a.laid++b.laid else a.laid
def Tr.brk:Tr->Bool
 | .leaf x=>decide (x.op=4)
 | .one _ a=>a.brk
 | .two x a b=>if x.op=6 then a.brk||b.brk else a.brk
theorem q6n:∀t:Tr,t.flat=(if t.brk=true then none else some t.laid)
 | .leaf x=>by
  simp only[Tr.flat,Tr.brk,Tr.laid];by_cases h1:x.op=1
  ·simp[h1]
  ·by_cases h2:x.op=2
   ·simp[h2]
   ·by_cases h4:x.op=4
    ·simp[h4]
    ·simp[h1,h2,h4]
 | .one _ a=>q6n a
 | .two x a b=>by
  have h1:=q6n a;have h2:=q6n b;simp only[Tr.flat,Tr.brk,Tr.laid]
  split
  ·rw[h1,h2];cases a.brk<;>cases b.brk<;>simp
  ·exact h1
theorem z7a:∀t:Tr,t.Wf->t.laid.length<=20*t.N.length
 | .leaf x,h=>by
  obtain⟨_,_,_,_,h5,_⟩:=q1s h.1;simp only[Tr.laid,Tr.N]
  split
  ·rename_i h1
   have:=q3y (h5 h1)
   have e:=q0y x.tx;simp only[List.length_cons,List.length_nil];omega
  ·split<;>simp
 | .one x a,h=>by
  have:=z7a a h.2.2
  simp only[Tr.laid,Tr.N,List.length_cons];omega
 | .two x a b,h=>by
  have h1:=z7a a h.2.2.1;have h2:=z7a b h.2.2.2;simp only[Tr.laid,Tr.N,List.length_cons,List.length_append]
  split
  ·rw[List.length_append];omega
  ·omega
theorem j4m{t:Tr}(h:t.brk=false):t.isFlat=true/\t.line=⟨t.laid.toArray⟩:=by
 have:=q6n t
 rw[h]at this;constructor
 ·rw[Tr.isFlat,this];rfl
 ·rw[Tr.line,this];rfl
theorem j4n{t:Tr}(h:t.brk=true):t.isFlat=false/\t.line=⟨#[]⟩:=by
 have:=q6n t
 rw[h]at this;constructor
 ·rw[Tr.isFlat,this];rfl
 ·rw[Tr.line,this];rfl
theorem q4g:∀t:Tr,t.Wf->z8k t.N t.laid t.brk
 | .leaf ⟨op,tx,n⟩,h=>by
  obtain⟨_,_,_,_,h5,_⟩:=q1s h.1;rcases q4t h.1 h.2 with e|e|e|e|e
  all_goals (simp only at e;subst e)
  ·exact y0l tx n (q3y (h5 rfl)).2
  ·exact y0m tx n
  ·exact k5q 0 (.inl ⟨rfl,rfl⟩) tx n
  ·exact y0n tx n
  ·exact k5q 1 (.inr ⟨rfl,rfl⟩) tx n
 | .one ⟨op,tx,n⟩ a,h=>by
  rcases z1g h.2.1 with e|e
  all_goals (simp only at e;subst e)
  ·exact k5r 0 (.inl ⟨rfl,rfl⟩) tx n _ _ _ (q4g a h.2.2)
  ·exact k5r 1 (.inr ⟨rfl,rfl⟩) tx n _ _ _ (q4g a h.2.2)
 | .two ⟨op,tx,n⟩ a c,h=>by
  rcases q9q h.2.1 with e|e
  all_goals (simp only at e;subst e)
  ·exact y0o tx n _ _ _ _ _ _ (q4g a h.2.2.1) (q4g c h.2.2.2) (z7a a h.2.2.1)
  ·exact y0p tx n _ _ _ _ _ _ (q4g a h.2.2.1) (q4g c h.2.2.2)
theorem v1u(ds:List Nd)(a:Option Addr)(A:Nat)(w:World)(hN:q2z w a ds)(h:q2o ds≠0):
  Calls prog 273 #[.slice a ds.length A] w fun e w'=>e=.returned (.tuple #[.string ⟨#[]⟩,.bool false,q0s (q2o ds)])/\Below w w w':=by
 have B:Hid (q2z w a ds):=hN;have H:Hid (q2o ds≠0):=h;rw[q0h h];clear hN h;go_in;go_wp2_with fail;refine(q2h ds a A _ B.o).mono ?_;rintro e D⟨rfl,C⟩;rw[q0h H.o];go_wp2;go_ret3;exact⟨rfl,C⟩
theorem j3t(ds:List Nd)(t:Tr)(hd:ds=t.N)(ht:t.Wf)(hl:ds.length<=400)(a:Option Addr)(B:Nat)(hc:ds.length<=B)(w:World)(hN:q2z w a ds):
  Calls prog 273 #[.slice a ds.length B] w fun e w'=>e=.returned (.tuple #[.string t.line,.bool t.isFlat,.nilIface])/\Below w w w':=by
 have R:Hid (q2z w a ds):=hN;have H:Hid (q2o ds=0):=(show q2o ds=0 by rw[hd];exact q9n ht (by rw[<-hd];exact hl));have X:Hid (ds=t.N):=hd;have V:Hid (ds≠[]):=(show ds≠[] by have:=t.pos;rw[<-hd]at this;exact List.length_pos_iff.1 this);clear hN hd;cases G:t.brk
 case' true=>obtain⟨O,P⟩:=j4n G
 case' false=>obtain⟨O,P⟩:=j4m G
 all_goals
  rw[O,P];have Y:=(show Hid (t.brk=_)from G);clear G O P;go_in;go_wp2_with fail;refine(q2h ds a B _ R.o).mono ?_;rintro e A⟨rfl,K⟩;rw[H.o,q0q];have I:Hid (Below w w A):=K;obtain⟨s,U,E⟩:=(R.o.W K).s V.o;have Z:Hid (q0w s A a ds):=E;clear K E;go_wp2_with fail;refine(q4g t ht A.heap.size A.heap.size s ds [] a B [] false _ (by rw[X.o];simp) (Z.o.kept (Below.heap_alloc _ _ _ U)) U (by omega) hc (IsX.fresh 375 A [.bool false]) (by simp) (by simp;omega)).mono ?_;rintro e Q⟨⟨c,S,rfl,_,_⟩,C,L,_⟩;have D:Below w w Q:=I.o.trans ((((Below.refl _ A).alloc Zl _).trans (L.W Zl)).mono I.o.size);rw[Bool.false_or,List.nil_append]at C;have J:Hid (Ln A.heap.size A.heap.size t.laid t.brk Q):=C;have b:=C.cell;rw[Y.o]at b;clear C
 ·go_wp2_with fail;refine(z2d 375 A.heap.size A.heap.size t.laid [.bool t.brk] Q J.o).mono ?_;rintro e d⟨rfl,M⟩;go_wp2;go_ret3;exact⟨rfl,D.trans (M.mono I.o.size)⟩
 ·go_wp2;go_ret3;exact⟨rfl,D⟩
theorem v1t(ds:List Nd)(a:Option Addr)(A:Nat)(hc:ds.length<=A)(w:World)(hN:q2z w a ds):
  Calls prog 273 #[.slice a ds.length A] w fun e w'=>e=.returned (.tuple #[.string (flS ds),.bool (flB ds),q0s (q2o ds)])/\Below w w w':=by
 by_cases h:q2o ds=0
 ·obtain⟨D,_,_⟩:=q5b h;obtain⟨E,B,C⟩:=j3s (z0f h) (q4b h) D;rw[B,C,h,q0q];exact j3t ds _ (q4b h) (z0f h) D a A hc w hN
 ·obtain⟨B,C⟩:=y4m h;rw[B,C];exact v1u ds a A w hN h
theorem j3w(ds:List Nd)(a:Option Addr)(A:Nat)(hc:ds.length<=A)(w:World)(hN:q2z w a ds):
  Calls prog 255 #[.slice a ds.length A] w fun e w'=>e=.returned (.tuple #[.int .i64 (flS ds).size,.bool (flB ds),q0s (q2o ds)])/\Below w w w':=by
 have E:Hid (q2z w a ds):=hN;clear hN;generalize D:flS ds=s;generalize B:flB ds=b;generalize C:q0s (q2o ds)=v;have H:Hid (flS ds=s/\flB ds=b/\q0s (q2o ds)=v):=⟨D,B,C⟩;clear D B C;go_in;go_wp2_with fail;refine(v1t ds a A hc _ E.o).mono ?_;rintro e I⟨rfl,G⟩;rw[H.o.1,H.o.2.1,H.o.2.2];go_wp2;go_ret3;exact⟨rfl,G⟩
theorem j1r(ds:List Nd)(t:Tr)(hd:ds=t.N)(ht:t.Wf)(hl:ds.length<=400)(a:Option Addr)(B:Nat)(hc:ds.length<=B)(w:World)(hN:q2z w a ds):
  Calls prog 230 #[.slice a ds.length B] w fun e w'=>e=.returned (.int .i64 (lgF t.flat))/\Below w w w':=by
 obtain⟨G,H,I⟩:=j3s ht hd hl;have A:=j3w ds a B hc w hN;rw[G,H,I,q0q]at A;cases D:t.flat with
 | none=>
  have C:t.isFlat=false:=by simp[Tr.isFlat,D]
  rw[C]at A;have E:Hid (Calls prog 255 #[.slice a ds.length B] w fun e w'=>e=.returned (.tuple #[.int .i64 t.line.size,.bool false,.nilIface])/\Below w w w'):=A;clear A hN G H I C hd D;rw[lgF];go_in;go_wp2_with fail;refine E.o.mono ?_;rintro e L⟨rfl,J⟩;go_wp2;go_ret;exact⟨rfl,J⟩
 | some s=>
  have C:t.isFlat=true:=by simp[Tr.isFlat,D]
  have K:t.line.size=s.length:=by rw[z9r,D];rfl
  rw[C,K]at A;have E:Hid (Calls prog 255 #[.slice a ds.length B] w fun e w'=>e=.returned (.tuple #[.int .i64 s.length,.bool true,.nilIface])/\Below w w w'):=A;clear A hN G H I C K hd D;rw[lgF];go_in;go_wp2_with fail;refine E.o.mono ?_;rintro e L⟨rfl,J⟩;go_wp2;go_ret;exact⟨rfl,J⟩
theorem y3q.pr{g n j:Nat}{F:Nat->Q}{x y:Int}{w w':World}(h:y3q g (j*7+4) (j*7+5) (.int .i64 x) (.int .i64 y) w w')(hp:PwR w g n F)(hj:j<n):PwR w' g n (upd F j {F j with nx:=x,dp:=y}):=by
 have A:=(hp.putNx hj x).putDp hj y;rw[z8i,q0k]at A;exact A.kept (by rw[h.2.2.2])
theorem y3q.belX{g a b:Nat}{e f:Value}{w w':World}(h:y3q g a b e f w w')(B:Nat):q0j B g w w':=
 ⟨h.1,h.2.1,h.2.2.1,by rw[h.2.2.2];simp[World.setCell],fun k _ hk=>by rw[h.2.2.2,Below.heap_setCell _ _ _ _ hk,Below.heap_setCell _ _ _ _ hk]⟩
theorem q8k(bp g n i:Nat)(x y:Int)(F:Nat->Q)(w:World)(hi:i<n)(c0:w.cell? ⟨bp,0,none⟩=some (.slice (some ⟨g,0,none⟩) n n))(hp:PwR w g n F):
  Calls prog 254 #[.pointer (some ⟨bp,0,none⟩),.int .i64 i,.int .i64 x,.int .i64 y] w fun e w'=>e=.returned (.tuple #[])/\PwR w' g n (upd F i {F i with nx:=x,dp:=y})/\q0j w g w w':=by
 have k:=hp.get i hi;refine(j2a bp g n i x y w (by omega) c0 _ _ k.c4 k.c5 hp.row.frozen hp.row.frozen).mono ?_;rintro e A⟨rfl,h⟩;exact⟨rfl,h.pr hp hi,h.belX _⟩
theorem v0v(bp g n i:Nat)(F:Nat->Q)(w:World)(hi:i<n)(c0:w.cell? ⟨bp,0,none⟩=some (.slice (some ⟨g,0,none⟩) n n))(hp:PwR w g n F)
  (h6:((F i).op==6)=false) (h9:((F i).op==9)=false) (h7:((F i).op==7)=false) (h8:((F i).op==8)=false):
  Calls prog 229 #[.pointer (some ⟨bp,0,none⟩),.int .i64 i] w fun e w'=>e=.returned (.tuple #[])/\PwR w' g n F/\q0j w g w w':=by
 obtain⟨E,G,H,I,J,K,L⟩:=hp.get i hi;have C:(i:Int)<n:=by omega
 have D:(0:Int)<=(i:Int):=by omega
 have A:Hid (PwR w g n F):=hp;clear hp hi;generalize F i=q at *;go_in;go_wp2
 go_end0
 have B:Below w w (w.alloc (.cells #[.int .i64 q.op,.string q.tx,.int .i64 q.n,.int .i64 q.en,.int .i64 q.nx,.int .i64 q.dp,.int .i64 q.lg] 306)):= Zb.alloc Zl _;exact⟨rfl,A.o.kept (B.block g A.o.row.lt),q0j.of B⟩
abbrev q4u(q:Q):Obj:=.cells #[.int .i64 q.op,.string q.tx,.int .i64 q.n,.int .i64 q.en,.int .i64 q.nx,.int .i64 q.dp,.int .i64 q.lg] 306
theorem v8t(bp g n i:Nat)(F:Nat->Q)(w:World)(hn:n<=400)(B:i+1<n)(c0:w.cell? ⟨bp,0,none⟩=some (.slice (some ⟨g,0,none⟩) n n))(hp:PwR w g n F)
  (E:(F i).op=7\/(F i).op=8) (x:Int) (hx:IntKind.i64.wrap ((F i).dp+(F i).n)=x):
  Calls prog 229 #[.pointer (some ⟨bp,0,none⟩),.int .i64 i] w fun e w'=>e=.returned (.tuple #[])/\PwR w' g n (upd F (i+1) {F (i+1)with nx:=(F i).nx,dp:=x})/\q0j w g w w':=by
 obtain⟨I,N,O,P,R,S,U⟩:=hp.get i (by omega);have C:(i:Int)<n:=by omega
 have K:(0:Int)<=(i:Int):=by omega
 have L:=z4w hn C;have G:Hid (PwR w g n F):=hp;have H:Hid (w.cell? ⟨bp,0,none⟩=some (.slice (some ⟨g,0,none⟩) n n)):=c0;have M:Hid (∃q,F i=q):=⟨_,rfl⟩;clear hp;generalize F i=q at *;have D:g<w.heap.size:=G.o.row.lt;rcases E with e|e
 all_goals
  rw[e]at I;go_in;go_wp2_with fail;refine(q8k bp g n (i+1) q.nx x F _ B (ka H.o _) (G.o.kept (Below.heap_alloc _ _ _ D))).mono ?_;rintro e V⟨rfl,J,A⟩;go_wp2
  go_end0
  exact⟨rfl,J,(q0j.of ((Below.refl _ w).alloc Zl _)).trans (A.mono (by simp))⟩
theorem v8u(bp g n i j:Nat)(F:Nat->Q)(w:World)(hn:n<=400)(E:i+1<n)(hj:j<n)(K:bp≠g)(c0:w.cell? ⟨bp,0,none⟩=some (.slice (some ⟨g,0,none⟩) n n))(hp:PwR w g n F)
  (G:(F i).op=6) (B:(F (i+1)).en=(j:Int)):
  Calls prog 229 #[.pointer (some ⟨bp,0,none⟩),.int .i64 i] w fun e w'=>e=.returned (.tuple #[])/\PwR w' g n (upd (upd F (i+1) {F (i+1)with nx:=j,dp:=(F i).dp}) j {upd F (i+1) {F (i+1)with nx:=j,dp:=(F i).dp} j with nx:=(F i).nx,dp:=(F i).dp})/\q0j w g w w':=by
 obtain⟨W,l,m,o,r,s,t⟩:=hp.get i (by omega);have N:=(hp.get (i+1) E).c3;rw[B]at N;have L:(i:Int)<n:=by omega
 have S:(i:Int)+1<n:=by omega
 have Y:(0:Int)<=(i:Int):=by omega
 have Z:(0:Int)<=(i:Int)+1:=by omega
 have a:((i:Int)+1).toNat=i+1:=by omega
 have b:=z4w hn L;have P:Hid (PwR w g n F):=hp;have M:g<w.heap.size:=P.o.row.lt;have U:bp<w.heap.size:=World.block_lt_of_cell? w ⟨bp,0,none⟩ c0;have d:Hid (w.cell? ⟨bp,0,none⟩=some (.slice (some ⟨g,0,none⟩) n n)):=c0;have c:∀O,(w.alloc O).cell? ⟨g,(i+1)*7+3,none⟩=some (.int .i64 (j:Int)):=fun O=>ka N O
 have D:∀O,(w.alloc O).cell? ⟨bp,0,none⟩=some (.slice (some ⟨g,0,none⟩) n n):=fun O=>ka c0 O
 rw[G]at W;have f:Hid ((F (i+1)).en=(j:Int)):=B;clear hp B N G;generalize F i=q at *;go_in;go_wp2_with fail;refine(q8k bp g n (i+1) j q.dp F _ E (D _) (P.o.kept (Below.heap_alloc _ _ _ M))).mono ?_;rintro e H⟨rfl,R,A⟩;have h:H.cell? ⟨w,4,none⟩=some (.int .i64 q.nx):=(A.cell (p:=⟨w,4,none⟩) (by simp) (by simp;omega)).trans (by simp[go_sem]);have k:H.cell? ⟨w,5,none⟩=some (.int .i64 q.dp):=(A.cell (p:=⟨w,5,none⟩) (by simp) (by simp;omega)).trans (by simp[go_sem]);have V:H.cell? ⟨bp,0,none⟩=some (.slice (some ⟨g,0,none⟩) n n):=(A.cell (p:=⟨bp,0,none⟩) (by simp;omega) K).trans (D _);have I:Hid (PwR H g n (upd F (i+1) {F (i+1)with nx:=j,dp:=q.dp})):=R;have C:Hid (q0j w g w H):=(q0j.of ((Below.refl _ w).alloc Zl _)).trans (A.mono (by simp));clear R A;go_wp2_with fail;refine(q8k bp g n j q.nx q.dp _ _ hj V I.o).mono ?_;rintro e u⟨rfl,X,J⟩;go_wp2
 go_end0
 exact⟨rfl,X,C.o.trans (J.mono C.o.size)⟩
theorem v0w(bp g n i j:Nat)(F:Nat->Q)(w:World)(hn:n<=400)(E:i+1<n)(hj:j<n)(I:bp≠g)(c0:w.cell? ⟨bp,0,none⟩=some (.slice (some ⟨g,0,none⟩) n n))(hp:PwR w g n F)
  (K:(F i).op=9) (J:(F (i+1)).en=(j:Int)):
  Calls prog 229 #[.pointer (some ⟨bp,0,none⟩),.int .i64 i] w fun e w'=>e=.returned (.tuple #[])/\PwR w' g n (upd (upd F (i+1) {F (i+1)with nx:=(F i).nx,dp:=(F i).dp}) j {upd F (i+1) {F (i+1)with nx:=(F i).nx,dp:=(F i).dp} j with nx:=(F i).nx,dp:=(F i).dp})/\q0j w g w w':=by
 obtain⟨k,t,u,v,x,y,z⟩:=hp.get i (by omega);have W:(i:Int)<n:=by omega
 have d:(i:Int)+1<n:=by omega
 have l:(0:Int)<=(i:Int):=by omega
 have m:(0:Int)<=(i:Int)+1:=by omega
 have o:((i:Int)+1).toNat=i+1:=by omega
 have r:=z4w hn W;have Z:Hid (PwR w g n F):=hp;have X:g<w.heap.size:=Z.o.row.lt;have f:bp<w.heap.size:=World.block_lt_of_cell? w ⟨bp,0,none⟩ c0;have H:∀O,(w.alloc O).cell? ⟨bp,0,none⟩=some (.slice (some ⟨g,0,none⟩) n n):=fun O=>ka c0 O
 rw[K]at k;have Y:Hid ((F (i+1)).en=(j:Int)):=J;clear hp J K;generalize F i=q at *;go_in;go_wp2_with fail;refine(q8k bp g n (i+1) q.nx q.dp F _ E (H _) (Z.o.kept (Below.heap_alloc _ _ _ X))).mono ?_;rintro e B⟨rfl,P,C⟩;have a:B.cell? ⟨w,4,none⟩=some (.int .i64 q.nx):=(C.cell (p:=⟨w,4,none⟩) (by simp) (by simp;omega)).trans (by simp[go_sem]);have b:B.cell? ⟨w,5,none⟩=some (.int .i64 q.dp):=(C.cell (p:=⟨w,5,none⟩) (by simp) (by simp;omega)).trans (by simp[go_sem]);have N:B.cell? ⟨bp,0,none⟩=some (.slice (some ⟨g,0,none⟩) n n):=(C.cell (p:=⟨bp,0,none⟩) (by simp;omega) I).trans (H _)
 have s:B.cell? ⟨g,(i+1)*7+3,none⟩=some (.int .i64 (j:Int)):=by
  have:=(P.get (i+1) E).c3
  rw[q0k]at this;rw[<-Y.o];exact this
 have M:Hid (PwR B g n (upd F (i+1) {F (i+1)with nx:=q.nx,dp:=q.dp})):=P;have G:Hid (q0j w g w B):=(q0j.of ((Below.refl _ w).alloc Zl _)).trans (C.mono (by simp));have L:w.heap.size<B.heap.size:=by have:=C.size;simp at this;omega
 have V:∀A,q0j B.drew.heap.size g B.drew A->A.cell? ⟨bp,0,none⟩=some (.slice (some ⟨g,0,none⟩) n n):=fun A h=>(h.cell (p:=⟨bp,0,none⟩) (by simp;omega) I).trans N
 have S:∀A,q0j B.drew.heap.size g B.drew A->A.cell? ⟨w,4,none⟩=some (.int .i64 q.nx):=fun A h=>(h.cell (p:=⟨w,4,none⟩) L (by simp;omega)).trans a
 have U:∀A,q0j B.drew.heap.size g B.drew A->A.cell? ⟨w,5,none⟩=some (.int .i64 q.dp):=fun A h=>(h.cell (p:=⟨w,5,none⟩) L (by simp;omega)).trans b
 have R:∀A,PwR A g n (upd (upd F (i+1) {F (i+1)with nx:=q.nx,dp:=q.dp}) j {upd F (i+1) {F (i+1)with nx:=q.nx,dp:=q.dp} j with nx:=q.nx,dp:=q.dp})->A.cell? ⟨g,(i+1)*7+3,none⟩=some (.int .i64 (j:Int)):=fun A h=>by
  have:=(h.get (i+1) E).c3
  rw[<-Y.o];by_cases e:i+1=j
  ·subst e;rw[q0k,q0k]at this;exact this
  ·rw[q0z e,q0k]at this;exact this
 clear P C;go_wp2_with fail
 go_region_held3 (fun w'=>w'.cell? ⟨bp,0,none⟩=some (.slice (some ⟨g,0,none⟩) n n)/\w'.cell? ⟨g,(i+1)*7+3,none⟩=some (.int .i64 (j:Int))/\w'.cell? ⟨w,4,none⟩=some (.int .i64 q.nx)/\w'.cell? ⟨w,5,none⟩=some (.int .i64 q.dp))
  (first|exact⟨N,s,a,b⟩|exact⟨V _ D,R _ c,S _ D,U _ D⟩) ((go_at_call 254;refine(q8k bp g n j q.nx q.dp _ B.drew hj N (M.o.kept rfl)).mono ?_;rintro e A⟨rfl,c,D⟩))
 all_goals
  go_wp2
  go_end0
  exact⟨rfl,c,G.o.drew.trans (D.mono G.o.size)⟩
def q8e(B:Nat)(v:Value)(xs:List Nd)(w:World):Prop:=w.ownsRow B 150 3 v xs.length (q1g xs)
theorem q8e.nods{B:Nat}{w:World}{A:Option Addr}{n c:Nat}{xs:List Nd}(h:q8e B (.slice A n c) xs w):q2z w A xs:=(k6j h).2.2
theorem q8e.none{B:Nat}{w:World}{A:Option Addr}{n c:Nat}{xs:List Nd}(h:q8e B (.slice A n c) xs w):n=xs.length/\(A=none->n=0/\c=0):=by
 rcases h.2 with⟨C,E⟩|⟨g,G,D,C,_⟩
 ·simp only[Value.slice.injEq]at C;obtain⟨rfl,rfl,rfl⟩:=C;exact⟨E.symm,fun _=>⟨rfl,rfl⟩⟩
 ·simp only[Value.slice.injEq]at C;obtain⟨rfl,rfl,rfl⟩:=C;exact⟨rfl,fun e=>by cases e⟩
theorem v8c{w:World}{G:Array Oper}{rest:List Oper}{o:Oper}{a:Act}{Q:Exit->Act->World->Prop}(J:o.guard=none)(s x:Operand)
  (ho:o.op=.call {callee:=.builtin .append,args:=#[s,x],argTypes:=#[117,117]})
  (B:Nat) (v:Value) (xs:List Nd) (hs:a.eval s=v) (C:q8e B v xs w)
  (wa:Option Addr) (n:Nat) (ws:List Nd) (hn:ws.length=n) (wc:Nat) (hx:a.eval x=.slice wa n wc) (hW:q2z w wa ws) (K:wa=none->n=0/\wc=0)
  (m:Nat) (hm:xs.length+n=m) (hb:m<=1000000) (E:B<=w.heap.size)
  (h:∀A c w',q8e B (.slice A m c) (xs++ws) w'->w.grownBy w' v.ownBlock->wpList prog G Q rest (a.put o.dst (.slice A m c)) w'):wpList prog G Q (o::rest) a w:=by
 subst hn hm;obtain⟨V,U,O,P,R⟩:=info_parts v6z
 have S:∀H w',q8e B H (xs++ws) w'->w.grownBy w' v.ownBlock->wpList prog G Q rest (a.put o.dst H) w':=by
  intro H w' I M
  obtain⟨A,c,rfl⟩:∃A c,H=.slice A (xs.length+ws.length) c:=by
   rcases I.2 with⟨L,D⟩|⟨g,c,W,L,_⟩
   ·rw[List.length_append]at D;exact⟨.none,0,by rw[L,D]⟩
   ·rw[List.length_append]at L;exact⟨_,c,L⟩
  exact h A c w' I M
 cases wa with
 | none=>
  obtain⟨D,rfl⟩:=K rfl;obtain rfl:ws=[]:=List.eq_nil_of_length_eq_zero D;refine wpList_append_own_none J s x 117 ho B 150 V 3 Tryz.underlying117 U v xs.length (q1g xs) hs C hx ?_;refine S v w ?_ ⟨rfl,rfl,rfl,Nat.le_refl _,fun _ _ _=>rfl⟩;rw[List.append_nil];exact C
 | some ad=>
  have N:ws=[]\/∃b o,ad=⟨b,o,Option.none⟩:=by
   rcases Nat.eq_zero_or_pos ws.length with D|D
   ·exact .inl (List.eq_nil_of_length_eq_zero D)
   ·obtain⟨b,o,e,_⟩:=hW 0 D;exact .inr ⟨b,o,by simpa using e⟩
  refine wpList_append_own w J s x 117 ho B 150 V _ 3 32 Tryz.underlying117 U O P R rfl (by decide) v xs.length (q1g xs) hs C ad ws.length wc (q1g ws) hx (q7z ws) ?_ (k3g ws) (by unfold maxLen;omega) (by omega) E ?_
  ·rcases N with rfl|⟨b,o,rfl⟩
   ·intro j u X;simp[q1g]at X
   ·exact j6b hW
  ·intro H w' I M _;rw[<-k3e]at I;refine S H w' ?_ M;show w'.ownsRow _ _ _ _ _ _;rw[List.length_append];exact I
theorem q8e.down{B B':Nat}{v:Value}{xs:List Nd}{w:World}(h:q8e B v xs w)(hB:B'<=B):q8e B' v xs w:=by
 refine⟨h.1,?_⟩;rcases h.2 with D|⟨g,c,C,E,G,A⟩
 ·exact .inl D
 ·exact .inr ⟨g,c,C,E,by omega,A⟩
theorem q8e.kept{B:Nat}{v:Value}{xs:List Nd}{w w':World}(h:q8e B v xs w)(hk:∀g,B<=g->g<w.heap.size->w'.heap[g]?=w.heap[g]?):q8e B v xs w':=by
 refine⟨h.1,?_⟩;rcases h.2 with G|⟨g,c,C,H,D,E,A⟩
 ·exact .inl G
 ·exact .inr ⟨g,c,C,H,D,(hk g D (Array.getElem?_eq_some_iff.1 E).1).trans E,A⟩
theorem q8e.one(w:World)(x:Nd):q8e w.heap.size (.slice (some ⟨w.heap.size,0,Option.none⟩) 1 1) [x] (w.alloc (.cells #[.int .i64 x.op,.string x.tx,.int .i64 x.n] 150)):=by
 have A:(w.alloc (.cells #[.int .i64 x.op,.string x.tx,.int .i64 x.n] 150)).heap[w.heap.size]?=some (.cells #[.int .i64 x.op,.string x.tx,.int .i64 x.n] 150 (0,0)):=by
  show(w.heap.push _)[w.heap.size]?=_
  simp
 exact⟨rfl,.inr ⟨w.heap.size,1,_,rfl,Nat.le_refl _,A,Nat.le_refl _,by unfold maxLen;decide,rfl,rfl⟩⟩
def NdV(w:World)(v:Value)(xs:List Nd):Prop:=∃A c,v=.slice A xs.length c/\q2z w A xs/\(A=none->xs.length=0/\c=0)
theorem q8e.val{B:Nat}{w:World}{A:Option Addr}{c:Nat}{xs:List Nd}(h:q8e B (.slice A xs.length c) xs w):NdV w (.slice A xs.length c) xs:=⟨A,c,rfl,h.nods,h.none.2⟩
def NdR(w:World)(xs:List Nd)(e:Ending)(w':World):Prop:=∃A c,e=.returned (.slice A xs.length c)/\q8e w.heap.size (.slice A xs.length c) xs w'/\Below w w w'
theorem NdR.val{w:World}{xs:List Nd}{e:Ending}{w':World}(h:NdR w xs e w'):∃v,e=.returned v/\NdV w' v xs/\Below w w w':=by
 obtain⟨A,c,e,B,C⟩:=h;exact⟨_,e,B.val,C⟩
theorem q2f(a b:List UInt8):wbS a++wbS b=wbS (a++b):=by
 apply ByteArray.ext;simp[wbS]
theorem k7x{n:Nat}(h:n<=9):q1u n=[UInt8.ofNat (48+n)]:=by rw[q1u,dif_pos h]
theorem q4w(l:List UInt8):(wbS l).size=l.length:=by
 rw[<-q0b];rfl
end Go.Proofs.YtelcnplcpboonaaGreatDoor
