import Derived.Test.YtfdppahhbpfnoaaGreatDoorPb19
import Derived.Test.YtfdppahhbpfnoaaGreatDoorPb18
import Derived.Test.YtfdppahhbpfnoaaGreatDoorRep
import Derived.Deep.QuietTactic
import Derived.Deep.RegionLaw
open Go.Proofs.Tryz
namespace Go.Proofs.YtfdppahhbpfnoaaGreatDoor
open Go Go.RowKit
def WS(B b:Nat)(pl:List Value)(l:List UInt8)(cv:Value)(w:World):Prop:=IsO 101 B b pl (Lib.byteCells l) [cv] w
abbrev q6i(be bf:Nat)(n cap:Nat)(a:Option Addr):List Value:=[.slice a n cap,.slice (some ⟨be,0,none⟩) n n,.slice (some ⟨bf,0,none⟩) n n]
theorem g1g:j2i 101 6 3:=by unfold j2i;kernel_rfl
section
variable {B b be bf n cap:Nat} {a:Option Addr} {l:List UInt8} {cv:Value} {w w':World}
theorem WS.c0(h:WS B b (q6i be bf n cap a) l cv w):w.cell? ⟨b,0,none⟩=some (.slice a n cap):=IsO.cellP h 0 (by show 0<3;decide)
theorem WS.c1(h:WS B b (q6i be bf n cap a) l cv w):w.cell? ⟨b,1,none⟩=some (.slice (some ⟨be,0,none⟩) n n):=IsO.cellP h 1 (by show 1<3;decide)
theorem WS.c2(h:WS B b (q6i be bf n cap a) l cv w):w.cell? ⟨b,2,none⟩=some (.slice (some ⟨bf,0,none⟩) n n):=IsO.cellP h 2 (by show 2<3;decide)
theorem WS.c5(h:WS B b (q6i be bf n cap a) l cv w):w.cell? ⟨b,5,none⟩=some cv:=IsO.cellR h 0
theorem WS.f5(h:WS B b (q6i be bf n cap a) l cv w):w.frozen? ⟨b,5,none⟩=false:=IsO.frozen h 5
theorem WS.lt{pl:List Value}(h:WS B b pl l cv w):b<w.heap.size:=IsO.lt h
theorem WS.alloc{pl:List Value}(h:WS B b pl l cv w)(o:Obj):WS B b pl l cv (w.alloc o):=IsO.alloc h o
theorem WS.drew{pl:List Value}(h:WS B b pl l cv w):WS B b pl l cv w.drew:=h
theorem WS.W{pl:List Value}(h:WS B b pl l cv w)(hb:Below w w w'):WS B b pl l cv w':=IsO.W h hb
theorem WS.stored(h:WS B b (q6i be bf n cap a) l cv w)(v:Value):WS B b (q6i be bf n cap a) l v (w.setCell ⟨b,5,none⟩ v):=IsO.stored h 0 v
end
theorem y8t{B b be bf n cap:Nat}{a:Option Addr}{l:List UInt8}{cv:Value}{w:World}(h:WS B b (q6i be bf n cap a) l cv w)(hB:B<=b)(s:ByteArray)(hl:l.length+s.size<=2000000000):
  Calls prog 38 #[.pointer (some ⟨b,3,none⟩),.string s] w fun e w'=>(∃z,e=.returned (.tuple #[.int .i64 z,.nilIface]))/\WS B b (q6i be bf n cap a) (l++s.data.toList) cv w'/\Below B w w':=by
 have D:=h.lt;refine(k6h 101 B b 3 (q6i be bf n cap a) _ [cv] s w rfl g1g (by decide) h (by rw[Lib.byteCells_length];omega) (by omega)).mono ?_;rintro e w'⟨rfl,A,C,_⟩;refine⟨⟨_,rfl⟩,?_,C.W hB⟩;rw[WS,Lib.byteCells_append];exact A
structure LC(B s be bf:Nat)(a:Option Addr)(ds:List Nd)(w:World):Prop where
 nd:q0z s w a ds
 kn:q8n w be bf ds 0
theorem LC.W{B s be bf:Nat}{a:Option Addr}{ds:List Nd}{w w':World}(h:LC B s be bf a ds w)(hB:s<B/\be<B/\bf<B)(hb:Below B w w'):LC B s be bf a ds w':=
 ⟨h.nd.kept (hb.block s hB.1),h.kn.kept (hb.block be hB.2.1) (hb.block bf hB.2.2)⟩
def k0o(B b:Nat)(pl:List Value)(res:Except Int (List UInt8 × List Int))(l:List UInt8)(e:Ending)(w':World):Prop:=
 match res with
 | .ok (u,ws')=>e=.returned .nilIface/\∃wa' wc',WS B b pl (l++u) (.slice wa' ws'.length wc') w'/\q2q B w' wa' ws'/\ws'.length<=wc'
 | .error er=>er≠0/\e=.returned (q1m er)
def k4b(fn B b s be bf:Nat)(ds:List Nd)(a:Option Addr)(cap:Nat)(A:List Nd)(f:Nat->List Int->Except Int (List UInt8 × List Int)):Prop:=
 ∀(i:Nat)(r:List Nd)(deep:Nat)(ws:List Int)(wa:Option Addr)(wc:Nat)(l:List UInt8)(w:World),ds.drop i=A++r->LC B s be bf a ds w->q2q B w wa ws->q2g ws->ws.length<=wc->WS B b (q6i be bf ds.length cap a) l (.slice wa ws.length wc) w->
  deep+8*A.length<=3300->l.length+4000*A.length<=1000000000->
  Calls prog fn #[.pointer (some ⟨b,0,none⟩),.int .i64 i,.int .i64 deep] w fun e w'=>k0o B b (q6i be bf ds.length cap a) (f deep ws) l e w'/\Below B w w'
abbrev q3a:=k4b 52
theorem z4m(n:Nat)(hn:n<=4000)(w:World):Calls prog 91 #[.string ⟨#[32]⟩,.int .i64 n] w fun e w'=>e=.returned (.string ⟨(List.replicate n 32).toArray⟩)/\Below w w w':=by
 refine(repeat_any ⟨#[32]⟩ n w (by omega) (by show 1*n<=_;omega)).mono ?_;rintro e w'⟨rfl,B⟩;refine⟨?_,B⟩
 have:=Lib.repeatL_replicate 32 1 n
 have A:Lib.repeatL (ByteArray.mk #[32]).data.toList n=List.replicate n 32:=by simpa using this
 rw[A]
set_option maxRecDepth 100000
set_option maxHeartbeats 4000000
theorem q0z.part{s o i:Nat}{w:World}{ds A r:List Nd}(h:q0z s w (some ⟨s,o,none⟩) ds)(hd:ds.drop i=A++r):q0z s w (some ⟨s,o+i*3,none⟩) A:=by
 intro j I;have J:=congrArg List.length hd;rw[List.length_drop,List.length_append]at J;have B:i+j<ds.length:=by omega
 obtain⟨K,e,C,D,E⟩:=h (i+j) B;simp only[Option.some.injEq,Addr.mk.injEq,and_true,true_and]at e;subst e
 have H:ds[i+j]=A[j]:=by
  have G:(ds.drop i)[j]?=some A[j]:=by rw[hd,List.getElem?_append_left I];simp
  rw[List.getElem?_drop]at G;exact(List.getElem?_eq_some_iff.1 G).2
 rw[H]at C D E;refine⟨o+i*3,rfl,?_,?_,?_⟩
 ·rw[show o+i*3+j*3=o+(i+j)*3 by omega];exact C
 ·rw[show o+i*3+j*3+1=o+(i+j)*3+1 by omega];exact D
 ·rw[show o+i*3+j*3+2=o+(i+j)*3+2 by omega];exact E
theorem v6o(B b s be bf:Nat)(ds:List Nd)(a:Option Addr)(cap:Nat)(i:Nat)(t:Tr)(r:List Nd)(l:List UInt8)(cv:Value)(w:World)(ht:t.Wf)(hd:ds.drop i=t.N++r)(hC:LC B s be bf a ds w)(hW:WS B b (q6i be bf ds.length cap a) l cv w)(hf:t.isFlat=false):
  Calls prog 146 #[.pointer (some ⟨b,0,none⟩),.int .i64 i] w fun e w'=>e=.returned (q1m 4)/\Below B w w':=by
 have E:=q8v hd;have D:=hW.c2;have C:=(hC.kn i t r (Nat.zero_le _) ht hd).2;rw[hf]at C;have A:(i:Int)<(ds.length:Int):=by omega
 rw[y5m];clear hC hW hd;go_in;go_wp2;go_ret;exact⟨rfl,Below.refl _ _⟩
theorem v0x(B b s be bf:Nat)(hb:s<B/\be<B/\bf<B)(hB:B<=b)(ds:List Nd)(a:Option Addr)(cap:Nat)(S:ds.length<=cap)(hl:ds.length<=400)(i:Nat)(t:Tr)(r:List Nd)(l:List UInt8)(cv:Value)(w:World)(ht:t.Wf)(hd:ds.drop i=t.N++r)(hC:LC B s be bf a ds w)(hW:WS B b (q6i be bf ds.length cap a) l cv w)(hf:t.isFlat=true)(p:l.length<=1000000000):
  Calls prog 146 #[.pointer (some ⟨b,0,none⟩),.int .i64 i] w fun e w'=>e=.returned .nilIface/\WS B b (q6i be bf ds.length cap a) (l++t.line.data.toList) cv w'/\Below B w w':=by
 have f:=q8v hd;have P:=hW.c0;have Q:=hW.c1;have u:=hW.c2;obtain⟨O,q⟩:=hC.kn i t r (Nat.zero_le _) ht hd;rw[hf]at q;obtain⟨C,Z,_,_,_⟩:=hC.nd i f;subst Z;have E:=hW.lt;have M:B<=w.heap.size:=by omega
 have g:(i:Int)<(ds.length:Int):=by omega
 have D:i+t.N.length<=ds.length:=by
  have:=congrArg List.length hd
  rw[List.length_drop,List.length_append]at this;omega
 have hp:=t.pos;have V:q2e w (some ⟨s,C+i*3,none⟩) t.N:=(hC.nd.part hd).nods (by omega);have m:t.line.size<=8000:=by have:=z3w t ht;rw[k2d];omega
 generalize y:i+t.N.length=j at O D;have G:t.N.length=j-i:=by omega
 have I:Hid (∀W:World,Below w w W->Calls prog 188 #[.slice (some ⟨s,C+i*3,none⟩) (j-i) (cap-i)] W fun e w'=>e=.returned (.tuple #[.string t.line,.bool true,.nilIface])/\Below W W w'):=fun W hW=>by
  have:=j4u t.N t rfl ht (by omega) (some ⟨s,C+i*3,none⟩) (cap-i) (by omega) W (V.W hW)
  rw[hf,G]at this;exact this
 have v:(i:Int)<=(j:Int):=by omega
 have L:be<w.heap.size:=by omega
 have n:(0:Int)<=(i:Int):=by omega
 have o:(0:Int)<=(j:Int):=by omega
 have h:(i:Int)<(cap:Int):=by omega
 have c:¬(cap-i=0):=by omega
 have d:¬(cap=i):=by omega
 have k:((j:Int)-(i:Int)).toNat=j-i:=by omega
 have U:((cap:Int)-(i:Int)).toNat=cap-i:=by omega
 have x:(j:Int)<=(cap:Int):=by omega
 have R:(j:Int)<=(ds.length:Int):=by omega
 have Y:Hid (WS B b (q6i be bf ds.length cap (some ⟨s,C,none⟩)) l cv w):=hW;clear hC hW hd V G;go_in;go_wp2_with fail
 go_region_held3 (fun w'=>w'.cell? ⟨b,0,none⟩=some (.slice (some ⟨s,C,none⟩) ds.length cap)/\w'.cell? ⟨b,1,none⟩=some (.slice (some ⟨be,0,none⟩) ds.length ds.length)/\w'.cell? ⟨be,i,none⟩=some (.int .i64 (j:Int)))
  (first|exact⟨P,Q,O⟩|exact⟨((q1o A).1 _ _ E).trans P,((q1o A).1 _ _ E).trans Q,((q1o A).1 _ _ L).trans O⟩)
  (first|(go_at_call 188;refine(I.o _ (Below.drew (Below.refl _ w))).mono ?_;rintro e X⟨rfl,A⟩))
 all_goals
  have J:Hid (WS B b (q6i be bf ds.length cap (some ⟨s,C,none⟩)) l cv X):=WS.W (WS.drew Y.o) A;have H:Hid (Below B w X):=(Below.drew (Below.refl B w)).trans (A.mono M);clear A;go_wp2_with fail;refine(y8t J.o hB t.line (by omega)).mono ?_;rintro e w3⟨⟨z,rfl⟩,R,K⟩;go_wp2;go_ret;exact⟨rfl,R,H.o.trans K⟩
theorem k0a{w:World}{B:Array Oper}{o:Oper}{a:Act}{K:Act->World->Prop}{Q:Exit->Act->World->Prop}{E:Prop}(C:o.guard=none)(s x:Operand)(t:TypeId)
  (ho:o.op=.call {callee:=.builtin .append,args:=#[s,x],argTypes:=#[t,t]}) (v u v':Value) (w':World) (hs:a.eval s=v) (hx:a.eval x=u)
  (A:(Builtin.append_ #[t,t] o.type #[v,u]).run prog w=.ok v' w') (hK:K (a.put o.dst v') w'):if Region.wanted o (yielded B a.tmps)=true then Oper.wp prog o a w K Q else E:=by
 have D:Region.wanted o (yielded B a.tmps)=true:=by simp[Region.wanted,C]
 rw[if_pos D];unfold Oper.wp;simp[execOp,ho,resolve,invoke,builtin,hs,hx,A,Result.andThen];exact hK
theorem q1u{w:World}{V:Array Oper}{o:Oper}{a:Act}{K:Act->World->Prop}{Q:Exit->Act->World->Prop}{E:Prop}(I:o.guard=none)(s x:Operand)
  (ho:o.op=.call {callee:=.builtin .append,args:=#[s,x],argTypes:=#[22,22]})
  (base:Nat) (v:Value) (xs:List Td) (hs:a.eval s=v) (B:q1s base v xs w)
  (wa:Option Addr) (n:Nat) (ws:List Td) (hn:ws.length=n) (wc:Nat) (hx:a.eval x=.slice wa n wc) (hW:Tds w wa ws) (J:wa=none->n=0/\wc=0)
  (m:Nat) (hm:xs.length+n=m) (hb:m<=1000000) (D:base<=w.heap.size)
  (h:∀A c w',q1s base (.slice A m c) (xs++ws) w'->w.grownBy w' v.ownBlock->K (a.put o.dst (.slice A m c)) w'):if Region.wanted o (yielded V a.tmps)=true then Oper.wp prog o a w K Q else E:=by
 subst hn hm;obtain⟨Y,X,R,S,U⟩:=info_parts v0a
 have W:∀G w',q1s base G (xs++ws) w'->w.grownBy w' v.ownBlock->K (a.put o.dst G) w':=by
  intro G w' H N
  obtain⟨A,c,rfl⟩:∃A c,G=.slice A (xs.length+ws.length) c:=by
   rcases H.2 with⟨M,C⟩|⟨g,c,Z,M,_⟩
   ·rw[List.length_append]at C;exact⟨.none,0,by rw[M,C]⟩
   ·rw[List.length_append]at M;exact⟨_,c,M⟩
  exact h A c w' H N
 cases wa with
 | none=>
  obtain⟨C,rfl⟩:=J rfl;obtain rfl:ws=[]:=List.eq_nil_of_length_eq_zero C;refine k0a I s x 22 ho v _ _ _ hs hx (run_append_owned_none (P:=prog) (w:=w) base 22 o.type 47 Y 3 Tryz.underlying22 X v xs.length (q0y xs) B) ?_;refine W v w ?_ ⟨rfl,rfl,rfl,Nat.le_refl _,fun _ _ _=>rfl⟩;rw[List.append_nil];exact B
 | some ad=>
  have O:ws=[]\/∃b o,ad=⟨b,o,Option.none⟩:=by
   rcases Nat.eq_zero_or_pos ws.length with C|C
   ·exact .inl (List.eq_nil_of_length_eq_zero C)
   ·obtain⟨b,o,e,_⟩:=hW 0 C;exact .inr ⟨b,o,by simpa using e⟩
  obtain⟨G,w',L,H,N,_⟩:=run_append_own (P:=prog) w base 22 o.type 47 Y _ 3 32 Tryz.underlying22 X R S U rfl (by decide) v xs.length (q0y xs) B ad ws.length wc (q0y ws) (q6r ws) (by
   rcases O with rfl|⟨b,o,rfl⟩
   ·intro j u d;simp[q0y]at d
   ·exact k9h hW) (z4s ws) (by unfold maxLen;omega) (by omega) D
  refine k0a I s x 22 ho v _ G w' hs hx L (W G w' ?_ N);rw[<-z4r]at H;show w'.ownsRow _ _ _ _ _ _;rw[List.length_append];exact H
theorem q7p{w:World}{d:Array Oper}{o:Oper}{a:Act}{K:Act->World->Prop}{Q:Exit->Act->World->Prop}{E:Prop}(S:o.guard=none)(s x:Operand)
  (ho:o.op=.call {callee:=.builtin .append,args:=#[s,x],argTypes:=#[33,33]})
  (base:Nat) (v:Value) (ps:List (List Td)) (hs:a.eval s=v) (J:z2a base v ps w)
  (b0 g n c:Nat) (t:List Td) (hn:t.length=n) (hx:a.eval x=.slice (some ⟨b0,0,none⟩) 1 1) (hc:w.cell? ⟨b0,0,none⟩=some (.slice (some ⟨g,0,none⟩) n c)) (hT:q1s base (.slice (some ⟨g,0,none⟩) n c) t w)
  (m:Nat) (hm:ps.length+1=m) (hb:m<=1000000) (D:base<=w.heap.size)
  (h:∀A c' w',z2a base (.slice A m c') (ps++[t]) w'->w.grownBy w' v.ownBlock->K (a.put o.dst (.slice A m c')) w'):if Region.wanted o (yielded d a.tmps)=true then Oper.wp prog o a w K Q else E:=by
 subst hn hm;obtain⟨i0,U,X,Y,Z⟩:=info_parts y8b;obtain⟨M,R,h2⟩:=J
 obtain⟨v',w',L,l,p,_⟩:=run_append_own (P:=prog) w base 33 o.type 22 i0 _ 1 24 Tryz.underlying33 U X Y Z rfl (by decide) v ps.length M R ⟨b0,0,none⟩ 1 1 [.slice (some ⟨g,0,none⟩) t.length c] rfl (by
  intro j u W;cases j with
  | zero=>
   simp at W;subst W;rw[z7p];exact hc
  | succ j=>simp at W) (by intro u r;simp at r;subst r;rfl) (by unfold maxLen;omega) (by omega) D
 have B:∀{C b c':Nat}{f:List Td},q1s base (.slice (some ⟨C,0,none⟩) b c') f w->q1s base (.slice (some ⟨C,0,none⟩) b c') f w':=by
  intro C b c' f G;obtain⟨_,_,O,H⟩:=z6x G;refine v6d G (p.block C (Array.getElem?_eq_some_iff.1 H).1 fun e=>?_);obtain⟨k,I⟩:=v5a R e.symm;rw[H]at I;simp at I
 obtain⟨A,c',rfl⟩:∃A c',v'=.slice A (ps.length+1) c':=by
  rcases l.2 with⟨y,h0⟩|⟨C,c',O,y,_⟩
  ·omega
  ·exact⟨_,c',y⟩
 refine k0a S s x 33 ho v _ _ w' hs hx L (h A c' w' ⟨M++[.slice (some ⟨g,0,none⟩) t.length c],?_,fun i U=>?_⟩ p)
 ·rw[List.length_append];exact l
 ·have q:=R.1;rw[Nat.mul_one]at q;by_cases e:i<ps.length
  ·obtain⟨C,N,z,e2⟩:=h2 i e;rw[List.getElem_append_left e];refine⟨C,N,?_,B e2⟩;rw[List.getElem?_append_left (by omega)];exact z
  ·have V:i=ps.length:=by simp at U;omega
   subst V;rw[List.getElem_append_right Zl];refine⟨g,c,?_,?_⟩
   ·rw[List.getElem?_append_right (by omega),q];simp
   ·simp only[Nat.sub_self,List.getElem_cons_zero];exact B hT
set_option maxHeartbeats 8000000
theorem z2v{ds:List Td}(hs:v9z ds){i:Nat}{F:Fo}{r:List Td}(h:ds.drop i=F.N++r):z2y F.D<=800:=by
 have B:=z5u F;have A:=congrArg List.length h;rw[List.length_drop,List.length_append]at A
 have:=hs.l
 omega
abbrev Six(W w:World):Prop:=w.cell? ⟨W.heap.size+1+1+1,0,none⟩=some (.int .i64 8)/\w.cell? ⟨W.heap.size+1+1+1,1,none⟩=some (.string ⟨#[]⟩)/\w.cell? ⟨W.heap.size+1+1+1,2,none⟩=some (.int .i64 0)/\w.cell? ⟨W.heap.size+1+1+1+1,0,none⟩=some (.int .i64 7)/\w.cell? ⟨W.heap.size+1+1+1+1,1,none⟩=some (.string ⟨#[]⟩)/\w.cell? ⟨W.heap.size+1+1+1+1,2,none⟩=some (.int .i64 2)
theorem q0w.six{W:World}{x:Td}{w:World}(h:q0w W x w):Six W w:=⟨h.gr.2.1,h.gr.2.2.1,h.gr.2.2.2,h.dp.2.1,h.dp.2.2.1,h.dp.2.2.2⟩
theorem j4i{ds:List Td}{a:Option Addr}{cap:Nat}(hs:v9z ds){x:Td}{k n:Fo}(c:(Fo.cons x k n).ok)(Ay:(Fo.cons x k n).exs)(h2:x.op=5\/x.op=6)(hk:DcA ds a cap k):DcH ds a cap (.cons x k n) (q0g x k.D):=by
 intro i r hi W v;obtain⟨hp,e1,e2,_,_⟩:=j0o hi c
 have Az:kdT x=2:=by
  unfold kdT;rcases h2 with h|h<;>rw[h]<;>rfl
 have A0:k.len=2:=c.1.trans Az
 obtain⟨C,M,E,O,rfl⟩:∃C M E O,k=.cons C M (.cons E O .nil):=by
  match k,A0 with
  | .cons C M (.cons E O .nil),_=>exact⟨C,M,E,O,rfl⟩
 have Aw:(Fo.cons C M (.cons E O .nil)).D=[(C,q0g C M.D),(E,q0g E O.D)]:=rfl;have hz:=z2v hs e2;rw[Aw,q1y,q1y]at hz;obtain⟨A3,ea,_,Av,q⟩:=j0o e2 c.2.1;obtain⟨A4,eb,_,_,_⟩:=j0o q c.2.1.2.2;generalize hj:i+1+1+M.N.length=j at Av q A4 eb;have HN:Hid (Tds W a ds):=v;have hl:=hs.l;have A7:(q0g C M.D).N.length<=800:=by simp only at hz;omega
 have A8:(q0g E O.D).N.length<=800:=by simp only at hz;omega
 have Q:Hid (∀W':World,Below W W W'->Calls prog 59 #[.slice a ds.length cap,.int .i64 (i:Int),.int .i64 ((i:Int)+1),.bool false] W' fun e w'=>NdR W' (inD (lvl x.op false) C (q0g C M.D)).N e w'):=fun W' w=>by
  have h:=z6e W' (v.W w) hp A3 (by rw[e1];exact h2) false (q0g C M.D) (by omega) (hk.1 (i+1) _ e2 W' (v.W w)) (cap:=cap);rw[e1,ea,show((i+1:Nat):Int)=(i:Int)+1 by omega]at h;exact h
 have m:Hid (∀W':World,Below W W W'->Calls prog 24 #[.slice a ds.length cap,.int .i64 ((i:Int)+1)] W' fun e w'=>e=.returned (.int .i64 (j:Int))/\Below W' W' w'):=fun W' w=>by
  have h:=k7q (cap:=cap) hs Av A3 W' (v.W w);rw[show((i+1:Nat):Int)=(i:Int)+1 by omega]at h;exact h
 have R:Hid (∀W':World,Below W W W'->Calls prog 59 #[.slice a ds.length cap,.int .i64 (i:Int),.int .i64 (j:Int),.bool true] W' fun e w'=>NdR W' (inD (lvl x.op true) E (q0g E O.D)).N e w'):=fun W' w=>by
  have h:=z6e W' (v.W w) hp A4 (by rw[e1];exact h2) true (q0g E O.D) (by omega) (hk.2.1 j _ q W' (v.W w)) (cap:=cap);rw[e1,eb]at h;exact h
 have A1:=j0y (lvl x.op false) C (q0g C M.D);have A2:=j0y (lvl x.op true) E (q0g E O.D)
 have Ax:Hid ((q0g x [(C,q0g C M.D),(E,q0g E O.D)]).N=⟨8,⟨#[]⟩,0⟩::(⟨6,⟨#[]⟩,0⟩::((inD (lvl x.op false) C (q0g C M.D)).N++(⟨7,⟨#[]⟩,2⟩::(⟨6,⟨#[]⟩,0⟩::([⟨2,⟨#[]⟩,0⟩]++(⟨6,⟨#[]⟩,0⟩::([⟨1,(if x.op=5 then⟨#[43,32]⟩else⟨#[42,32]⟩),0⟩]++(inD (lvl x.op true) E (q0g E O.D)).N)))))))):=by
  show _=_;rcases h2 with h|h
  ·rw[if_pos h];simp[q0g,h,tw2,lvl,Tr.N];rfl
  ·rw[if_neg (by omega)];simp[q0g,h,tw2,lvl,Tr.N];rfl
 obtain⟨b,o,rfl,w,c1,c2,c3⟩:=v i hp;have A6:(i:Int)<(ds.length:Int):=by omega
 rw[e1]at c1 c2 c3;have X:Hid (q0w W x (dcW W x.op x.tx x.n)):=k1b W x;unfold v9q;rw[Aw,Ax.o]
 generalize(inD (lvl x.op false) C (q0g C M.D)).N=ls at Q A1⊢
 generalize(inD (lvl x.op true) E (q0g E O.D)).N=rs at R A2⊢
 have hx:=q1l (Ay x (by simp[Fo.N]));clear v e1 e2 hi c Ay hk hj Aw hz Av q ea eb Ax Az A0;obtain⟨xo,xt,xn⟩:=x;simp only at c1 c2 c3 X h2 hx A1 A2⊢
 have A5:xt=⟨#[]⟩/\xn=0:=by
  rcases hx with⟨ho,_⟩|⟨ho,_⟩|⟨ho,_⟩|⟨ho,_⟩|⟨_,s,t,_⟩|⟨_,s,t,_⟩
  ·omega
  ·omega
  ·omega
  ·omega
  ·exact⟨s,t⟩
  ·exact⟨s,t⟩
 obtain⟨rfl,rfl⟩:=A5;clear hx;rcases h2 with rfl|rfl
 ·simp only[if_true];go_in;go_wp2_with fail;have A:=(show Hid (q0w W ⟨5,⟨#[]⟩,0⟩ (dcW W 5 ⟨#[]⟩ 0))from X.o);clear X;refine(Q.o _ A.o.b).mono ?_;rintro e w1 s;obtain⟨L,rfl,n1,b1⟩:=s.val;have G:Hid (q0w W ⟨5,⟨#[]⟩,0⟩ w1):=A.o.W b1;have Y:Hid (NdV w1 L ls):=n1;clear s n1 b1 A;go_wp2_with fail;refine(m.o _ G.o.b).mono ?_;rintro e w2⟨rfl,b2⟩;have H:Hid (q0w W ⟨5,⟨#[]⟩,0⟩ w2):=G.o.W b2;have Z:Hid (NdV w2 L ls):=Y.o.W b2;clear b2 G Y;go_wp2_with fail;refine(R.o _ H.o.b).mono ?_;rintro e B t;obtain⟨v3,rfl,n3,b3⟩:=t.val;have I:Hid (q0w W ⟨5,⟨#[]⟩,0⟩ B):=H.o.W b3;have y:Hid (NdV B L ls):=Z.o.W b3;have Ad:Hid (NdV B v3 rs):=n3;have An:Hid (Six W B):=I.o.six;have Au:Hid (Six W B.drew):=I.o.six;have Ag:Hid (Below B B B.drew):= Zb.drew;clear t n3 b3 H Z Q R m HN;go_wp2_with fail
  go_region_held3 (fun w'=>Six W w') (first|with_reducible exact Au.o|with_reducible exact An.o|with_reducible exact Ao.o|with_reducible exact Ap.o|with_reducible exact Aq.o|with_reducible exact Ar.o|with_reducible exact As.o|with_reducible exact At.o)
   (first
     | (go_at_call 60;refine((q2w ⟨8,⟨#[]⟩,0⟩ (u) Aj.o (by simp<;>omega))).mono ?_;rintro e w9 h9;have Al:Hid (NdR W (⟨8,⟨#[]⟩,0⟩::(⟨6,⟨#[]⟩,0⟩::(ls++(⟨7,⟨#[]⟩,2⟩::(⟨6,⟨#[]⟩,0⟩::([⟨2,⟨#[]⟩,0⟩]++(⟨6,⟨#[]⟩,0⟩::([⟨1,⟨#[43,32]⟩,0⟩]++rs)))))))) e w9):=h9.from K.o.b;obtain⟨v9,rfl,n9,b9⟩:=h9.val;have Ak:Hid (q0w W ⟨5,⟨#[]⟩,0⟩ w9):=K.o.W b9;have At:Hid (Six W w9):=Ak.o.six;clear h9 n9 b9)
     | (go_at_call 61;refine((q0u (g) Ac.o Ai.o (by simp<;>omega))).mono ?_;rintro e u h8;obtain⟨v8,rfl,n8,b8⟩:=h8.val;have K:Hid (q0w W ⟨5,⟨#[]⟩,0⟩ u):=V.o.W b8;have As:Hid (Six W u):=K.o.six;have Aj:Hid (NdV u v8 (⟨6,⟨#[]⟩,0⟩::(ls++(⟨7,⟨#[]⟩,2⟩::(⟨6,⟨#[]⟩,0⟩::([⟨2,⟨#[]⟩,0⟩]++(⟨6,⟨#[]⟩,0⟩::([⟨1,⟨#[43,32]⟩,0⟩]++rs)))))))):=n8;clear h8 n8 b8)
     | (go_at_call 60;refine((q2w ⟨7,⟨#[]⟩,2⟩ (f) Ah.o (by simp<;>omega))).mono ?_;rintro e g h7;obtain⟨v7,rfl,n7,b7⟩:=h7.val;have V:Hid (q0w W ⟨5,⟨#[]⟩,0⟩ g):=U.o.W b7;have Ar:Hid (Six W g):=V.o.six;have Ac:Hid (NdV g L (ls)):=Ab.o.W b7;have Ai:Hid (NdV g v7 (⟨7,⟨#[]⟩,2⟩::(⟨6,⟨#[]⟩,0⟩::([⟨2,⟨#[]⟩,0⟩]++(⟨6,⟨#[]⟩,0⟩::([⟨1,⟨#[43,32]⟩,0⟩]++rs)))))):=n7;clear h7 n7 b7)
     | (go_at_call 61;refine((q0u (d) J.o.bl Af.o (by simp<;>omega))).mono ?_;rintro e f h6;obtain⟨v6,rfl,n6,b6⟩:=h6.val;have U:Hid (q0w W ⟨5,⟨#[]⟩,0⟩ f):=J.o.W b6;have Aq:Hid (Six W f):=U.o.six;have Ab:Hid (NdV f L (ls)):=Aa.o.W b6;have Ah:Hid (NdV f v6 (⟨6,⟨#[]⟩,0⟩::([⟨2,⟨#[]⟩,0⟩]++(⟨6,⟨#[]⟩,0⟩::([⟨1,⟨#[43,32]⟩,0⟩]++rs))))):=n6;clear h6 n6 b6)
     | (go_at_call 61;refine((q0u (P) Am.o Ae.o (by simp<;>omega))).mono ?_;rintro e d h5;obtain⟨v5,rfl,n5,b5⟩:=h5.val;have J:Hid (q0w W ⟨5,⟨#[]⟩,0⟩ d):=S.o.W b5;have Ap:Hid (Six W d):=J.o.six;have Aa:Hid (NdV d L (ls)):=z.o.W b5;have Af:Hid (NdV d v5 (⟨6,⟨#[]⟩,0⟩::([⟨1,⟨#[43,32]⟩,0⟩]++rs))):=n5;clear h5 n5 b5)
     | (go_at_call 57;refine((q1f _ (B.drew)).mono fun _ _ h=>h.from Ag.o).mono ?_;rintro e P h4;obtain⟨v4,rfl,n4,p⟩:=h4.val;have S:Hid (q0w W ⟨5,⟨#[]⟩,0⟩ P):=I.o.W p;have Ao:Hid (Six W P):=S.o.six;have z:Hid (NdV P L (ls)):=y.o.W p;have Ae:Hid (NdV P v3 (rs)):=Ad.o.W p;have Am:Hid (NdV P v4 ([⟨1,⟨#[43,32]⟩,0⟩])):=n4;clear h4 n4 p))
  all_goals
   go_wp2;go_ret;exact Al.o
 ·simp only[show ¬(6:Int)=5 by decide,if_false];go_in;go_wp2_with fail;have A:=(show Hid (q0w W ⟨6,⟨#[]⟩,0⟩ (dcW W 6 ⟨#[]⟩ 0))from X.o);clear X;refine(Q.o _ A.o.b).mono ?_;rintro e w1 s;obtain⟨L,rfl,n1,b1⟩:=s.val;have G:Hid (q0w W ⟨6,⟨#[]⟩,0⟩ w1):=A.o.W b1;have Y:Hid (NdV w1 L ls):=n1;clear s n1 b1 A;go_wp2_with fail;refine(m.o _ G.o.b).mono ?_;rintro e w2⟨rfl,b2⟩;have H:Hid (q0w W ⟨6,⟨#[]⟩,0⟩ w2):=G.o.W b2;have Z:Hid (NdV w2 L ls):=Y.o.W b2;clear b2 G Y;go_wp2_with fail;refine(R.o _ H.o.b).mono ?_;rintro e B t;obtain⟨v3,rfl,n3,b3⟩:=t.val;have I:Hid (q0w W ⟨6,⟨#[]⟩,0⟩ B):=H.o.W b3;have y:Hid (NdV B L ls):=Z.o.W b3;have Ad:Hid (NdV B v3 rs):=n3;have An:Hid (Six W B):=I.o.six;have Au:Hid (Six W B.drew):=I.o.six;have Ag:Hid (Below B B B.drew):= Zb.drew;clear t n3 b3 H Z Q R m HN;go_wp2_with fail
  go_region_held3 (fun w'=>Six W w') (first|with_reducible exact Au.o|with_reducible exact An.o|with_reducible exact Ao.o|with_reducible exact Ap.o|with_reducible exact Aq.o|with_reducible exact Ar.o|with_reducible exact As.o|with_reducible exact At.o)
   (first
     | (go_at_call 60;refine((q2w ⟨8,⟨#[]⟩,0⟩ (u) Aj.o (by simp<;>omega))).mono ?_;rintro e w9 h9;have Al:Hid (NdR W (⟨8,⟨#[]⟩,0⟩::(⟨6,⟨#[]⟩,0⟩::(ls++(⟨7,⟨#[]⟩,2⟩::(⟨6,⟨#[]⟩,0⟩::([⟨2,⟨#[]⟩,0⟩]++(⟨6,⟨#[]⟩,0⟩::([⟨1,⟨#[42,32]⟩,0⟩]++rs)))))))) e w9):=h9.from K.o.b;obtain⟨v9,rfl,n9,b9⟩:=h9.val;have Ak:Hid (q0w W ⟨6,⟨#[]⟩,0⟩ w9):=K.o.W b9;have At:Hid (Six W w9):=Ak.o.six;clear h9 n9 b9)
     | (go_at_call 61;refine((q0u (g) Ac.o Ai.o (by simp<;>omega))).mono ?_;rintro e u h8;obtain⟨v8,rfl,n8,b8⟩:=h8.val;have K:Hid (q0w W ⟨6,⟨#[]⟩,0⟩ u):=V.o.W b8;have As:Hid (Six W u):=K.o.six;have Aj:Hid (NdV u v8 (⟨6,⟨#[]⟩,0⟩::(ls++(⟨7,⟨#[]⟩,2⟩::(⟨6,⟨#[]⟩,0⟩::([⟨2,⟨#[]⟩,0⟩]++(⟨6,⟨#[]⟩,0⟩::([⟨1,⟨#[42,32]⟩,0⟩]++rs)))))))):=n8;clear h8 n8 b8)
     | (go_at_call 60;refine((q2w ⟨7,⟨#[]⟩,2⟩ (f) Ah.o (by simp<;>omega))).mono ?_;rintro e g h7;obtain⟨v7,rfl,n7,b7⟩:=h7.val;have V:Hid (q0w W ⟨6,⟨#[]⟩,0⟩ g):=U.o.W b7;have Ar:Hid (Six W g):=V.o.six;have Ac:Hid (NdV g L (ls)):=Ab.o.W b7;have Ai:Hid (NdV g v7 (⟨7,⟨#[]⟩,2⟩::(⟨6,⟨#[]⟩,0⟩::([⟨2,⟨#[]⟩,0⟩]++(⟨6,⟨#[]⟩,0⟩::([⟨1,⟨#[42,32]⟩,0⟩]++rs)))))):=n7;clear h7 n7 b7)
     | (go_at_call 61;refine((q0u (d) J.o.bl Af.o (by simp<;>omega))).mono ?_;rintro e f h6;obtain⟨v6,rfl,n6,b6⟩:=h6.val;have U:Hid (q0w W ⟨6,⟨#[]⟩,0⟩ f):=J.o.W b6;have Aq:Hid (Six W f):=U.o.six;have Ab:Hid (NdV f L (ls)):=Aa.o.W b6;have Ah:Hid (NdV f v6 (⟨6,⟨#[]⟩,0⟩::([⟨2,⟨#[]⟩,0⟩]++(⟨6,⟨#[]⟩,0⟩::([⟨1,⟨#[42,32]⟩,0⟩]++rs))))):=n6;clear h6 n6 b6)
     | (go_at_call 61;refine((q0u (P) Am.o Ae.o (by simp<;>omega))).mono ?_;rintro e d h5;obtain⟨v5,rfl,n5,b5⟩:=h5.val;have J:Hid (q0w W ⟨6,⟨#[]⟩,0⟩ d):=S.o.W b5;have Ap:Hid (Six W d):=J.o.six;have Aa:Hid (NdV d L (ls)):=z.o.W b5;have Af:Hid (NdV d v5 (⟨6,⟨#[]⟩,0⟩::([⟨1,⟨#[42,32]⟩,0⟩]++rs))):=n5;clear h5 n5 b5)
     | (go_at_call 57;refine((q1f _ (B.drew)).mono fun _ _ h=>h.from Ag.o).mono ?_;rintro e P h4;obtain⟨v4,rfl,n4,p⟩:=h4.val;have S:Hid (q0w W ⟨6,⟨#[]⟩,0⟩ P):=I.o.W p;have Ao:Hid (Six W P):=S.o.six;have z:Hid (NdV P L (ls)):=y.o.W p;have Ae:Hid (NdV P v3 (rs)):=Ad.o.W p;have Am:Hid (NdV P v4 ([⟨1,⟨#[42,32]⟩,0⟩])):=n4;clear h4 n4 p))
  all_goals
   go_wp2;go_ret;exact Al.o
theorem j4x(ds:List Nd)(a:Option Addr)(cap:Nat)(hc:ds.length<=cap)(w:World)(hN:q2e w a ds):
  Calls prog 194 #[.slice a ds.length cap] w fun e w'=>e=.returned (.tuple #[.int .i64 (flS ds).size,.bool (flB ds),q1m (q2x ds)])/\Below w w w':=by
 have D:Hid (q2e w a ds):=hN;clear hN;generalize C:flS ds=s;generalize A:flB ds=b;generalize B:q1m (q2x ds)=v;have H:Hid (flS ds=s/\flB ds=b/\q1m (q2x ds)=v):=⟨C,A,B⟩;clear C A B;go_in;go_wp2_with fail;refine(v3j ds a cap hc _ D.o).mono ?_;rintro e G⟨rfl,E⟩;rw[H.o.1,H.o.2.1,H.o.2.2];go_wp2;go_ret3;exact⟨rfl,E⟩
theorem j3b(ds:List Nd)(t:Tr)(hd:ds=t.N)(ht:t.Wf)(hl:ds.length<=400)(a:Option Addr)(cap:Nat)(hc:ds.length<=cap)(w:World)(hN:q2e w a ds):
  Calls prog 162 #[.slice a ds.length cap] w fun e w'=>e=.returned (.int .i64 (lgF t.flat))/\Below w w w':=by
 obtain⟨E,G,H⟩:=j4t ht hd hl;have A:=j4x ds a cap hc w hN;rw[E,G,H,q0n]at A;cases C:t.flat with
 | none=>
  have B:t.isFlat=false:=by simp[Tr.isFlat,C]
  rw[B]at A;have D:Hid (Calls prog 194 #[.slice a ds.length cap] w fun e w'=>e=.returned (.tuple #[.int .i64 t.line.size,.bool false,.nilIface])/\Below w w w'):=A;clear A hN E G H B hd C;rw[lgF];go_in;go_wp2_with fail;refine D.o.mono ?_;rintro e K⟨rfl,I⟩;go_wp2;go_ret;exact⟨rfl,I⟩
 | some s=>
  have B:t.isFlat=true:=by simp[Tr.isFlat,C]
  have J:t.line.size=s.length:=by rw[k2d,C];rfl
  rw[B,J]at A;have D:Hid (Calls prog 194 #[.slice a ds.length cap] w fun e w'=>e=.returned (.tuple #[.int .i64 s.length,.bool true,.nilIface])/\Below w w w'):=A;clear A hN E G H B J hd C;rw[lgF];go_in;go_wp2_with fail;refine D.o.mono ?_;rintro e K⟨rfl,I⟩;go_wp2;go_ret;exact⟨rfl,I⟩
theorem y4u.pr{g n j:Nat}{F:Nat->Q}{x y:Int}{w w':World}(h:y4u g (j*7+4) (j*7+5) (.int .i64 x) (.int .i64 y) w w')(hp:PwR w g n F)(hj:j<n):PwR w' g n (upd F j {F j with nx:=x,dp:=y}):=by
 have A:=(hp.putNx hj x).putDp hj y;rw[k0f,q0l]at A;exact A.kept (by rw[h.2.2.2])
theorem y4u.belX{g a b:Nat}{e f:Value}{w w':World}(h:y4u g a b e f w w')(B:Nat):q0p B g w w':=
 ⟨h.1,h.2.1,h.2.2.1,by rw[h.2.2.2];simp[World.setCell],fun k _ hk=>by rw[h.2.2.2,Below.heap_setCell _ _ _ _ hk,Below.heap_setCell _ _ _ _ hk]⟩
theorem q9n(bp g n i:Nat)(x y:Int)(F:Nat->Q)(w:World)(hi:i<n)(c0:w.cell? ⟨bp,0,none⟩=some (.slice (some ⟨g,0,none⟩) n n))(hp:PwR w g n F):
  Calls prog 193 #[.pointer (some ⟨bp,0,none⟩),.int .i64 i,.int .i64 x,.int .i64 y] w fun e w'=>e=.returned (.tuple #[])/\PwR w' g n (upd F i {F i with nx:=x,dp:=y})/\q0p w g w w':=by
 have k:=hp.get i hi;refine(j3k bp g n i x y w (by omega) c0 _ _ k.c4 k.c5 hp.row.frozen hp.row.frozen).mono ?_;rintro e A⟨rfl,h⟩;exact⟨rfl,h.pr hp hi,h.belX _⟩
theorem v2o(bp g n i:Nat)(F:Nat->Q)(w:World)(hi:i<n)(c0:w.cell? ⟨bp,0,none⟩=some (.slice (some ⟨g,0,none⟩) n n))(hp:PwR w g n F)
  (h6:((F i).op==6)=false) (h9:((F i).op==9)=false) (h7:((F i).op==7)=false) (h8:((F i).op==8)=false):
  Calls prog 161 #[.pointer (some ⟨bp,0,none⟩),.int .i64 i] w fun e w'=>e=.returned (.tuple #[])/\PwR w' g n F/\q0p w g w w':=by
 obtain⟨E,G,H,I,J,K,L⟩:=hp.get i hi;have C:(i:Int)<n:=by omega
 have D:(0:Int)<=(i:Int):=by omega
 have A:Hid (PwR w g n F):=hp;clear hp hi;generalize F i=q at *;go_in;go_wp2
 go_end0
 have B:Below w w (w.alloc (.cells #[.int .i64 q.op,.string q.tx,.int .i64 q.n,.int .i64 q.en,.int .i64 q.nx,.int .i64 q.dp,.int .i64 q.lg] 222)):= Zb.alloc Zl _;exact⟨rfl,A.o.kept (B.block g A.o.row.lt),q0p.of B⟩
abbrev q5e(q:Q):Obj:=.cells #[.int .i64 q.op,.string q.tx,.int .i64 q.n,.int .i64 q.en,.int .i64 q.nx,.int .i64 q.dp,.int .i64 q.lg] 222
theorem y0t(bp g n i:Nat)(F:Nat->Q)(w:World)(hn:n<=400)(B:i+1<n)(c0:w.cell? ⟨bp,0,none⟩=some (.slice (some ⟨g,0,none⟩) n n))(hp:PwR w g n F)
  (E:(F i).op=7\/(F i).op=8) (x:Int) (hx:IntKind.i64.wrap ((F i).dp+(F i).n)=x):
  Calls prog 161 #[.pointer (some ⟨bp,0,none⟩),.int .i64 i] w fun e w'=>e=.returned (.tuple #[])/\PwR w' g n (upd F (i+1) {F (i+1)with nx:=(F i).nx,dp:=x})/\q0p w g w w':=by
 obtain⟨I,N,O,P,R,S,U⟩:=hp.get i (by omega);have C:(i:Int)<n:=by omega
 have K:(0:Int)<=(i:Int):=by omega
 have L:=z5o hn C;have G:Hid (PwR w g n F):=hp;have H:Hid (w.cell? ⟨bp,0,none⟩=some (.slice (some ⟨g,0,none⟩) n n)):=c0;have M:Hid (∃q,F i=q):=⟨_,rfl⟩;clear hp;generalize F i=q at *;have D:g<w.heap.size:=G.o.row.lt;rcases E with e|e
 all_goals
  rw[e]at I;go_in;go_wp2_with fail;refine(q9n bp g n (i+1) q.nx x F _ B (ka H.o _) (G.o.kept (Below.heap_alloc _ _ _ D))).mono ?_;rintro e V⟨rfl,J,A⟩;go_wp2
  go_end0
  exact⟨rfl,J,(q0p.of ((Below.refl _ w).alloc Zl _)).trans (A.mono (by simp))⟩
theorem y0u(bp g n i j:Nat)(F:Nat->Q)(w:World)(hn:n<=400)(E:i+1<n)(hj:j<n)(K:bp≠g)(c0:w.cell? ⟨bp,0,none⟩=some (.slice (some ⟨g,0,none⟩) n n))(hp:PwR w g n F)
  (G:(F i).op=6) (B:(F (i+1)).en=(j:Int)):
  Calls prog 161 #[.pointer (some ⟨bp,0,none⟩),.int .i64 i] w fun e w'=>e=.returned (.tuple #[])/\PwR w' g n (upd (upd F (i+1) {F (i+1)with nx:=j,dp:=(F i).dp}) j {upd F (i+1) {F (i+1)with nx:=j,dp:=(F i).dp} j with nx:=(F i).nx,dp:=(F i).dp})/\q0p w g w w':=by
 obtain⟨W,l,m,o,r,s,t⟩:=hp.get i (by omega);have N:=(hp.get (i+1) E).c3;rw[B]at N;have L:(i:Int)<n:=by omega
 have S:(i:Int)+1<n:=by omega
 have Y:(0:Int)<=(i:Int):=by omega
 have Z:(0:Int)<=(i:Int)+1:=by omega
 have a:((i:Int)+1).toNat=i+1:=by omega
 have b:=z5o hn L;have P:Hid (PwR w g n F):=hp;have M:g<w.heap.size:=P.o.row.lt;have U:bp<w.heap.size:=World.block_lt_of_cell? w ⟨bp,0,none⟩ c0;have d:Hid (w.cell? ⟨bp,0,none⟩=some (.slice (some ⟨g,0,none⟩) n n)):=c0;have c:∀O,(w.alloc O).cell? ⟨g,(i+1)*7+3,none⟩=some (.int .i64 (j:Int)):=fun O=>ka N O
 have D:∀O,(w.alloc O).cell? ⟨bp,0,none⟩=some (.slice (some ⟨g,0,none⟩) n n):=fun O=>ka c0 O
 rw[G]at W;have f:Hid ((F (i+1)).en=(j:Int)):=B;clear hp B N G;generalize F i=q at *;go_in;go_wp2_with fail;refine(q9n bp g n (i+1) j q.dp F _ E (D _) (P.o.kept (Below.heap_alloc _ _ _ M))).mono ?_;rintro e H⟨rfl,R,A⟩;have h:H.cell? ⟨w,4,none⟩=some (.int .i64 q.nx):=(A.cell (p:=⟨w,4,none⟩) (by simp) (by simp;omega)).trans (by simp[go_sem]);have k:H.cell? ⟨w,5,none⟩=some (.int .i64 q.dp):=(A.cell (p:=⟨w,5,none⟩) (by simp) (by simp;omega)).trans (by simp[go_sem]);have V:H.cell? ⟨bp,0,none⟩=some (.slice (some ⟨g,0,none⟩) n n):=(A.cell (p:=⟨bp,0,none⟩) (by simp;omega) K).trans (D _);have I:Hid (PwR H g n (upd F (i+1) {F (i+1)with nx:=j,dp:=q.dp})):=R;have C:Hid (q0p w g w H):=(q0p.of ((Below.refl _ w).alloc Zl _)).trans (A.mono (by simp));clear R A;go_wp2_with fail;refine(q9n bp g n j q.nx q.dp _ _ hj V I.o).mono ?_;rintro e u⟨rfl,X,J⟩;go_wp2
 go_end0
 exact⟨rfl,X,C.o.trans (J.mono C.o.size)⟩
theorem v2p(bp g n i j:Nat)(F:Nat->Q)(w:World)(hn:n<=400)(E:i+1<n)(hj:j<n)(I:bp≠g)(c0:w.cell? ⟨bp,0,none⟩=some (.slice (some ⟨g,0,none⟩) n n))(hp:PwR w g n F)
  (K:(F i).op=9) (J:(F (i+1)).en=(j:Int)):
  Calls prog 161 #[.pointer (some ⟨bp,0,none⟩),.int .i64 i] w fun e w'=>e=.returned (.tuple #[])/\PwR w' g n (upd (upd F (i+1) {F (i+1)with nx:=(F i).nx,dp:=(F i).dp}) j {upd F (i+1) {F (i+1)with nx:=(F i).nx,dp:=(F i).dp} j with nx:=(F i).nx,dp:=(F i).dp})/\q0p w g w w':=by
 obtain⟨k,t,u,v,x,y,z⟩:=hp.get i (by omega);have W:(i:Int)<n:=by omega
 have d:(i:Int)+1<n:=by omega
 have l:(0:Int)<=(i:Int):=by omega
 have m:(0:Int)<=(i:Int)+1:=by omega
 have o:((i:Int)+1).toNat=i+1:=by omega
 have r:=z5o hn W;have Z:Hid (PwR w g n F):=hp;have X:g<w.heap.size:=Z.o.row.lt;have f:bp<w.heap.size:=World.block_lt_of_cell? w ⟨bp,0,none⟩ c0;have H:∀O,(w.alloc O).cell? ⟨bp,0,none⟩=some (.slice (some ⟨g,0,none⟩) n n):=fun O=>ka c0 O
 rw[K]at k;have Y:Hid ((F (i+1)).en=(j:Int)):=J;clear hp J K;generalize F i=q at *;go_in;go_wp2_with fail;refine(q9n bp g n (i+1) q.nx q.dp F _ E (H _) (Z.o.kept (Below.heap_alloc _ _ _ X))).mono ?_;rintro e B⟨rfl,P,C⟩;have a:B.cell? ⟨w,4,none⟩=some (.int .i64 q.nx):=(C.cell (p:=⟨w,4,none⟩) (by simp) (by simp;omega)).trans (by simp[go_sem]);have b:B.cell? ⟨w,5,none⟩=some (.int .i64 q.dp):=(C.cell (p:=⟨w,5,none⟩) (by simp) (by simp;omega)).trans (by simp[go_sem]);have N:B.cell? ⟨bp,0,none⟩=some (.slice (some ⟨g,0,none⟩) n n):=(C.cell (p:=⟨bp,0,none⟩) (by simp;omega) I).trans (H _)
 have s:B.cell? ⟨g,(i+1)*7+3,none⟩=some (.int .i64 (j:Int)):=by
  have:=(P.get (i+1) E).c3
  rw[q0l]at this;rw[<-Y.o];exact this
 have M:Hid (PwR B g n (upd F (i+1) {F (i+1)with nx:=q.nx,dp:=q.dp})):=P;have G:Hid (q0p w g w B):=(q0p.of ((Below.refl _ w).alloc Zl _)).trans (C.mono (by simp));have L:w.heap.size<B.heap.size:=by have:=C.size;simp at this;omega
 have V:∀A,q0p B.drew.heap.size g B.drew A->A.cell? ⟨bp,0,none⟩=some (.slice (some ⟨g,0,none⟩) n n):=fun A h=>(h.cell (p:=⟨bp,0,none⟩) (by simp;omega) I).trans N
 have S:∀A,q0p B.drew.heap.size g B.drew A->A.cell? ⟨w,4,none⟩=some (.int .i64 q.nx):=fun A h=>(h.cell (p:=⟨w,4,none⟩) L (by simp;omega)).trans a
 have U:∀A,q0p B.drew.heap.size g B.drew A->A.cell? ⟨w,5,none⟩=some (.int .i64 q.dp):=fun A h=>(h.cell (p:=⟨w,5,none⟩) L (by simp;omega)).trans b
 have R:∀A,PwR A g n (upd (upd F (i+1) {F (i+1)with nx:=q.nx,dp:=q.dp}) j {upd F (i+1) {F (i+1)with nx:=q.nx,dp:=q.dp} j with nx:=q.nx,dp:=q.dp})->A.cell? ⟨g,(i+1)*7+3,none⟩=some (.int .i64 (j:Int)):=fun A h=>by
  have:=(h.get (i+1) E).c3
  rw[<-Y.o];by_cases e:i+1=j
  ·subst e;rw[q0l,q0l]at this;exact this
  ·rw[q1b e,q0l]at this;exact this
 clear P C;go_wp2_with fail
 go_region_held3 (fun w'=>w'.cell? ⟨bp,0,none⟩=some (.slice (some ⟨g,0,none⟩) n n)/\w'.cell? ⟨g,(i+1)*7+3,none⟩=some (.int .i64 (j:Int))/\w'.cell? ⟨w,4,none⟩=some (.int .i64 q.nx)/\w'.cell? ⟨w,5,none⟩=some (.int .i64 q.dp))
  (first|exact⟨N,s,a,b⟩|exact⟨V _ D,R _ c,S _ D,U _ D⟩) ((go_at_call 193;refine(q9n bp g n j q.nx q.dp _ B.drew hj N (M.o.kept rfl)).mono ?_;rintro e A⟨rfl,c,D⟩))
 all_goals
  go_wp2
  go_end0
  exact⟨rfl,c,G.o.drew.trans (D.mono G.o.size)⟩
end Go.Proofs.YtfdppahhbpfnoaaGreatDoor
