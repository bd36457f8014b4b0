import Derived.Test.YtfdppahhbpfnoaaGreatDoorPb08
import Derived.Deep.RegionHeld3
open Go.Proofs.Tryz
namespace Go.Proofs.YtfdppahhbpfnoaaGreatDoor
open Go Go.RowKit
abbrev wdD(s:List UInt8):Tr:=.leaf ⟨1,wbS s,0⟩
abbrev blD:Tr:=.leaf ⟨2,⟨#[]⟩,0⟩
abbrev sfD:Tr:=.leaf ⟨3,⟨#[]⟩,0⟩
abbrev twD(a b:Tr):Tr:=.two ⟨6,⟨#[]⟩,0⟩ a b
abbrev dpD(a:Tr):Tr:=.one ⟨7,⟨#[]⟩,2⟩ a
abbrev grD(a:Tr):Tr:=.one ⟨8,⟨#[]⟩,0⟩ a
def inD(l:Nat)(x:Td)(d:Tr):Tr:=if prc x<l then twD (wdD [40]) (twD d (wdD [41]))else d
def kdD:List (Td × Tr)->Tr
 | []=>wdD []
 | p::r=>match r with
  | []=>p.2
  | _::_=>twD (twD p.2 (wdD [44])) (twD blD (kdD r))
def tw2(f:Td->Tr->Td->Tr->Tr):List (Td × Tr)->Tr
 | [a,b]=>f a.1 a.2 b.1 b.2
 | _=>wdD []
def q1g(op cl:List UInt8)(ks:List (Td × Tr)):Tr:=if ks.length=0 then wdD (op++cl)else grD (twD (wdD op) (twD (dpD (twD sfD (kdD ks))) (twD sfD (wdD cl))))
def q0g(x:Td)(ks:List (Td × Tr)):Tr:=
 if x.op=1 then wdD (q2n x.n.toNat)
 else if x.op=2 then wdD (btL x.tx)
 else if x.op=3 then q1g (btL x.tx++[40]) [41] ks
 else if x.op=4 then q1g [91] [93] ks
 else if x.op=5 then tw2 (fun x a y b=>grD (twD (inD 0 x a) (dpD (twD blD (twD (wdD [43,32]) (inD 1 y b)))))) ks
 else tw2 (fun x a y b=>grD (twD (inD 1 x a) (dpD (twD blD (twD (wdD [42,32]) (inD 2 y b)))))) ks
def Fo.D:Fo->List (Td × Tr)
 | .nil=>[]
 | .cons x k n=>(x,q0g x k.D)::n.D
theorem q3i:∀F:Fo,F.D.length=F.len
 | .nil=>rfl
 | .cons _ _ n=>by simp[Fo.D,Fo.len,q3i n]
def stD(x:Td)(d:Tr):Tr:=
 if x.op=7 then grD (twD (wdD ([108,101,116,32]++btL x.tx++[32,61])) (dpD (twD blD (twD d (wdD [59])))))else twD d (wdD [59])
theorem z3u(s:List UInt8):(wdD s).flat=some s:=rfl
theorem q5o{a b:Tr}{s t:List UInt8}(ha:a.flat=some s)(hb:b.flat=some t):(twD a b).flat=some (s++t):=by
 simp only[Tr.flat,if_true,ha,hb]
theorem v3g(a:Tr):(dpD a).flat=a.flat:=rfl
theorem v3h(a:Tr):(grD a).flat=a.flat:=rfl
theorem v3f:blD.flat=some [32]:=rfl
theorem y6a:sfD.flat=some []:=rfl
def Mt(p:Td × Tr)(t:Tn):Prop:=p.1=t.x/\p.2.flat=some t.tx
theorem v3i{p:Td × Tr}{t:Tn}(h:Mt p t)(l:Nat):(inD l p.1 p.2).flat=some (brx l t):=by
 unfold inD brx;rw[h.1]
 split
 ·rw[q5o (z3u _) (q5o h.2 (z3u _))];rfl
 ·exact h.2
inductive Mts:List (Td × Tr)->List Tn->Prop where
 | nil:Mts [] []
 | cons {p t ps ts}:Mt p t->Mts ps ts->Mts (p::ps) (t::ts)
theorem y5y:∀{ps:List (Td × Tr)}{ts:List Tn},Mts ps ts->ps≠[]->(kdD ps).flat=some (cmx ts)
 | _,_,.cons h .nil,_=>by simp only[kdD,cmx,List.append_nil];exact h.2
 | _,_,.cons (ps:=p::ps) (ts:=t::ts) h (.cons h2 h3),_=>by
  have ih:=y5y (Mts.cons h2 h3) (by simp)
  show(twD (twD _ (wdD [44])) (twD blD (kdD (p::ps)))).flat=_
  rw[q5o (q5o h.2 (z3u _)) (q5o v3f ih)];simp[cmx]
theorem j4s{ps:List (Td × Tr)}{ts:List Tn}(h:Mts ps ts)(op cl:List UInt8):(q1g op cl ps).flat=some (op++cmx ts++cl):=by
 unfold q1g
 split
 ·rename_i h0;cases h with
  | nil=>rw[z3u];simp[cmx]
  | cons=>simp at h0
 ·rename_i h0;have A:ps≠[]:=fun e=>h0 (by rw[e];rfl)
  rw[v3h,q5o (z3u _) (q5o (by rw[v3g];exact q5o y6a (y5y h A)) (q5o y6a (z3u _)))];simp
theorem y5z{x:Td}{ps:List (Td × Tr)}{ts:List Tn}(h:Mts ps ts)(hx:exN x)(hk:ps.length=kdT x):(q0g x ps).flat=some (q3r x ts):=by
 have E:kdT x=2->∃a b c d,ps=[a,b]/\ts=[c,d]/\Mt a c/\Mt b d:=fun e=>by
  rw[e]at hk;cases h with
  | nil=>simp at hk
  | cons h1 B=>cases B with
   | nil=>simp at hk
   | cons C D=>cases D with
    | nil=>exact⟨_,_,_,_,rfl,rfl,h1,C⟩
    | cons=>simp at hk
 rcases q1l hx with⟨A,_⟩|⟨A,_⟩|⟨A,_⟩|⟨A,_⟩|⟨A,_,_,B⟩|⟨A,_,_,B⟩
 ·rw[show q0g x ps=wdD (q2n x.n.toNat) by simp[q0g,A],show q3r x ts=q2n x.n.toNat by simp[q3r,A]];rfl
 ·rw[show q0g x ps=wdD (btL x.tx) by simp[q0g,A],show q3r x ts=btL x.tx by simp[q3r,A]];rfl
 ·rw[show q0g x ps=q1g (btL x.tx++[40]) [41] ps by simp[q0g,A],show q3r x ts=btL x.tx++40::(cmx ts++[41]) by simp[q3r,A],j4s h];simp
 ·rw[show q0g x ps=q1g [91] [93] ps by simp[q0g,A],show q3r x ts=91::(cmx ts++[93]) by simp[q3r,A],j4s h];simp
 ·obtain⟨a,b,c,d,rfl,rfl,C,D⟩:=E B;rw[show q0g x [a,b]=grD (twD (inD 0 a.1 a.2) (dpD (twD blD (twD (wdD [43,32]) (inD 1 b.1 b.2))))) by simp[q0g,tw2,A],show q3r x [c,d]=brx 0 c++32::43::32::brx 1 d by simp[q3r,two2,A]];rw[v3h,q5o (v3i C 0) (by rw[v3g];exact q5o v3f (q5o (z3u _) (v3i D 1)))];rfl
 ·obtain⟨a,b,c,d,rfl,rfl,C,D⟩:=E B;rw[show q0g x [a,b]=grD (twD (inD 1 a.1 a.2) (dpD (twD blD (twD (wdD [42,32]) (inD 2 b.1 b.2))))) by simp[q0g,tw2,A],show q3r x [c,d]=brx 1 c++32::42::32::brx 2 d by simp[q3r,two2,A]];rw[v3h,q5o (v3i C 1) (by rw[v3g];exact q5o v3f (q5o (z3u _) (v3i D 2)))];rfl
theorem z2w:∀F:Fo,F.ok->F.exs->Mts F.D F.R
 | .nil,_,_=>.nil
 | .cons x k n,hok,hex=>by
  have h1:=z2w k hok.2.1 fun y hy=>hex y (by simp[Fo.N,hy])
  have h2:=z2w n hok.2.2 fun y hy=>hex y (by simp[Fo.N,hy])
  exact .cons ⟨rfl,y5z h1 (hex x (by simp[Fo.N])) (by rw[q3i];exact hok.1)⟩ h2
def dnB(c:UInt8):Bool:=c != 32&&c != 10
def Tr.noE:Tr->Prop
 | .leaf x=>x.op≠4
 | .one _ a=>a.noE
 | .two x a b=>x.op=6/\a.noE/\b.noE
theorem q7k:∀(t:Tr)(s:List UInt8),t.noE->t.Wf->t.flat=some s->∀(deep:Nat)(ws ws':List Int)(r:List UInt8),t.lay deep ws=.ok (r,ws')->r.filter dnB=s.filter dnB
 | .leaf x,s,hn,hw,hf,deep,ws,ws',r,h=>by
  simp only[Tr.flat]at hf;simp only[Tr.lay]at h
  have hrep:(10::List.replicate deep (32:UInt8)).filter dnB=[]:=by
   rw[List.filter_eq_nil_iff];intro c D;rcases List.mem_cons.1 D with rfl|D
   ·decide
   ·rw[List.eq_of_mem_replicate D];decide
  split at hf
  ·rename_i h1;rw[if_pos h1]at h;cases hf;cases h;rfl
  ·rename_i h1;rw[if_neg h1]at h
   split at hf
   ·rename_i h2;rw[if_neg (by omega)]at h;cases hf;cases h;rw[hrep];rfl
   ·split at hf
    ·cases hf
    ·cases hf
     split at h
     ·cases h;rfl
     ·cases h;rw[hrep];rfl
 | .one x a,s,hn,hw,hf,deep,ws,ws',r,h=>by
  have A:a.flat=some s:=hf;simp only[Tr.lay]at h
  split at h
  ·exact q7k a s hn hw.2.2 A _ _ _ _ h
  ·cases ws with
   | nil=>cases h
   | cons c ws=>
    simp only at h
    split at h
    ·exact q7k a s hn hw.2.2 A _ _ _ _ h
    ·rw[A]at h;cases h;rfl
 | .two x a b,s,hn,hw,hf,deep,ws,ws',r,h=>by
  obtain⟨I,J,K⟩:=hn;simp only[Tr.flat,if_pos I]at hf;simp only[Tr.lay,if_pos I]at h;cases B:a.flat with
  | none=>rw[B]at hf;cases hf
  | some s1=>
   cases C:b.flat with
   | none=>rw[B,C]at hf;cases hf
   | some s2=>
    rw[B,C]at hf;cases hf;cases E:a.lay deep ws with
    | error e=>rw[E]at h;cases h
    | ok p=>
     obtain⟨M,H⟩:=p;rw[E]at h;simp only at h;cases G:b.lay deep H with
     | error e=>rw[G]at h;cases h
     | ok p2=>
      obtain⟨N,L⟩:=p2;rw[G]at h;cases h;rw[List.filter_append,List.filter_append,q7k a s1 J hw.2.2.1 B _ _ _ _ E,q7k b s2 K hw.2.2.2 C _ _ _ _ G]
set_option maxRecDepth 100000
set_option maxHeartbeats 4000000
theorem y2q(tx:ByteArray)(n:Int)(ht:tx.size<=20):k0i (⟨1,tx,n⟩::[]) (tx.data.toList) (false):=by
 intro B b s ds N a V l k w g L I J f d E hl;generalize M:[]++N=r;have u:Hid ([]++N=r):=M;have v:Hid (r.length=([]:List Nd).length+N.length):=(show _=_ by rw[<-M,List.length_append]);obtain rfl:ds=⟨1,tx,n⟩::r:=by rw[g,<-M];rfl
 clear g M;obtain⟨m,ea,c1,c2,c3⟩:=L 0 (by simp);subst ea;simp only[List.length_cons]at f hl⊢;have S:Hid (q0z s w (some ⟨s,m+3,none⟩) r):=L.rest
 have D:Hid (V=1->q0z s w (some ⟨s,m,none⟩) r):=fun h=>by
  have c:=L.slid f;rw[if_pos h]at c;exact c
 have x:Hid (Ln B b l k w):=d;simp only[Nat.zero_mul,Nat.add_zero,List.getElem_cons_zero]at c1 c2 c3;have Aa:s<w.heap.size:=by omega
 have Ab:(1:Int)<=(r.length:Int)+1:=by omega
 have K:Hid (∀O:Obj,q0p B b w (w.alloc O).drew):=fun O=>q0p.drew ((q0p.refl B b w).alloc E O)
 have o:Hid (∀O:Obj,Lib.OthersKept 5 (some b) w (w.alloc O).drew):=fun O=>((Lib.OthersKept.refl _ _ w).alloc O).drew
 have A:Hid (s<B/\s≠b):=⟨I,J⟩;clear L d I J;go_in
 go_upto_region 1 with fail
 go_cut [0,1,5,6] (fun t _ p q wx=>k4a B b s w.heap.size ⟨1,tx,n⟩ r l k w t p q wx)
 case first=>
  go_region
  all_goals (go_wp2_with fail)
  all_goals
   go_meet
   refine⟨rfl,rfl,⟨_,_,rfl,?_,by omega⟩,by simp[go_sem],by simp[go_sem],by simp[go_sem],IsX.drew (IsX.alloc x.o _),K.o _,o.o _⟩
   first
    | exact S.o.kept ((K.o _).block s A.o.1 A.o.2)
    | exact(D.o (by assumption)).kept ((K.o _).block s A.o.1 A.o.2)
    | exact(D.o rfl).kept ((K.o _).block s A.o.1 A.o.2)
 case rest=>
  obtain⟨rfl,rfl,⟨y,Z,rfl,i,X⟩,e1,e2,e3,j,C,H⟩:=hcut;dsimp only at e1 e2 e3;have R:Hid (q0z s wc y r):=i;have U:Hid (Ln B b l k wc):=j;have P:Hid (q0p B b w wc):=C;have Q:Hid (Lib.OthersKept 5 (some b) w wc):=H;have W:B<=wc.heap.size:=Nat.le_trans E C.size;clear i j C H;go_wp2_with fail
  go_region_with (go_at_call 38;refine(g1w (w:=wc.drew) U.o W tx (by omega)).mono ?_;rintro e w2⟨⟨z,rfl⟩,h2,G,Y⟩)
  all_goals
   go_wp2;go_ret;obtain rfl:N=r:=u.o;rw[Bool.or_false];exact⟨⟨_,_,rfl,q0z.kept (w:=wc.drew) R.o (G.block s A.o.1 A.o.2),X⟩,h2,P.o.drew.trans G,Q.o.drew.trans Y⟩
theorem y2r(tx:ByteArray)(n:Int):k0i (⟨2,tx,n⟩::[]) ([32]) (false):=by
 intro B b s ds N a V l k w g L I J f d E hl;generalize M:[]++N=r;have u:Hid ([]++N=r):=M;have v:Hid (r.length=([]:List Nd).length+N.length):=(show _=_ by rw[<-M,List.length_append]);obtain rfl:ds=⟨2,tx,n⟩::r:=by rw[g,<-M];rfl
 clear g M;obtain⟨m,ea,z,c2,c3⟩:=L 0 (by simp);subst ea;simp only[List.length_cons]at f hl⊢;have S:Hid (q0z s w (some ⟨s,m+3,none⟩) r):=L.rest
 have D:Hid (V=1->q0z s w (some ⟨s,m,none⟩) r):=fun h=>by
  have c:=L.slid f;rw[if_pos h]at c;exact c
 have x:Hid (Ln B b l k w):=d;simp only[Nat.zero_mul,Nat.add_zero,List.getElem_cons_zero]at z c2 c3;have Aa:s<w.heap.size:=by omega
 have Ab:(1:Int)<=(r.length:Int)+1:=by omega
 have K:Hid (∀O:Obj,q0p B b w (w.alloc O).drew):=fun O=>q0p.drew ((q0p.refl B b w).alloc E O)
 have o:Hid (∀O:Obj,Lib.OthersKept 5 (some b) w (w.alloc O).drew):=fun O=>((Lib.OthersKept.refl _ _ w).alloc O).drew
 have A:Hid (s<B/\s≠b):=⟨I,J⟩;clear L d I J;go_in
 go_upto_region 1 with fail
 go_cut [0,1,5,6] (fun t _ p q wx=>k4a B b s w.heap.size ⟨2,tx,n⟩ r l k w t p q wx)
 case first=>
  go_region
  all_goals (go_wp2_with fail)
  all_goals
   go_meet
   refine⟨rfl,rfl,⟨_,_,rfl,?_,by omega⟩,by simp[go_sem],by simp[go_sem],by simp[go_sem],IsX.drew (IsX.alloc x.o _),K.o _,o.o _⟩
   first
    | exact S.o.kept ((K.o _).block s A.o.1 A.o.2)
    | exact(D.o (by assumption)).kept ((K.o _).block s A.o.1 A.o.2)
    | exact(D.o rfl).kept ((K.o _).block s A.o.1 A.o.2)
 case rest=>
  obtain⟨rfl,rfl,⟨y,Z,rfl,i,X⟩,e1,e2,e3,j,C,H⟩:=hcut;dsimp only at e1 e2 e3;have R:Hid (q0z s wc y r):=i;have U:Hid (Ln B b l k wc):=j;have P:Hid (q0p B b w wc):=C;have Q:Hid (Lib.OthersKept 5 (some b) w wc):=H;have W:B<=wc.heap.size:=Nat.le_trans E C.size;clear i j C H;go_wp2_with fail;refine(g0k U.o W 32 32 rfl (by omega)).mono ?_;rintro e w2⟨rfl,h2,G,Y⟩;go_wp2;go_ret;obtain rfl:N=r:=u.o;rw[Bool.or_false];exact⟨⟨_,_,rfl,R.o.kept (G.block s A.o.1 A.o.2),X⟩,h2,P.o.trans G,Q.o.trans Y⟩
set_option maxHeartbeats 8000000
theorem k8f(k:Nat){o:Int}(hk:k=0/\o=3\/k=1/\o=5)(tx:ByteArray)(n:Int):k0i (⟨o,tx,n⟩::[]) ([]) (false):=by
 have g:Tag k:=.mk;rcases hk with⟨rfl,rfl⟩|⟨rfl,rfl⟩
 all_goals
  intro B b s ds M a U l k w c K H I Z Y E hl;generalize L:[]++M=r;have j:Hid ([]++M=r):=L;have m:Hid (r.length=([]:List Nd).length+M.length):=(show _=_ by rw[<-L,List.length_append]);obtain rfl:ds=⟨↑(sel g (3:Int) 5),tx,n⟩::r:=by rw[c,<-L];rfl
  clear c L;obtain⟨f,ea,x,y,z⟩:=K 0 (by simp);subst ea;simp only[List.length_cons]at Z hl⊢;have R:Hid (q0z s w (some ⟨s,f+3,none⟩) r):=K.rest
  have D:Hid (U=1->q0z s w (some ⟨s,f,none⟩) r):=fun h=>by
   have X:=K.slid Z;rw[if_pos h]at X;exact X
  have u:Hid (Ln B b l k w):=Y;simp only[Nat.zero_mul,Nat.add_zero,List.getElem_cons_zero]at x y z;have Ab:s<w.heap.size:=by omega
  have Ac:(1:Int)<=(r.length:Int)+1:=by omega
  have J:Hid (∀O:Obj,q0p B b w (w.alloc O).drew):=fun O=>q0p.drew ((q0p.refl B b w).alloc E O)
  have i:Hid (∀O:Obj,Lib.OthersKept 5 (some b) w (w.alloc O).drew):=fun O=>((Lib.OthersKept.refl _ _ w).alloc O).drew
  have C:Hid (s<B/\s≠b):=⟨H,I⟩;clear K Y H I;go_in
  go_upto_region 1 with fail
  go_cut [0,1,5,6] (fun t _ p q wx=>k4a B b s w.heap.size ⟨↑(sel g (3:Int) 5),tx,n⟩ r l k w t p q wx)
  case first=>
   go_region
   all_goals (go_wp2_with fail)
   all_goals
    go_meet
    refine⟨rfl,rfl,⟨_,_,rfl,?_,by omega⟩,by simp[go_sem],by simp[go_sem],by simp[go_sem],IsX.drew (IsX.alloc u.o _),J.o _,i.o _⟩
    first
     | exact R.o.kept ((J.o _).block s C.o.1 C.o.2)
     | exact(D.o (by assumption)).kept ((J.o _).block s C.o.1 C.o.2)
     | exact(D.o rfl).kept ((J.o _).block s C.o.1 C.o.2)
  case rest=>
   obtain⟨rfl,rfl,⟨v,W,rfl,d,V⟩,e1,e2,e3,e,A,G⟩:=hcut;dsimp only at e1 e2 e3;have Q:Hid (q0z s wc v r):=d;have S:Hid (Ln B b l k wc):=e;have N:Hid (q0p B b w wc):=A;have P:Hid (Lib.OthersKept 5 (some b) w wc):=G;have Aa:B<=wc.heap.size:=Nat.le_trans E A.size;clear d e A G;go_wp2;go_ret;obtain rfl:M=r:=j.o;rw[Bool.or_false,List.append_nil];exact⟨⟨_,_,rfl,Q.o,V⟩,S.o,N.o,P.o⟩
theorem y2s(tx:ByteArray)(n:Int):k0i (⟨4,tx,n⟩::[]) ([]) (true):=by
 intro B b s y N a U l k w c L I J Z Y G hl;generalize M:[]++N=r;have i:Hid ([]++N=r):=M;have j:Hid (r.length=([]:List Nd).length+N.length):=(show _=_ by rw[<-M,List.length_append]);obtain rfl:y=⟨4,tx,n⟩::r:=by rw[c,<-M];rfl
 clear c M;obtain⟨f,ea,u,v,x⟩:=L 0 (by simp);subst ea;simp only[List.length_cons]at Z hl⊢;have S:Hid (q0z s w (some ⟨s,f+3,none⟩) r):=L.rest
 have E:Hid (U=1->q0z s w (some ⟨s,f,none⟩) r):=fun h=>by
  have X:=L.slid Z;rw[if_pos h]at X;exact X
 have m:Hid (Ln B b l k w):=Y;simp only[Nat.zero_mul,Nat.add_zero,List.getElem_cons_zero]at u v x;have Ab:s<w.heap.size:=by omega
 have Ac:(1:Int)<=(r.length:Int)+1:=by omega
 have K:Hid (∀O:Obj,q0p B b w (w.alloc O).drew):=fun O=>q0p.drew ((q0p.refl B b w).alloc G O)
 have g:Hid (∀O:Obj,Lib.OthersKept 5 (some b) w (w.alloc O).drew):=fun O=>((Lib.OthersKept.refl _ _ w).alloc O).drew
 have A:Hid (s<B/\s≠b):=⟨I,J⟩;clear L Y I J;go_in
 go_upto_region 1 with fail
 go_cut [0,1,5,6] (fun t _ p q wx=>k4a B b s w.heap.size ⟨4,tx,n⟩ r l k w t p q wx)
 case first=>
  go_region
  all_goals (go_wp2_with fail)
  all_goals
   go_meet
   refine⟨rfl,rfl,⟨_,_,rfl,?_,by omega⟩,by simp[go_sem],by simp[go_sem],by simp[go_sem],IsX.drew (IsX.alloc m.o _),K.o _,g.o _⟩
   first
    | exact S.o.kept ((K.o _).block s A.o.1 A.o.2)
    | exact(E.o (by assumption)).kept ((K.o _).block s A.o.1 A.o.2)
    | exact(E.o rfl).kept ((K.o _).block s A.o.1 A.o.2)
 case rest=>
  obtain⟨rfl,rfl,⟨o,W,rfl,d,V⟩,z,e2,e3,e,D,H⟩:=hcut;dsimp only at z e2 e3;have R:Hid (q0z s wc o r):=d;have C:Hid (Ln B b l k wc):=e;have P:Hid (q0p B b w wc):=D;have Q:Hid (Lib.OthersKept 5 (some b) w wc):=H;have Aa:B<=wc.heap.size:=Nat.le_trans G D.size;clear d e D H;have g1:=C.o.cell;have g2:=C.o.frozen;go_wp2;go_ret;obtain rfl:N=r:=i.o;rw[Bool.or_true,List.append_nil];refine⟨⟨_,_,rfl,R.o.kept (Below.heap_setCell _ _ _ _ A.o.2),V⟩,C.o.stored true,P.o.setCell (.inl rfl) _,Q.o.setCell _ rfl _⟩
theorem v4e{c:UInt8}(h:q2f c=true):q5h c=true:=by
 simp only[q2f,Bool.and_eq_true,decide_eq_true_eq]at h;simp only[q5h,Bool.and_eq_true,decide_eq_true_eq];omega
theorem v3d{c:UInt8}(h:q4f c=true):q5h c=true:=by
 simp only[q4f,Bool.and_eq_true,decide_eq_true_eq]at h;simp only[q5h,Bool.and_eq_true,decide_eq_true_eq];omega
theorem z2r{s:List UInt8}(h1:1<=s.length)(h2:s.length<=20)(h3:∀c∈s,q5h c=true):(wdD s).Wf:=by
 have e:(wbS s).size=s.length:=by rw[<-q0c];rfl
 have A:isW (wbS s)=true:=by
  simp only[isW,Bool.and_eq_true,decide_eq_true_eq,List.all_eq_true];exact⟨⟨by omega,by omega⟩,h3⟩
 refine⟨?_,rfl⟩;simp only[q0v,A];rfl
theorem v6k:blD.Wf:=⟨rfl,rfl⟩
theorem y8j:sfD.Wf:=⟨rfl,rfl⟩
theorem q6t{a b:Tr}(ha:a.Wf)(hb:b.Wf):(twD a b).Wf:=⟨rfl,rfl,ha,hb⟩
theorem v6l{a:Tr}(ha:a.Wf):(dpD a).Wf:=⟨rfl,rfl,ha⟩
theorem v6m{a:Tr}(ha:a.Wf):(grD a).Wf:=⟨rfl,rfl,ha⟩
theorem v6n{l:Nat}{x:Td}{d:Tr}(h:d.Wf):(inD l x d).Wf:=by
 unfold inD
 split
 ·exact q6t (z2r (by decide) (by decide) (by decide)) (q6t h (z2r (by decide) (by decide) (by decide)))
 ·exact h
theorem y8i:∀ps:List (Td × Tr),(∀p∈ps,p.2.Wf)->ps≠[]->(kdD ps).Wf
 | [p],h,_=>h p (by simp)
 | p::q::r,h,_=>q6t (q6t (h p (by simp)) (z2r (by decide) (by decide) (by decide))) (q6t v6k (y8i (q::r) (fun z hz=>h z (by simp at hz⊢;right;exact hz)) (by simp)))
theorem v0w{op cl:List UInt8}{ps:List (Td × Tr)}(h:∀p∈ps,p.2.Wf)(h1:1<=op.length)(h2:op.length+cl.length<=20)(h3:∀c∈op,q5h c=true)(h4:1<=cl.length)(h5:∀c∈cl,q5h c=true):(q1g op cl ps).Wf:=by
 unfold q1g
 split
 ·refine z2r (by simp;omega) (by simp;omega) fun c A=>?_
  rcases List.mem_append.1 A with A|A
  ·exact h3 c A
  ·exact h5 c A
 ·rename_i h0;exact v6m (q6t (z2r h1 (by omega) h3) (q6t (v6l (q6t y8j (y8i ps h fun e=>h0 (by rw[e];rfl)))) (q6t y8j (z2r h4 (by omega) h5))))
theorem q7m{s:ByteArray}(h:q0o s=true):1<=(btL s).length/\(btL s).length<=8/\∀c∈btL s,q5h c=true:=by
 have A:=q1q h;simp only[q0o,Bool.and_eq_true,decide_eq_true_eq,List.all_eq_true]at h;exact⟨by rw[q0c];exact h.1.1.1,A,fun c hc=>v4e (h.2 c hc)⟩
theorem g1h{x:Td}{ps:List (Td × Tr)}(h:∀p∈ps,p.2.Wf)(hx:exN x)(hk:ps.length=kdT x):(q0g x ps).Wf:=by
 have C:kdT x=2->∃a b,ps=[a,b]/\a.2.Wf/\b.2.Wf:=fun e=>by
  rw[e]at hk
  match ps,hk with
  | [a,b],_=>exact⟨a,b,rfl,h a (by simp),h b (by simp)⟩
 rcases q1l hx with⟨A,_,L,N,_⟩|⟨A,H,_⟩|⟨A,H,_⟩|⟨A,_⟩|⟨A,_,_,D⟩|⟨A,_,_,D⟩
 ·rw[show q0g x ps=wdD (q2n x.n.toNat) by simp[q0g,A]];have M:=q8a 5 x.n.toNat (by omega);have D:=List.length_pos_iff.2 (z7w x.n.toNat);exact z2r (by omega) (by omega) fun c B=>v3d (q9r _ c B)
 ·obtain⟨J,K,I⟩:=q7m H;rw[show q0g x ps=wdD (btL x.tx) by simp[q0g,A]];exact z2r J (by omega) I
 ·obtain⟨J,K,I⟩:=q7m H;rw[show q0g x ps=q1g (btL x.tx++[40]) [41] ps by simp[q0g,A]];refine v0w h (by simp) (by rw[List.length_append];simp only[List.length_cons,List.length_nil];omega) (fun c B=>?_) (by decide) (by decide);rcases List.mem_append.1 B with B|B
  ·exact I c B
  ·simp at B;subst B;decide
 ·rw[show q0g x ps=q1g [91] [93] ps by simp[q0g,A]];exact v0w h (by decide) (by decide) (by decide) (by decide) (by decide)
 ·obtain⟨a,b,rfl,E,G⟩:=C D;rw[show q0g x [a,b]=grD (twD (inD 0 a.1 a.2) (dpD (twD blD (twD (wdD [43,32]) (inD 1 b.1 b.2))))) by simp[q0g,tw2,A]];exact v6m (q6t (v6n E) (v6l (q6t v6k (q6t (z2r (by decide) (by decide) (by decide)) (v6n G)))))
 ·obtain⟨a,b,rfl,E,G⟩:=C D;rw[show q0g x [a,b]=grD (twD (inD 1 a.1 a.2) (dpD (twD blD (twD (wdD [42,32]) (inD 2 b.1 b.2))))) by simp[q0g,tw2,A]];exact v6m (q6t (v6n E) (v6l (q6t v6k (q6t (z2r (by decide) (by decide) (by decide)) (v6n G)))))
theorem j4d:∀F:Fo,F.ok->F.exs->∀p∈F.D,p.2.Wf
 | .nil,_,_,p,hp=>by cases hp
 | .cons x k n,hok,hex,p,hp=>by
  have h1:=j4d k hok.2.1 fun y hy=>hex y (by simp[Fo.N,hy])
  have h2:=j4d n hok.2.2 fun y hy=>hex y (by simp[Fo.N,hy])
  rcases List.mem_cons.1 hp with rfl|hp
  ·exact g1h h1 (hex x (by simp[Fo.N])) (by rw[q3i];exact hok.1)
  ·exact h2 p hp
theorem v4q{l:Nat}{x:Td}{d:Tr}(h:d.noE):(inD l x d).noE:=by
 unfold inD
 split
 ·exact⟨rfl,by show(1:Int)≠4;decide,rfl,h,by show(1:Int)≠4;decide⟩
 ·exact h
theorem y7a:∀ps:List (Td × Tr),(∀p∈ps,p.2.noE)->(kdD ps).noE
 | [],_=>by show(1:Int)≠4;decide
 | [p],h=>h p (by simp)
 | p::q::r,h=>⟨rfl,⟨rfl,h p (by simp),by show(1:Int)≠4;decide⟩,rfl,by show(2:Int)≠4;decide,y7a (q::r) (fun z hz=>h z (by simp at hz⊢;right;exact hz))⟩
theorem j6u{op cl:List UInt8}{ps:List (Td × Tr)}(h:∀p∈ps,p.2.noE):(q1g op cl ps).noE:=by
 unfold q1g
 split
 ·show(1:Int)≠4;decide
 ·exact⟨rfl,by show(1:Int)≠4;decide,rfl,⟨rfl,by show(3:Int)≠4;decide,y7a ps h⟩,rfl,by show(3:Int)≠4;decide,by show(1:Int)≠4;decide⟩
theorem v8j{f:Td->Tr->Td->Tr->Tr}{ps:List (Td × Tr)}(h:∀p∈ps,p.2.noE)(hf:∀x a y b,a.noE->b.noE->(f x a y b).noE):(tw2 f ps).noE:=by
 unfold tw2
 split
 ·exact hf _ _ _ _ (h _ (by simp)) (h _ (by simp))
 ·show(1:Int)≠4;decide
theorem g0u{x:Td}{ps:List (Td × Tr)}(h:∀p∈ps,p.2.noE):(q0g x ps).noE:=by
 have A:(1:Int)≠4:=by decide
 have B:(2:Int)≠4:=by decide
 unfold q0g
 split
 ·exact A
 ·split
  ·exact A
  ·split
   ·exact j6u h
   ·split
    ·exact j6u h
    ·split
     ·exact v8j h fun x a y b ha hb=>⟨rfl,v4q ha,rfl,B,rfl,A,v4q hb⟩
     ·exact v8j h fun x a y b ha hb=>⟨rfl,v4q ha,rfl,B,rfl,A,v4q hb⟩
theorem k4m:∀F:Fo,∀p∈F.D,p.2.noE
 | .nil,p,hp=>by cases hp
 | .cons x k n,p,hp=>by
  rcases List.mem_cons.1 hp with rfl|hp
  ·exact g0u (k4m k)
  ·exact k4m n p hp
def z2y(ps:List (Td × Tr)):Nat:=(ps.map fun p=>p.2.N.length+5).sum
theorem q1y(p:Td × Tr)(r:List (Td × Tr)):z2y (p::r)=p.2.N.length+5+z2y r:=by simp[z2y]
theorem j0y(l:Nat)(x:Td)(d:Tr):(inD l x d).N.length<=d.N.length+4:=by
 unfold inD
 split
 ·simp only[Tr.N,List.length_cons,List.length_append,List.length_nil];omega
 ·omega
theorem j0z:∀ps:List (Td × Tr),(kdD ps).N.length<=z2y ps+1
 | []=>by simp[kdD,z2y,Tr.N]
 | [p]=>by simp only[kdD,q1y];omega
 | p::q::r=>by
  have ih:=j0z (q::r)
  show(twD (twD p.2 (wdD [44])) (twD blD (kdD (q::r)))).N.length<=_
  rw[q1y];simp only[Tr.N,List.length_cons,List.length_append,List.length_nil];omega
theorem g0v{x:Td}{ps:List (Td × Tr)}:(q0g x ps).N.length<=15+z2y ps:=by
 have A:∀op cl:List UInt8,(q1g op cl ps).N.length<=15+z2y ps:=fun op cl=>by
  have G:=j0z ps;unfold q1g
  split
  ·simp only[Tr.N,List.length_cons,List.length_nil];omega
  ·simp only[Tr.N,List.length_cons,List.length_append,List.length_nil];omega
 have C:∀f:Td->Tr->Td->Tr->Tr,(∀x a y b,(f x a y b).N.length<=15+a.N.length+b.N.length)->(tw2 f ps).N.length<=15+z2y ps:=fun f hf=>by
  unfold tw2
  split
  ·rename_i a b
   have:=hf a.1 a.2 b.1 b.2
   rw[q1y,q1y];omega
  ·simp only[Tr.N,List.length_cons,List.length_nil];omega
 have B:∀(l m:Nat)(sg:List UInt8)(x:Td)(a:Tr)(y:Td)(b:Tr),(grD (twD (inD l x a) (dpD (twD blD (twD (wdD sg) (inD m y b)))))).N.length<=15+a.N.length+b.N.length:=fun l m sg x a y b=>by
  have D:=j0y l x a;have E:=j0y m y b;simp only[Tr.N,List.length_cons,List.length_append,List.length_nil];omega
 unfold q0g
 split
 ·simp only[Tr.N,List.length_cons,List.length_nil];omega
 ·split
  ·simp only[Tr.N,List.length_cons,List.length_nil];omega
  ·split
   ·exact A _ _
   ·split
    ·exact A _ _
    ·split
     ·exact C _ (B 0 1 [43,32])
     ·exact C _ (B 1 2 [42,32])
theorem z5u:∀F:Fo,z2y F.D<=20*F.N.length
 | .nil=>by simp[Fo.D,z2y]
 | .cons x k n=>by
  have h1:=z5u k;have h2:=z5u n;have h3:=g0v (x:=x) (ps:=k.D);rw[Fo.D,q1y,Fo.N];simp only[List.length_cons,List.length_append];omega
theorem k8g(k:Nat){o:Int}(hk:k=0/\o=7\/k=1/\o=8)(tx:ByteArray)(n:Int)(A:List Nd)(tA:List UInt8)(kA:Bool)(hA:k0i A tA kA):k0i (⟨o,tx,n⟩::A) (tA) (kA):=by
 have y:Tag k:=.mk;rcases hk with⟨rfl,rfl⟩|⟨rfl,rfl⟩
 all_goals
  intro B b s ds N a V l k w m L I J j i G hl;generalize M:A++N=r;have HR:Hid (A++N=r):=M;have Aa:Hid (r.length=(A:List Nd).length+N.length):=(show _=_ by rw[<-M,List.length_append]);obtain rfl:ds=⟨↑(sel y (7:Int) 8),tx,n⟩::r:=by rw[m,<-M];rfl
  clear m M;obtain⟨x,ea,c1,c2,c3⟩:=L 0 (by simp);subst ea;simp only[List.length_cons]at j hl⊢;have S:Hid (q0z s w (some ⟨s,x+3,none⟩) r):=L.rest
  have E:Hid (V=1->q0z s w (some ⟨s,x,none⟩) r):=fun h=>by
   have g:=L.slid j;rw[if_pos h]at g;exact g
  have HW:Hid (Ln B b l k w):=i;simp only[Nat.zero_mul,Nat.add_zero,List.getElem_cons_zero]at c1 c2 c3;have Ab:s<w.heap.size:=by omega
  have Ac:(1:Int)<=(r.length:Int)+1:=by omega
  have K:Hid (∀O:Obj,q0p B b w (w.alloc O).drew):=fun O=>q0p.drew ((q0p.refl B b w).alloc G O)
  have HK:Hid (∀O:Obj,Lib.OthersKept 5 (some b) w (w.alloc O).drew):=fun O=>((Lib.OthersKept.refl _ _ w).alloc O).drew
  have C:Hid (s<B/\s≠b):=⟨I,J⟩;clear L i I J;go_in
  go_upto_region 1 with fail
  go_cut [0,1,5,6] (fun t _ p q wx=>k4a B b s w.heap.size ⟨↑(sel y (7:Int) 8),tx,n⟩ r l k w t p q wx)
  case first=>
   go_region
   all_goals (go_wp2_with fail)
   all_goals
    go_meet
    refine⟨rfl,rfl,⟨_,_,rfl,?_,by omega⟩,by simp[go_sem],by simp[go_sem],by simp[go_sem],IsX.drew (IsX.alloc HW.o _),K.o _,HK.o _⟩
    first
     | exact S.o.kept ((K.o _).block s C.o.1 C.o.2)
     | exact(E.o (by assumption)).kept ((K.o _).block s C.o.1 C.o.2)
     | exact(E.o rfl).kept ((K.o _).block s C.o.1 C.o.2)
  case rest=>
   obtain⟨rfl,rfl,⟨a',d,rfl,u,Y⟩,e1,e2,e3,v,D,H⟩:=hcut;dsimp only at e1 e2 e3;have R:Hid (q0z s wc a' r):=u;have U:Hid (Ln B b l k wc):=v;have P:Hid (q0p B b w wc):=D;have Q:Hid (Lib.OthersKept 5 (some b) w wc):=H;have W:B<=wc.heap.size:=Nat.le_trans G D.size;clear u v D H;have z:Hid (k0i A tA kA):=hA;clear hA;go_wp2_with fail;refine(z.o B b s r N _ _ l k _ HR.o.symm R.o C.o.1 C.o.2 Y U.o W (by omega)).mono ?_;rintro e w3⟨⟨a3,f,rfl,n3,Z⟩,h3,X,c⟩;go_wp2;go_ret;exact⟨⟨_,_,rfl,n3,Z⟩,h3,P.o.trans X,Q.o.trans c⟩
theorem q3o(l:List UInt8):(wbS l).size=l.length:=by
 rw[<-q0c];rfl
theorem q5z{t:ByteArray}(h:0<t.size):btL t=t[0]::(btL t).drop 1:=by
 have A:=q1j h;rw[List.drop_zero,Nat.zero_add]at A;exact A
theorem j4e(n m:Nat):decide (n<=m)=decide ((n:Int)<=(m:Int)):=by
 by_cases h:n<=m
 ·rw[decide_eq_true h,decide_eq_true (by omega)]
 ·rw[decide_eq_false h,decide_eq_false (by omega)]
theorem v4x{w:World}{a:Nat}{bs:ByteArray}(h:z0z w a bs):z0z w.drew a bs:=h
abbrev z0x(t:ByteArray)(w:World)(e:Ending)(w':World):Prop:=e=.returned (.tuple #[.string (wbS (tkW (btL t))),.bool (q5b (btL t))])/\Below w w w'
theorem j4q(t:ByteArray)(w:World)(h0:0<t.size)(hs:t.size<=60000)(hl:q2f t[0]=true):Calls prog 77 #[.string t] w fun e w'=>z0x t w e w':=by
 obtain⟨E,H⟩:=y9z (c:=t[0]) (r:=(btL t).drop 1) hl;rw[<-q5z h0]at E H;have P:Hid (q8t 97 122 t[0]=true):=hl
 have K:Hid (wbS ((btL t).takeWhile (q8t 97 122))=wbS (tkW (btL t))):=by
  show _=_;rw[E];rfl
 have G:Hid (q5b (btL t)=decide (((wbS (tkW (btL t))).size:Int)<=8)):=by
  show _=_;rw[H,q3o,E,j4e];rfl
 have Y:(wbS (tkW (btL t))).size<=60000:=by
  rw[q3o];exact Nat.le_trans (z1x _) (by rw[q0c];exact hs)
 generalize M:wbS (tkW (btL t))=W at K G Y;generalize L:q5b (btL t)=O at G;have R:=(show Hid (_=_)from M);have Q:=(show Hid (_=_)from L);clear E H hl M L;go_in;go_wp2_with fail;refine(q4c 97 122 _).mono ?_;rintro e b⟨⟨S,V,rfl,B⟩,D⟩;go_wp2_with fail;refine(q4c 48 57 _).mono ?_;rintro e I⟨⟨U,X,rfl,C⟩,A⟩;have J:Hid (q3w I S V 97 122):=B.W A;have a:Hid (q3w I U X 48 57):=C;have N:Hid (Below w w I):=q0d D Zl A;clear B C D A;go_wp2_with fail;refine(q3e t[0] J.o).mono ?_;rintro e Z⟨rfl,rfl⟩;rw[P.o];go_wp2_with fail;refine(k6l t J.o hs).mono ?_;rintro e Z⟨rfl,rfl⟩;rw[K.o];go_wp2;refine bodyPost_ret (v:=.tuple #[.string W,.bool O]) (by rw[G.o];simp[results,Tryz.results77,go_sem]) rfl ?_;exact⟨by rw[R.o,Q.o],N.o⟩
theorem j4p(t:ByteArray)(w:World)(h0:0<t.size)(hs:t.size<=60000)(hl:q2f t[0]=false)(hf:q4f t[0]=true):Calls prog 77 #[.string t] w fun e w'=>z0x t w e w':=by
 obtain⟨I,K⟩:=y9y (c:=t[0]) (r:=(btL t).drop 1) hl hf;rw[<-q5z h0]at I K;have b:Hid (q8t 97 122 t[0]=false):=hl;have Z:Hid (q8t 48 57 t[0]=true):=hf
 have Q:Hid (wbS ((btL t).takeWhile (q8t 48 57))=wbS (tkW (btL t))):=by
  show _=_;rw[I];rfl
 have H:Hid (q5b (btL t)=(decide (((wbS (tkW (btL t))).size:Int)<=6)&&((t[0].toNat:Int) != 48||(wbS (tkW (btL t))).toList==[48]))):=by
  show _=_
  have L:((t[0].toNat:Int) != 48)=(t[0] != 48):=by
   show(!((t[0].toNat:Int)==48))=(!(t[0]==48))
   rw[show(48:Int)=((48:Nat):Int)from rfl,k3l _ 48 (by decide)];rfl
  have l:(wbS (tkW (btL t))).toList=tkW (btL t):=by rw[Lib.toList_data];rfl
  rw[L,l,K,q3o,I,j4e];rfl
 have m:(wbS (tkW (btL t))).size<=60000:=by
  rw[q3o];exact Nat.le_trans (z1x _) (by rw[q0c];exact hs)
 generalize V:wbS (tkW (btL t))=W at Q H m;generalize U:q5b (btL t)=O at H;have f:=(show Hid (_=_)from V);have d:=(show Hid (_=_)from U)
 have M:(¬(W.size:Int)<=6/\Hid (O=false))\/((W.size:Int)<=6/\((t[0].toNat:Int) != 48)=true/\Hid (O=true))\/((W.size:Int)<=6/\((t[0].toNat:Int) != 48)=false/\Hid (O=(W.toList==[48]))):=by
  have A:=H.o;by_cases C:(W.size:Int)<=6
  ·rw[decide_eq_true C,Bool.true_and]at A;cases S:((t[0].toNat:Int) != 48)with
   | true=>rw[S,Bool.true_or]at A;exact .inr (.inl ⟨C,rfl,A⟩)
   | false=>rw[S,Bool.false_or]at A;exact .inr (.inr ⟨C,rfl,A⟩)
  ·rw[decide_eq_false C,Bool.false_and]at A;exact .inl ⟨C,A⟩
 clear I K hl hf V U H;go_in;go_wp2_with fail;refine(q4c 97 122 _).mono ?_;rintro e n⟨⟨g,i,rfl,D⟩,G⟩;go_wp2_with fail;refine(q4c 48 57 _).mono ?_;rintro e N⟨⟨h,j,rfl,E⟩,B⟩;have a:Hid (q3w N g i 97 122):=D.W B;have P:Hid (q3w N h j 48 57):=E;have Y:Hid (Below w w N):=q0d G Zl B;clear D E G B;go_wp2_with fail;refine(q3e t[0] a.o).mono ?_;rintro e X⟨rfl,rfl⟩;rw[b.o];go_wp2_with fail;refine(q3e t[0] P.o).mono ?_;rintro e X⟨rfl,rfl⟩;rw[Z.o];go_wp2_with fail;refine(k6l t P.o hs).mono ?_;rintro e X⟨rfl,rfl⟩;rw[Q.o];rcases M with⟨R,J⟩|⟨R,k,J⟩|⟨R,k,J⟩
 all_goals
  go_wp2;refine bodyPost_ret (v:=.tuple #[.string W,.bool O]) (by rw[J.o];simp[results,Tryz.results77,go_sem]) rfl ?_;exact⟨by rw[f.o,d.o],Y.o⟩
theorem j0m(t:ByteArray)(w:World)(h0:0<t.size)(hs:t.size<=60000)(hl:q2f t[0]=false)(hf:q4f t[0]=false)(hn:t[0]=35):Calls prog 77 #[.string t] w fun e w'=>z0x t w e w':=by
 obtain⟨J,L⟩:=y5t (c:=t[0]) (r:=(btL t).drop 1) hl hf hn;rw[<-q5z h0]at J L;have j:Hid (q8t 97 122 t[0]=false):=hl;have f:Hid (q8t 48 57 t[0]=false):=hf;have y:((t[0].toNat:Int)==35)=true:=by rw[hn];rfl
 have U:Hid (wbS (q1d (btL (k2b t)))=wbS (tkW (btL t))):=by
  show _=_;rw[J];rfl
 have Q:(k2b t).size<=60000/\0<(k2b t).size:=by
  have x:=k9k nlB (btL t);rw[q0c]at x;rw[k2b,q3o];refine⟨by omega,?_⟩;rw[q5z h0,List.takeWhile_cons,if_pos (by rw[hn];rfl)];simp
 have I:Hid (q5b (btL t)=((wbS ((btL (wbS (tkW (btL t)))).takeWhile (q8t 32 126))).toList==(wbS (tkW (btL t))).toList)):=by
  show _=_;rw[Lib.toList_data,Lib.toList_data,L,J];rfl
 have Z:(wbS (tkW (btL t))).size<=60000:=by
  rw[q3o];exact Nat.le_trans (z1x _) (by rw[q0c];exact hs)
 generalize Y:wbS (tkW (btL t))=W at U I Z;generalize X:q5b (btL t)=O at I;have m:=(show Hid (_=_)from Y);have l:=(show Hid (_=_)from X);generalize V:wbS ((btL W).takeWhile (q8t 32 126))=M at I;have k:=(show Hid (_=_)from V);obtain⟨N,P⟩:=Q;clear J L hl hf hn Y X V;go_in;go_wp2_with fail;refine(q4c 97 122 _).mono ?_;rintro e z⟨⟨n,q,rfl,B⟩,E⟩;go_wp2_with fail;refine(q4c 48 57 _).mono ?_;rintro e R⟨⟨o,s,rfl,C⟩,A⟩;have g:Hid (q3w R n q 97 122):=B.W A;have h:Hid (q3w R o s 48 57):=C;have d:Hid (Below w w R):=q0d E Zl A;clear B C E A;go_wp2_with fail;refine(q3e t[0] g.o).mono ?_;rintro e a⟨rfl,rfl⟩;rw[j.o];go_wp2_with fail;refine(q3e t[0] h.o).mono ?_;rintro e a⟨rfl,rfl⟩;rw[f.o];go_wp2_with fail;refine(v5l t _ hs).mono ?_;rintro e a⟨⟨r,b,rfl⟩,G⟩;go_wp2_with fail;refine(v0h (k2b t) _ P N).mono ?_;rintro e S⟨rfl,rfl⟩;rw[U.o];go_wp2_with fail;refine(q4c 32 126 _).mono ?_;rintro e S⟨⟨p,u,rfl,D⟩,H⟩;have i:Hid (q3w S p u 32 126):=D;have K:Hid (Below w w S):=q0d (q0d d.o Zl G) Zl H;clear D G H;go_wp2_with fail;refine(k6l W i.o Z).mono ?_;rintro e w5⟨rfl,rfl⟩;rw[k.o];go_wp2;refine bodyPost_ret (v:=.tuple #[.string W,.bool O]) (by rw[I.o];simp[results,Tryz.results77,go_sem]) rfl ?_;exact⟨by rw[m.o,l.o],K.o⟩
theorem j0l(t:ByteArray)(w:World)(h0:0<t.size)(hs:t.size<=60000)(E:spB t[0]=false)(hl:q2f t[0]=false)(hf:q4f t[0]=false)(hn:(t[0]==35)=false):Calls prog 77 #[.string t] w fun e w'=>z0x t w e w':=by
 obtain⟨H,I⟩:=y5s (c:=t[0]) (r:=(btL t).drop 1) E hl hf hn;rw[<-q5z h0]at H I;have V:Hid (q8t 97 122 t[0]=false):=hl;have R:Hid (q8t 48 57 t[0]=false):=hf;have g:(1:Int)<=(t.size:Int):=by omega
 have h:(0:Int)<(t.size:Int):=by omega
 have i:((t[0].toNat:Int)==35)=false:=by rw[show(35:Int)=((35:Nat):Int)from rfl,k3l _ 35 (by decide)];exact hn
 have L:Hid (t.extract 0 1=wbS (tkW (btL t))):=by
  show _=_
  have f:(btL t).take 1=[t[0]]:=by
   have M:=congrArg (List.take 1) (q5z h0);rw[List.take_succ_cons,List.take_zero]at M;exact M
  rw[H,k7t,f]
 have G:Hid (q5b (btL t)=(btL (⟨#[40,41,91,93,44,43,42,61,59]⟩:ByteArray)).any (·==t[0])):=by
  show _=_;rw[I];rfl
 have j:(wbS (tkW (btL t))).size<=60000:=by
  rw[q3o];exact Nat.le_trans (z1x _) (by rw[q0c];exact hs)
 generalize P:wbS (tkW (btL t))=W at L G j;generalize N:q5b (btL t)=O at G;have Y:=(show Hid (_=_)from P);have X:=(show Hid (_=_)from N);clear H I hl hf hn E P N;go_in;go_wp2_with fail;refine(q4c 97 122 _).mono ?_;rintro e l⟨⟨Z,b,rfl,B⟩,D⟩;go_wp2_with fail;refine(q4c 48 57 _).mono ?_;rintro e J⟨⟨a,d,rfl,C⟩,A⟩;have S:Hid (q3w J Z b 97 122):=B.W A;have U:Hid (q3w J a d 48 57):=C;have K:Hid (Below w w J):=q0d D Zl A;clear B C D A;go_wp2_with fail;refine(q3e t[0] S.o).mono ?_;rintro e Q⟨rfl,rfl⟩;rw[V.o];go_wp2_with fail;refine(q3e t[0] U.o).mono ?_;rintro e Q⟨rfl,rfl⟩;rw[R.o];go_wp2_with fail
 go_region_held3 (fun _=>True) (trivial) (first|(go_at_call 76;refine(k2v _ _).mono ?_;rintro e Q⟨rfl,rfl⟩)|(go_at_call 118;refine(q8g t[0] (z0z.new _ _)).mono ?_;rintro e k⟨rfl,rfl⟩;rw[<-G.o])|(go_at_call 118;refine(q8g t[0] (v4x (z0z.new _ _))).mono ?_;rintro e k⟨rfl,rfl⟩;rw[<-G.o]))
 all_goals
  go_wp2;refine bodyPost_ret (v:=.tuple #[.string (t.extract 0 1),.bool O]) (by simp[results,Tryz.results77,go_sem]) rfl ?_;exact⟨by rw[L.o,Y.o,X.o],(K.o.alloc K.o.size _).trans ⟨rfl,rfl,rfl,Nat.le_refl _,fun _ _=>rfl⟩⟩
theorem j4o(t:ByteArray)(w:World)(h0:0<t.size)(hs:t.size<=60000)(C:spB t[0]=false):Calls prog 77 #[.string t] w fun e w'=>z0x t w e w':=by
 cases A:q2f t[0]with
 | true=>exact j4q t w h0 hs A
 | false=>
  cases B:q4f t[0]with
  | true=>exact j4p t w h0 hs A B
  | false=>
   cases D:(t[0]==35)with
   | true=>exact j0m t w h0 hs A B (beq_iff_eq.1 D)
   | false=>exact j0l t w h0 hs C A B D
end Go.Proofs.YtfdppahhbpfnoaaGreatDoor
