import Derived.Test.YtelcnplcpboonaaGreatDoorPb00
open Go.Proofs.Tryz
namespace Go.Proofs.YtelcnplcpboonaaGreatDoor
def q2w(wd:Nat):Nat->List UInt8->Nat × Nat × Nat
 | c,[]=>(0,0,c)
 | c,b::s=>if b=10 then((q2w wd 0 s).1,(q2w wd 0 s).2.1+1,(q2w wd 0 s).2.2)else((if wd<=c then 1 else 0)+(q2w wd (c+1) s).1,(q2w wd (c+1) s).2.1,(q2w wd (c+1) s).2.2)
theorem z6o(wd:Nat):∀(c:Nat)(s t:List UInt8),q2w wd c (s++t)=((q2w wd c s).1+(q2w wd (q2w wd c s).2.2 t).1,(q2w wd c s).2.1+(q2w wd (q2w wd c s).2.2 t).2.1,(q2w wd (q2w wd c s).2.2 t).2.2)
 | c,[],t=>by simp[q2w]
 | c,b::s,t=>by
  simp only[List.cons_append,q2w]
  split
  ·rw[z6o wd 0 s t];simp only[Prod.mk.injEq,and_true,true_and];omega
  ·rw[z6o wd (c+1) s t];simp only[Prod.mk.injEq,and_true];omega
abbrev Crs:=(Nat × Nat) × List Int
def q2y(a b:Nat × Nat):Prop:=a.1<b.1\/(a.1=b.1/\a.2<b.2)
instance(a b:Nat × Nat):Decidable (q2y a b):=by unfold q2y;infer_instance
def k6o(a b:Crs):Crs:=if q2y b.1 a.1 then b else a
def q6i:Option Crs->Option Crs->Option Crs
 | none,y=>y
 | x,none=>x
 | some a,some b=>some (k6o a b)
theorem k9d(a b c:Crs):k6o (k6o a b) c=k6o a (k6o b c):=by
 by_cases A:q2y b.1 a.1<;>by_cases B:q2y c.1 b.1<;>by_cases C:q2y c.1 a.1
 all_goals first
  | (simp[k6o,A,B,C];done)
  | (exfalso;unfold q2y at A B C;omega)
theorem k3t(x y z:Option Crs):q6i (q6i x y) z=q6i x (q6i y z):=by
 cases x<;>cases y<;>cases z<;>simp[q6i,k9d]
def fm:List Crs->Option Crs
 | []=>none
 | a::l=>q6i (some a) (fm l)
theorem j3x:∀l m:List Crs,fm (l++m)=q6i (fm l) (fm m)
 | [],m=>by cases h:fm m<;>simp[fm,q6i,h]
 | a::l,m=>by rw[List.cons_append,fm,fm,j3x l m,k3t]
def q4v(o l:Nat)(u:List Int)(a:Crs):Crs:=((o+a.1.1,l+a.1.2),u++a.2)
theorem z9o(o l:Nat)(u:List Int)(a b:Crs):q2y (q4v o l u b).1 (q4v o l u a).1↔q2y b.1 a.1:=by
 unfold q2y q4v;dsimp only;omega
theorem j6t(o l:Nat)(u:List Int)(a b:Crs):k6o (q4v o l u a) (q4v o l u b)=q4v o l u (k6o a b):=by
 unfold k6o;by_cases h:q2y b.1 a.1
 ·rw[if_pos h,if_pos ((z9o o l u a b).2 h)]
 ·rw[if_neg h,if_neg fun k=>h ((z9o o l u a b).1 k)]
theorem z0i(o l:Nat)(u:List Int):∀az:List Crs,fm (az.map (q4v o l u))=(fm az).map (q4v o l u)
 | []=>rfl
 | a::az=>by
  rw[List.map_cons,fm,z0i o l u az,fm];cases fm az with
  | none=>rfl
  | some b=>simp[q6i,j6t]
theorem j3y:∀{l:List Crs},fm l=none->l=[]
 | [],_=>rfl
 | a::l,h=>by
  rw[fm]at h;cases hl:fm l<;>rw[hl]at h<;>simp[q6i]at h
theorem z6y:∀{l:List Crs}{a:Crs},fm l=some a->∃(p q:List Crs),l=p++a::q/\(∀b∈p,q2y a.1 b.1)/\∀b∈q,¬q2y b.1 a.1
 | b::l,a,h=>by
  rw[fm]at h;cases hl:fm l with
  | none=>
   rw[hl]at h;obtain rfl:=j3y hl;simp only[q6i,Option.some.injEq]at h;subst h;exact⟨[],[],rfl,by simp,by simp⟩
  | some c=>
   rw[hl]at h;obtain⟨p,q,rfl,h1,h2⟩:=z6y hl;simp only[q6i,Option.some.injEq,k6o]at h
   split at h
   ·rename_i hlt;subst h;refine⟨b::p,q,rfl,fun d hd=>?_,h2⟩;rcases List.mem_cons.1 hd with rfl|hd
    ·exact hlt
    ·exact h1 d hd
   ·rename_i hlt;subst h;refine⟨[],p++c::q,rfl,by simp,fun d hd=>?_⟩;rcases List.mem_append.1 hd with hd|hd
    ·have:=h1 d hd
     unfold q2y at *;omega
    ·rcases List.mem_cons.1 hd with rfl|hd
     ·exact hlt
     ·have:=h2 d hd
      unfold q2y at *;omega
def Tr.outs:Tr->Nat->List (List UInt8 × List Int)
 | .leaf x,deep=>[(if x.op=1 then x.tx.data.toList else if x.op=5 then []else 10::List.replicate deep 32,[])]
 | .one x a,deep=>if x.op=7 then a.outs (deep+x.n.toNat)else(match a.flat with|none=>[]|some s=>[(s,[0])])++(a.outs deep).map fun p=>(p.1,1::p.2)
 | .two x a b,deep=>if x.op=6 then(a.outs deep).flatMap fun p=>(b.outs deep).map fun q=>(p.1++q.1,p.2++q.2)else((a.outs deep).map fun p=>(p.1,0::p.2))++(b.outs deep).map fun p=>(p.1,1::p.2)
theorem q2u:∀(t:Tr)(deep:Nat),(t.outs deep).map (·.2)=t.ways
 | .leaf x,deep=>by simp[Tr.outs,Tr.ways]
 | .one x a,deep=>by
  simp only[Tr.outs,Tr.ways]
  split
  ·exact q2u a _
  ·rw[List.map_append,<-q2u a deep]
   congr 1
   ·cases h:a.flat<;>simp[Tr.isFlat,h]
   ·rw[List.map_map,List.map_map];rfl
 | .two x a b,deep=>by
  simp only[Tr.outs,Tr.ways]
  split
  ·rw[<-q2u a deep,<-q2u b deep,List.map_flatMap,List.flatMap_map]
   congr 1
   funext p
   rw[List.map_map,List.map_map];rfl
  ·rw[<-q2u a deep,<-q2u b deep,List.map_append,List.map_map,List.map_map,List.map_map,List.map_map];rfl
theorem q5t:∀(t:Tr)(deep:Nat)(p:List UInt8 × List Int),p∈t.outs deep->∀r,t.lay deep (p.2++r)=.ok (p.1,r)
 | .leaf x,deep,p,h,r=>by
  simp only[Tr.outs,List.mem_singleton]at h;subst h;simp only[Tr.lay,List.nil_append]
  split
  ·rfl
  ·split<;>rfl
 | .one x a,deep,p,h,r=>by
  simp only[Tr.outs]at h;simp only[Tr.lay]
  split at h
  ·rename_i h7;rw[if_pos h7];exact q5t a _ p h r
  ·rename_i h7;rw[if_neg h7];rcases List.mem_append.1 h with h|h
   ·cases hf:a.flat with
    | none=>rw[hf]at h;simp at h
    | some s=>
     rw[hf]at h;simp only[List.mem_singleton]at h;subst h;simp
   ·obtain⟨q,hq,rfl⟩:=List.mem_map.1 h;simp only[List.cons_append,if_pos];exact q5t a deep q hq r
 | .two x a b,deep,p,h,r=>by
  simp only[Tr.outs]at h;simp only[Tr.lay]
  split at h
  ·rename_i h6;rw[if_pos h6];obtain⟨u,hu,hp⟩:=List.mem_flatMap.1 h;obtain⟨v,hv,rfl⟩:=List.mem_map.1 hp;dsimp only;rw[List.append_assoc,q5t a deep u hu (v.2++r)];dsimp only;rw[q5t b deep v hv r]
  ·rename_i h6;rw[if_neg h6];rcases List.mem_append.1 h with h|h
   ·obtain⟨q,hq,rfl⟩:=List.mem_map.1 h;simp only[List.cons_append,if_pos];exact q5t a deep q hq r
   ·obtain⟨q,hq,rfl⟩:=List.mem_map.1 h;simp only[List.cons_append];rw[if_neg (by decide)];exact q5t b deep q hq r
def q4n:List (Nat × Tr)->List (List UInt8 × List Int)
 | []=>[([],[])]
 | (d,t)::ks=>(t.outs d).flatMap fun p=>(q4n ks).map fun q=>(p.1++q.1,p.2++q.2)
def q3t(wd c:Nat)(ks:List (Nat × Tr)):List Crs:=(q4n ks).map fun p=>(((q2w wd c p.1).1,(q2w wd c p.1).2.1),p.2)
def bst(wd c:Nat)(ks:List (Nat × Tr)):Option Crs:=fm (q3t wd c ks)
theorem v8q(wd c:Nat):bst wd c []=some ((0,0),[]):=by simp[bst,q3t,q4n,q2w,fm,q6i]
theorem z5k(wd c:Nat)(s:List UInt8)(u:List Int)(ks:List (Nat × Tr)):((q4n ks).map fun q=>(s++q.1,u++q.2)).map (fun p=>(((q2w wd c p.1).1,(q2w wd c p.1).2.1),p.2))=(q3t wd (q2w wd c s).2.2 ks).map (q4v (q2w wd c s).1 (q2w wd c s).2.1 u):=by
 unfold q3t;rw[List.map_map,List.map_map]
 congr 1
 funext q
 simp only[Function.comp,z6o,q4v]
theorem z6m(wd c d:Nat)(x:Nd)(ks:List (Nat × Tr))(s:List UInt8)(hs:s=if x.op=1 then x.tx.data.toList else if x.op=5 then []else 10::List.replicate d 32):
  bst wd c ((d,.leaf x)::ks)=(bst wd (q2w wd c s).2.2 ks).map (q4v (q2w wd c s).1 (q2w wd c s).2.1 []):=by
 unfold bst;rw[<-z0i,<-z5k,q3t,q4n,Tr.outs,<-hs];simp
theorem v0t(wd c d:Nat)(x:Nd)(a:Tr)(ks:List (Nat × Tr))(h:x.op=7):bst wd c ((d,.one x a)::ks)=bst wd c ((d+x.n.toNat,a)::ks):=by
 unfold bst q3t;rw[q4n,q4n,Tr.outs,if_pos h]
theorem z3b(wd c d:Nat)(k:Int)(a:Tr)(ks:List (Nat × Tr)):((((a.outs d).map fun p=>(p.1,k::p.2)).flatMap fun p=>(q4n ks).map fun q=>(p.1++q.1,p.2++q.2)).map (fun p=>(((q2w wd c p.1).1,(q2w wd c p.1).2.1),p.2)))=(q3t wd c ((d,a)::ks)).map (q4v 0 0 [k]):=by
 unfold q3t;rw[q4n,List.flatMap_map,List.map_map,List.map_flatMap,List.map_flatMap]
 congr 1
 funext p
 rw[List.map_map,List.map_map]
 congr 1
 funext q
 simp[Function.comp,q4v]
theorem z8v(wd c d:Nat)(x:Nd)(a:Tr)(ks:List (Nat × Tr))(h:x.op≠7):
  bst wd c ((d,.one x a)::ks)=q6i (match a.flat with|none=>none|some s=>(bst wd (q2w wd c s).2.2 ks).map (q4v (q2w wd c s).1 (q2w wd c s).2.1 [0])) ((bst wd c ((d,a)::ks)).map (q4v 0 0 [1])):=by
 unfold bst;rw[<-z0i,<-z3b];rw[q3t,q4n,Tr.outs,if_neg h,List.flatMap_append,List.map_append,j3x]
 congr 1
 cases A:a.flat with
 | none=>rfl
 | some s=>
  dsimp only;rw[<-z0i,<-z5k];simp
theorem v0s(wd c d:Nat)(x:Nd)(a b:Tr)(ks:List (Nat × Tr))(h:x.op=6):bst wd c ((d,.two x a b)::ks)=bst wd c ((d,a)::(d,b)::ks):=by
 unfold bst q3t;rw[q4n,q4n,q4n,Tr.outs,if_pos h,List.flatMap_assoc]
 congr 2
 congr 1
 funext p
 rw[List.flatMap_map,List.map_flatMap]
 congr 1
 funext q
 rw[List.map_map]
 congr 1
 funext z
 simp[Function.comp,List.append_assoc]
theorem k7u(wd c d:Nat)(x:Nd)(a b:Tr)(ks:List (Nat × Tr))(h:x.op≠6):
  bst wd c ((d,.two x a b)::ks)=q6i ((bst wd c ((d,a)::ks)).map (q4v 0 0 [0])) ((bst wd c ((d,b)::ks)).map (q4v 0 0 [1])):=by
 unfold bst;rw[<-z0i,<-z0i,<-z3b,<-z3b,q3t,q4n,Tr.outs,if_neg h,List.flatMap_append,List.map_append,j3x]
theorem y2f(t:Tr)(deep:Nat):t.outs deep≠[]:=fun h=>by
 have:=q2u t deep
 rw[h]at this;exact z4b t this.symm
theorem k6f:∀ks:List (Nat × Tr),q4n ks≠[]
 | []=>by simp[q4n]
 | (d,t)::ks=>by
  have h1:=y2f t d;have h2:=k6f ks;obtain⟨p,ps,e⟩:=List.exists_cons_of_ne_nil h1;rw[q4n,e];simp[h2]
theorem k4p(wd c:Nat)(ks:List (Nat × Tr)):∃a,bst wd c ks=some a:=by
 cases h:bst wd c ks with
 | some a=>exact⟨a,rfl⟩
 | none=>
  have:=j3y h
  unfold q3t at this;exact absurd (List.map_eq_nil_iff.1 this) (k6f ks)
end Go.Proofs.YtelcnplcpboonaaGreatDoor
namespace Go.Proofs.YtelcnplcpboonaaGreatDoor
open Go Go.RowKit
set_option maxRecDepth 100000
set_option maxHeartbeats 2000000
theorem k1k(T B b:Nat)(bs R:List Value)(c:Int)(w:World)(hl:q9v T (R.length+2))(hT:T≠5)(h:IsX T B b bs R w)(W:bs.length+1<=140737488355328)(f:B<=w.heap.size):
  Calls prog 132 #[.pointer (some ⟨b,0,none⟩),.int .u8 c] w fun e w'=>e=.returned .nilIface/\(IsX T B b (bs++[.int .u8 c]) R w'/\q0j B b w w'/\Lib.OthersKept 5 (some b) w w'):=by
 obtain⟨m,i,S,U,V⟩:=info_parts j9h;have Y:Hid (q9v T (R.length+2)):=hl;have Z:Hid (T≠5):=hT;have H:Hid (IsX T B b bs R w):=h;clear hl hT h;go_in;go_wp2_with(go_at_call 24;refine(z0z T B b bs R _ Y.o H.o).mono ?_);rintro e K⟨rfl,d,G,O⟩;obtain⟨v,J,C,Q,_⟩:=d;have o:K.cell? ⟨b,0,none⟩=some (.pointer (some ⟨b,0,none⟩)):=by rw[Lib.cell_of_heap J];rfl
 have c1:K.cell? ⟨b,1,none⟩=some v:=by rw[Lib.cell_of_heap J];rfl
 go_wp2_with(at_builtin;refine wpList_append_ownF _ rfl _ _ 36 rfl B 5 m (.int .u8 0) 1 1 Tryz.underlying36 i S U V rfl (by decide) _ _ _ rfl (C.alloc _) ⟨K,0,none⟩ 1 1 [.int .u8 c] rfl rfl ?c1 ?c2 ?c3 ?c4 ?c5 ?_)
 case c1=>
  intro j u L
  match j,L with
  | 0,L=>simp at L;subst L;simp[Addr.add]
 case c2=>intro u X;simp at X;subst X;rfl
 case c3=>unfold maxLen;omega
 case c4=>omega
 case c5=>have:=G.size;simp;omega
 intro n M D A _
 have P:b<K.heap.size:=by
  rcases Nat.lt_or_ge b K.heap.size with N|N
  ·exact N
  ·simp[Array.getElem?_eq_none N]at J
 have I:M.heap[b]?=some (.cells (.pointer (some ⟨b,0,none⟩)::v::R).toArray T (0,0)):=by
  rw[A.block b (by simp;omega) (fun e=>Q e.symm),Lib.alloc_old K _ b P];exact J
 have q:M.cell? ⟨b,0,none⟩=some (.pointer (some ⟨b,0,none⟩)):=by rw[Lib.cell_of_heap I];rfl
 have r:M.cell? ⟨b,1,none⟩=some v:=by rw[Lib.cell_of_heap I];rfl
 have s:M.frozen? ⟨b,1,none⟩=false:=Lib.frozen_of_heap I 1
 obtain⟨g,E,rfl⟩:∃g E,n=.slice (some ⟨g,0,none⟩) (bs.length+1) E:=by
  rcases D.2 with⟨_,x⟩|⟨g,E,a,t,l,_⟩
  ·omega
  ·exact⟨g,E,l⟩
 go_wp2;go_ret;refine⟨rfl,.inr ?_,?_,((O.alloc _).grown A (Lib.ownsRowF_kind (C.alloc _))).setCell ⟨b,1,none⟩ rfl _⟩
 ·exact XAt.put I (bs':=bs++[.int .u8 c]) (by simpa using D) Z.o (fun h=>by simp at h)
 ·exact((G.alloc (by have:=G.size;omega) _).grown A (by have:=G.size;simp;omega) (fun k hk=>(C.lt k hk).1)).setCell (p:=⟨b,1,none⟩) (.inl rfl) _
theorem q6e(T B b:Nat)(bs R:List Value)(s:ByteArray)(w:World)(hl:q9v T (R.length+2))(hT:T≠5)(h:IsX T B b bs R w)(a:bs.length+s.size<=140737488355328)(o:B<=w.heap.size):
  Calls prog 10 #[.pointer (some ⟨b,0,none⟩),.string s] w fun e w'=>e=.returned (.tuple #[.int .i64 s.size,.nilIface])/\(IsX T B b (bs++Lib.strCells s) R w'/\q0j B b w w'/\Lib.OthersKept 5 (some b) w w'):=by
 obtain⟨r,q,V,W,X⟩:=info_parts j9h;have i:Hid (q9v T (R.length+2)):=hl;have j:Hid (T≠5):=hT;have H:Hid (IsX T B b bs R w):=h;clear hl hT h;go_in;go_wp2_with(go_at_call 24;refine(z0z T B b bs R _ i.o H.o).mono ?_);rintro e L⟨rfl,O,K,P⟩;obtain⟨v,G,C,S,Z⟩:=O;have f:Hid (bs=[]->v=.slice none 0 0):=Z;clear Z;have t:L.cell? ⟨b,0,none⟩=some (.pointer (some ⟨b,0,none⟩)):=by rw[Lib.cell_of_heap G];rfl
 have u:L.cell? ⟨b,1,none⟩=some v:=by rw[Lib.cell_of_heap G];rfl
 go_wp2_with(at_builtin;refine Lib.wpList_append_own_stringF _ rfl _ _ 36 9 rfl B 5 r Tryz.underlying36 Tryz.underlying9 q V W X _ _ _ rfl C s rfl ?c3 ?c4 ?c5 ?_)
 case c3=>unfold maxLen;omega
 case c4=>omega
 case c5=>have:=K.size;omega
 intro d M D A I;have l:Hid (d=.slice none 0 0↔v=.slice none 0 0/\s.size=0):=(show _↔_ by simpa using I);clear I
 have Q:b<L.heap.size:=by
  rcases Nat.lt_or_ge b L.heap.size with N|N
  ·exact N
  ·simp[Array.getElem?_eq_none N]at G
 have E:M.heap[b]?=some (.cells (.pointer (some ⟨b,0,none⟩)::v::R).toArray T (0,0)):=by
  rw[A.block b Q (fun e=>S e.symm)];exact G
 have x:M.cell? ⟨b,0,none⟩=some (.pointer (some ⟨b,0,none⟩)):=by rw[Lib.cell_of_heap E];rfl
 have y:M.cell? ⟨b,1,none⟩=some v:=by rw[Lib.cell_of_heap E];rfl
 have z:M.frozen? ⟨b,1,none⟩=false:=Lib.frozen_of_heap E 1
 obtain⟨Y,c,J,rfl⟩:∃Y c J,d=.slice Y c J:=by
  rcases D.2 with⟨U,_⟩|⟨g,J,m,fz,U,_⟩
  ·exact⟨_,_,_,U⟩
  ·exact⟨_,_,_,U⟩
 go_wp2;go_ret2;refine⟨rfl,.inr ?_,?_,(P.grown A (Lib.ownsRowF_kind C)).setCell ⟨b,1,none⟩ rfl _⟩
 ·refine XAt.put E (bs':=bs++Lib.strCells s) (by simpa[Lib.strCells_length]using D) j.o (fun h=>?_);obtain⟨O,n⟩:=List.append_eq_nil_iff.1 h;refine l.o.2 ⟨f.o O,?_⟩;rw[<-Lib.strCells_length,n];rfl
 ·exact(K.grown A (by have:=K.size;omega) (fun k hk=>(C.lt k hk).1)).setCell (p:=⟨b,1,none⟩) (.inl rfl) _
end Go.Proofs.YtelcnplcpboonaaGreatDoor
namespace Go.Proofs.YtelcnplcpboonaaGreatDoor
theorem z2p(wd:Nat):∀(s:List UInt8)(c c':Nat),wd<=c->wd<=c'->(q2w wd c s).1=(q2w wd c' s).1/\(q2w wd c s).2.1=(q2w wd c' s).2.1
 | [],c,c',_,_=>⟨rfl,rfl⟩
 | b::s,c,c',h,h'=>by
  by_cases hb:b=10
  ·simp only[q2w,if_pos hb,and_self]
  ·simp only[q2w,if_neg hb,if_pos h,if_pos h'];obtain⟨e1,e2⟩:=z2p wd s (c+1) (c'+1) (by omega) (by omega);exact⟨by rw[e1],e2⟩
theorem k4w(wd c:Nat)(s:List UInt8):(q2w wd c s).1=(q2w wd (min c wd) s).1/\(q2w wd c s).2.1=(q2w wd (min c wd) s).2.1:=by
 rcases Nat.le_total c wd with h|h
 ·rw[Nat.min_eq_left h];exact⟨rfl,rfl⟩
 ·rw[Nat.min_eq_right h];exact z2p wd s c wd h Zl
theorem v8p(wd c:Nat)(ks:List (Nat × Tr)):bst wd c ks=bst wd (min c wd) ks:=by
 unfold bst q3t
 congr 2
 funext p
 rw[(k4w wd c p.1).1,(k4w wd c p.1).2]
theorem q8p(wd:Nat):∀(s:List UInt8)(c:Nat),(∀b∈s,b≠10)->q2w wd c s=((c+s.length-wd)-(c-wd),0,c+s.length)
 | [],c,_=>by simp[q2w]
 | b::s,c,h=>by
  have hb:b≠10:=h b (by simp);simp only[q2w,if_neg hb,q8p wd s (c+1) (fun x hx=>h x (by simp[hx])),List.length_cons,Prod.mk.injEq,true_and];refine⟨?_,by omega⟩
  split<;>omega
theorem j2n(wd c d:Nat):q2w wd c (10::List.replicate d 32)=(d-wd,1,d):=by
 simp only[q2w,if_pos];rw[q8p wd (List.replicate d 32) 0 (by intro b A;rw[(List.mem_replicate.1 A).2];decide)];simp
/-! ### How much a way may cost at most -/
def Tr.lf:Tr->Nat
 | .leaf _=>1
 | .one _ a=>a.lf
 | .two _ a b=>a.lf+b.lf
def Tr.dsum:Tr->Nat
 | .leaf _=>0
 | .one _ a=>8+a.dsum
 | .two _ a b=>a.dsum+b.dsum
theorem q7y:∀t:Tr,8*t.lf+t.dsum<=8*t.N.length
 | .leaf _=>by simp[Tr.lf,Tr.dsum,Tr.N]
 | .one _ a=>by have:=q7y a;simp only[Tr.lf,Tr.dsum,Tr.N,List.length_cons];omega
 | .two _ a b=>by have:=q7y a;have:=q7y b;simp only[Tr.lf,Tr.dsum,Tr.N,List.length_cons,List.length_append];omega
theorem q7v:∀(t:Tr)(s:List UInt8),t.Wf->t.flat=some s->s.length<=20*t.lf
 | .leaf x,s,h,e=>by
  obtain⟨_,_,_,_,h5,_⟩:=q1s h.1;simp only[Tr.flat]at e;simp only[Tr.lf]
  split at e
  ·rename_i h1;cases e
   have:=q3y (h5 h1)
   have e:=q0y x.tx;omega
  ·split at e
   ·cases e;simp
   ·split at e
    ·cases e
    ·cases e;simp
 | .one x a,s,h,e=>q7v a s h.2.2 e
 | .two x a b,s,h,e=>by
  simp only[Tr.flat]at e;simp only[Tr.lf]
  split at e
  ·cases ha:a.flat with
   | none=>rw[ha]at e;cases e
   | some u=>
    cases hb:b.flat with
    | none=>rw[ha,hb]at e;cases e
    | some v=>
     rw[ha,hb]at e;cases e
     have:=q7v a u h.2.2.1 ha
     have:=q7v b v h.2.2.2 hb
     rw[List.length_append];omega
  ·have:=q7v a s h.2.2.1 e
   omega
theorem q5u:∀(t:Tr)(d:Nat)(p:List UInt8 × List Int),t.Wf->p∈t.outs d->p.1.length<=t.lf*(21+d+t.dsum)
 | .leaf x,d,p,h,hp=>by
  obtain⟨_,_,_,_,h5,_⟩:=q1s h.1;simp only[Tr.outs,List.mem_singleton]at hp;subst hp;simp only[Tr.lf,Tr.dsum]
  split
  ·rename_i h1
   have:=q3y (h5 h1)
   have e:=q0y x.tx;omega
  ·split
   ·simp
   ·simp;omega
 | .one x a,d,p,h,hp=>by
  obtain⟨_,_,_,_,_,h6⟩:=q1s h.1;simp only[Tr.outs]at hp;simp only[Tr.lf,Tr.dsum]
  split at hp
  ·rename_i h7;have h1:=q5u a _ p h.2.2 hp;have h2:a.lf*(21+(d+x.n.toNat)+a.dsum)<=a.lf*(21+d+(8+a.dsum)):=Nat.mul_le_mul_left _ (by have:=h6 h7;omega);omega
  ·rcases List.mem_append.1 hp with hp|hp
   ·cases hf:a.flat with
    | none=>rw[hf]at hp;simp at hp
    | some s=>
     rw[hf]at hp;simp only[List.mem_singleton]at hp;subst hp;have h1:=q7v a s h.2.2 hf;have h2:a.lf*20<=a.lf*(21+d+(8+a.dsum)):=Nat.mul_le_mul_left _ (by omega);dsimp only;omega
   ·obtain⟨q,hq,rfl⟩:=List.mem_map.1 hp;have h1:=q5u a d q h.2.2 hq;have h2:a.lf*(21+d+a.dsum)<=a.lf*(21+d+(8+a.dsum)):=Nat.mul_le_mul_left _ (by omega);dsimp only;omega
 | .two x a b,d,p,h,hp=>by
  simp only[Tr.outs]at hp;simp only[Tr.lf,Tr.dsum];have ma:a.lf*(21+d+a.dsum)<=a.lf*(21+d+(a.dsum+b.dsum)):=Nat.mul_le_mul_left _ (by omega);have mb:b.lf*(21+d+b.dsum)<=b.lf*(21+d+(a.dsum+b.dsum)):=Nat.mul_le_mul_left _ (by omega);rw[Nat.add_mul]
  split at hp
  ·obtain⟨u,hu,hp⟩:=List.mem_flatMap.1 hp;obtain⟨v,hv,rfl⟩:=List.mem_map.1 hp;have h1:=q5u a d u h.2.2.1 hu;have h2:=q5u b d v h.2.2.2 hv;simp only[List.length_append];omega
  ·rcases List.mem_append.1 hp with hp|hp
   ·obtain⟨q,hq,rfl⟩:=List.mem_map.1 hp;have h1:=q5u a d q h.2.2.1 hq;dsimp only;omega
   ·obtain⟨q,hq,rfl⟩:=List.mem_map.1 hp;have h1:=q5u b d q h.2.2.2 hq;dsimp only;omega
def lfK:List (Nat × Tr)->Nat
 | []=>0
 | (_,t)::ks=>t.lf+lfK ks
def KB(M:Nat)(ks:List (Nat × Tr)):Prop:=∀p∈ks,p.1+p.2.dsum<=M/\p.2.Wf
theorem k0g(M:Nat):∀(ks:List (Nat × Tr))(p:List UInt8 × List Int),KB M ks->p∈q4n ks->p.1.length<=lfK ks*(21+M)
 | [],p,_,hp=>by simp only[q4n,List.mem_singleton]at hp;subst hp;simp
 | (d,t)::ks,p,hk,hp=>by
  rw[q4n]at hp;obtain⟨u,hu,hp⟩:=List.mem_flatMap.1 hp;obtain⟨v,hv,rfl⟩:=List.mem_map.1 hp;obtain⟨k1,k2⟩:=hk (d,t) (by simp);have h1:=q5u t d u k2 hu;have h2:=k0g M ks v (fun q hq=>hk q (by simp[hq])) hv;have h3:t.lf*(21+d+t.dsum)<=t.lf*(21+M):=Nat.mul_le_mul_left _ (by dsimp only at k1;omega);simp only[lfK,List.length_append,Nat.add_mul];omega
theorem k2d(wd:Nat):∀(s:List UInt8)(c:Nat),(q2w wd c s).1<=s.length/\(q2w wd c s).2.1<=s.length
 | [],c=>by simp[q2w]
 | b::s,c=>by
  simp only[q2w,List.length_cons]
  split
  ·have:=k2d wd s 0
   dsimp only;omega
  ·have:=k2d wd s (c+1)
   dsimp only
   split<;>omega
def bs(wd c:Nat)(ks:List (Nat × Tr)):Crs:=(bst wd c ks).getD ((0,0),[])
theorem q3a(wd c:Nat)(ks:List (Nat × Tr)):bst wd c ks=some (bs wd c ks):=by
 obtain⟨a,h⟩:=k4p wd c ks;rw[bs,h];rfl
theorem y8m(wd c M:Nat)(ks:List (Nat × Tr))(h:KB M ks):(bs wd c ks).1.1<=lfK ks*(21+M)/\(bs wd c ks).1.2<=lfK ks*(21+M):=by
 obtain⟨p,q,e,_,_⟩:=z6y (q3a wd c ks);have A:bs wd c ks∈q3t wd c ks:=by rw[e];simp
 obtain⟨x,C,B⟩:=List.mem_map.1 A;rw[<-B];have D:=k0g M ks x h C;have E:=k2d wd x.1 c;dsimp only;omega
theorem most:∀D,D<401->(400-D)*(21+8*D)<=400000:=by
 set_option maxRecDepth 100000 in decide
theorem y1b{L M n:Nat}(h:8*L+M<=8*n)(hn:n<=400):L*(21+M)<=400000:=by
 have A:=most ((M+7) / 8) (by omega);have B:L*(21+M)<=(400-(M+7) / 8)*(21+8*((M+7) / 8)):=Nat.mul_le_mul (by omega) (by omega);omega
theorem y3y(wd c:Nat):bs wd c []=((0,0),[]):=by rw[bs,v8q];rfl
theorem j1x(wd c:Nat)(ks:List (Nat × Tr)):bs wd c ks=bs wd (min c wd) ks:=by rw[bs,v8p];rfl
theorem v8n{wd c d:Nat}{x:Nd}{ks:List (Nat × Tr)}(hx:q0r x=0)(h:x.op=1)(hc:c<=wd):bs wd c ((d,.leaf x)::ks)=q4v (c+x.tx.size-wd) 0 [] (bs wd (min (c+x.tx.size) wd) ks):=by
 have A:∀b∈x.tx.data.toList,b≠10:=j9c hx h;have e:=z6m wd c d x ks x.tx.data.toList (by rw[if_pos h]);rw[q8p wd _ c A,q0y,q3a,q3a wd (c+x.tx.size),Option.map_some,Option.some.injEq,j1x wd (c+x.tx.size)]at e;rw[e,Nat.sub_eq_zero_of_le hc,Nat.sub_zero]
theorem v8m{wd c d:Nat}{x:Nd}{ks:List (Nat × Tr)}(h:x.op≠1/\x.op≠5):bs wd c ((d,.leaf x)::ks)=q4v (d-wd) 1 [] (bs wd (min d wd) ks):=by
 have e:=z6m wd c d x ks (10::List.replicate d 32) (by rw[if_neg h.1,if_neg h.2]);rw[j2n,q3a,q3a wd d,Option.map_some,Option.some.injEq,j1x wd d]at e;exact e
theorem v8o{wd c d:Nat}{x:Nd}{ks:List (Nat × Tr)}(h:x.op=5):bs wd c ((d,.leaf x)::ks)=q4v 0 0 [] (bs wd c ks):=by
 have e:=z6m wd c d x ks [] (by rw[if_neg (by omega),if_pos h]);rw[q3a,q2w,q3a wd c ks,Option.map_some,Option.some.injEq]at e;exact e
theorem v8k{wd c d:Nat}{x:Nd}{a:Tr}{ks:List (Nat × Tr)}(h:x.op=7):bs wd c ((d,.one x a)::ks)=bs wd c ((d+x.n.toNat,a)::ks):=by rw[bs,v0t wd c d x a ks h];rfl
theorem v8j{wd c d:Nat}{x:Nd}{a b:Tr}{ks:List (Nat × Tr)}(h:x.op=6):bs wd c ((d,.two x a b)::ks)=bs wd c ((d,a)::(d,b)::ks):=by rw[bs,v0s wd c d x a b ks h];rfl
theorem j1w{wd c d:Nat}{x:Nd}{a b:Tr}{ks:List (Nat × Tr)}(h:x.op≠6):bs wd c ((d,.two x a b)::ks)=k6o (q4v 0 0 [0] (bs wd c ((d,a)::ks))) (q4v 0 0 [1] (bs wd c ((d,b)::ks))):=by
 have e:=k7u wd c d x a b ks h;rw[q3a,q3a wd c ((d,a)::ks),q3a wd c ((d,b)::ks),Option.map_some,Option.map_some,q6i,Option.some.injEq]at e;exact e
theorem v0r{wd c d:Nat}{x:Nd}{a:Tr}{ks:List (Nat × Tr)}{s:List UInt8}(h:x.op≠7)(ha:a.Wf)(hf:a.flat=some s)(hc:c<=wd):
  bs wd c ((d,.one x a)::ks)=k6o (q4v (c+s.length-wd) 0 [0] (bs wd (min (c+s.length) wd) ks)) (q4v 0 0 [1] (bs wd c ((d,a)::ks))):=by
 have e:=z8v wd c d x a ks h;rw[hf]at e;dsimp only at e;rw[q8p wd _ c (q5f a s ha hf),q3a,q3a wd (c+s.length),q3a wd c ((d,a)::ks),Option.map_some,Option.map_some,q6i,Option.some.injEq,j1x wd (c+s.length)]at e;rw[e,Nat.sub_eq_zero_of_le hc,Nat.sub_zero]
theorem v8l{wd c d:Nat}{x:Nd}{a:Tr}{ks:List (Nat × Tr)}(h:x.op≠7)(hf:a.flat=none):bs wd c ((d,.one x a)::ks)=q4v 0 0 [1] (bs wd c ((d,a)::ks)):=by
 have e:=z8v wd c d x a ks h;rw[hf]at e;dsimp only at e;rw[q3a,q3a wd c ((d,a)::ks),Option.map_some,q6i,Option.some.injEq]at e;exact e
def Tr.txt(t:Tr)(u:List Int):List UInt8:=match t.show u with| .ok s=>s| .error _=>[]
theorem j6n{t:Tr}{p:List UInt8 × List Int}(h:p∈t.outs 0):t.show p.2=.ok p.1:=by
 have B:p.2∈t.ways:=by rw[<-q2u t 0];exact List.mem_map.2 ⟨p,h,rfl⟩
 have A:=q5t t 0 p h [];rw[List.append_nil]at A;unfold Tr.show;rw[if_pos (k7m.2 (q6v t _ B)),A]
theorem v3p{t:Tr}{p:List UInt8 × List Int}(h:p∈t.outs 0):t.txt p.2=p.1:=by rw[Tr.txt,j6n h]
def Tr.cst(t:Tr)(wd:Nat)(u:List Int):Nat × Nat:=((q2w wd 0 (t.txt u)).1,(q2w wd 0 (t.txt u)).2.1)
theorem k8q(t:Tr)(wd:Nat):q3t wd 0 [(0,t)]=t.ways.map fun u=>(t.cst wd u,u):=by
 have A:q4n [(0,t)]=t.outs 0:=by simp[q4n]
 unfold q3t;rw[A,<-q2u t 0,List.map_map];refine List.map_congr_left fun p hp=>?_
 simp only[Function.comp,Tr.cst,v3p hp]
def Tr.best(t:Tr)(wd:Nat):Option Crs:=fm (t.ways.map fun u=>(t.cst wd u,u))
theorem z1u(t:Tr)(wd:Nat):t.best wd=bst wd 0 [(0,t)]:=by rw[Tr.best,<-k8q];rfl
theorem j1o(t:Tr)(wd:Nat):∃a,t.best wd=some a:=by rw[z1u];exact k4p wd 0 _
theorem z4y:∀u:List Int,¬q2g u u
 | []=>by simp[q2g]
 | a::u=>by simp only[q2g,if_pos];exact z4y u
theorem z2l:∀{u v:List Int},q2g u v->¬q2g v u
 | a::u,b::v,h=>by
  simp only[q2g]at h⊢;by_cases e:a=b
  ·subst e;rw[if_pos rfl]at h⊢;exact z2l h
  ·rw[if_neg e]at h;rw[if_neg fun k=>e k.symm];omega
theorem z0a{t:Tr}{wd:Nat}{a:Crs}(h:t.best wd=some a):a.2∈t.ways/\t.show a.2=.ok (t.txt a.2)/\a.1=t.cst wd a.2/\∀w∈t.ways,¬q2y (t.cst wd w) a.1/\(t.cst wd w=a.1->¬q2g w a.2):=by
 obtain⟨p,q,e,K,L⟩:=z6y h;obtain⟨N,r,C,E,G⟩:=List.map_eq_append_iff.1 e;obtain⟨x,O,H,I,J⟩:=List.map_eq_cons_iff.1 G;subst H E J I;have B:x∈t.ways:=by rw[C];simp
 have D:=q9s t;rw[C]at D;refine⟨B,?_,rfl,fun w A=>?_⟩
 ·obtain⟨s,M⟩:=(k0w t x).2 B;simp only[Tr.txt,M]
 ·rw[C]at A;dsimp only;rcases List.mem_append.1 A with A|A
  ·have:=K _ (List.mem_map.2 ⟨w,A,rfl⟩)
   dsimp only at this;refine⟨?_,fun k=>?_⟩
   ·unfold q2y at *;omega
   ·rw[k]at this;unfold q2y at this;omega
  ·rcases List.mem_cons.1 A with rfl|A
   ·refine⟨?_,fun _=>z4y _⟩;unfold q2y;omega
   ·refine⟨L _ (List.mem_map.2 ⟨w,A,rfl⟩),fun _=>z2l ?_⟩;exact(List.pairwise_cons.1 (List.pairwise_append.1 D).2.1).1 w A
end Go.Proofs.YtelcnplcpboonaaGreatDoor
namespace Go.Proofs.YtelcnplcpboonaaGreatDoor
open Go Go.RowKit
set_option maxRecDepth 100000
set_option maxHeartbeats 2000000
theorem j9n(T B b:Nat)(l:List UInt8)(R:List Value)(w:World)(h:IsX T B b (Lib.byteCells l) R w)(h0:l≠[]):
  Calls prog 12 #[.pointer (some ⟨b,0,none⟩)] w fun e w'=>e=.returned (.string ⟨l.toArray⟩)/\Below B w w':=by
 obtain⟨p,G⟩:=h.at;obtain⟨v,I,D,V,_⟩:=G;have L:l.length≠0:=by simpa using h0
 rw[Lib.byteCells_length]at D
 obtain⟨g,A,C,E,rfl,H,S,Q,U,J,P,M⟩:∃g A C E,v=.slice (some ⟨g,0,none⟩) l.length A/\B<=g/\w.heap[g]?=some (.cells C 5 E)/\E.2<=l.length*1/\l.length<=A/\A<=maxLen/\C.size=A*1/\C.toList.take (l.length*1)=Lib.byteCells l:=by
  rcases D.2 with⟨_,Y⟩|⟨g,A,C,E,W,r⟩
  ·exact absurd Y L
  ·exact⟨g,A,C,E,W,r⟩
 have Z:w.drew.cell? ⟨b,1,none⟩=some (.slice (some ⟨g,0,none⟩) l.length A):=by
  have:w.drew.heap[b]?=some (.cells (p::.slice (some ⟨g,0,none⟩) l.length A::R).toArray T (0,0)):=I
  rw[Lib.cell_of_heap this];rfl
 have N:(Builtin.unsafeSliceData_ #[36] 68 #[.slice (some ⟨g,0,none⟩) l.length A]).run prog w.drew=.ok (.pointer (some ⟨g,0,none⟩)) w.drew:=
  Lib.run_unsafeSliceData_row _ _ _ _ _ _ (by omega)
 have O:(Builtin.unsafeString_ #[68,3] 9 #[.pointer (some ⟨g,0,none⟩),.int .i64 l.length]).run prog w.drew=.ok (.string ⟨l.toArray⟩) (w.drew.freeze ⟨g,0,none⟩ l.length):=by
  refine Lib.run_unsafeString_row w.drew 68 3 9 5 Tryz.underlying68 j9i g C.size (by have K:w.drew.heap[g]?=some (.cells C 5 E):=S;simp[World.shape?,K]) l h0 (by omega) (by unfold maxLen at J;omega) ?_;intro j x X
  have:=D.cells (g:=g) rfl j (.int .u8 x.toNat) (by simp[Lib.byteCells,X])
  exact this
 go_in;go_wp2
 go_region
 all_goals (go_wp2;go_ret;exact⟨rfl,Lib.below_freeze (Below.drew (Below.refl B w)) (p:=⟨g,0,none⟩) H _⟩)
theorem j9m(T B b:Nat)(R:List Value)(w:World)(h:IsX T B b [] R w):
  Calls prog 12 #[.pointer (some ⟨b,0,none⟩)] w fun e w'=>e=.returned (.string ⟨#[]⟩)/\Below B w w':=by
 obtain⟨p,C⟩:=h.at;obtain⟨v,D,A,E,G⟩:=C;obtain rfl:=G rfl;clear A E G;have I:∀(W:World)(q:Option Addr),(Builtin.unsafeString_ #[68,3] 9 #[.pointer q,.int .i64 0]).run prog W=.ok (.string .empty) W:=fun W q=>Lib.run_unsafeString_none W _ _ _ q
 have J:w.drew.cell? ⟨b,1,none⟩=some (.slice none 0 0):=by
  have:w.drew.heap[b]?=some (.cells (p::.slice none 0 0::R).toArray T (0,0)):=D
  rw[Lib.cell_of_heap this];rfl
 have H:(Builtin.unsafeSliceData_ #[36] 68 #[.slice none 0 0]).run prog w.drew=.ok (.pointer none) w.drew:=rfl;go_in;go_wp2
 go_region
 all_goals (go_wp2;go_ret;exact⟨rfl,Below.drew (Below.refl B w)⟩)
theorem z2d(T B b:Nat)(l:List UInt8)(R:List Value)(w:World)(h:IsX T B b (Lib.byteCells l) R w):
  Calls prog 12 #[.pointer (some ⟨b,0,none⟩)] w fun e w'=>e=.returned (.string ⟨l.toArray⟩)/\Below B w w':=by
 by_cases A:l=[]
 ·subst A;exact j9m T B b R w h
 ·exact j9n T B b l R w h A
def j3q(n:Int):Bool:=decide (0<=n)&&decide (n<=1000000)
def okC(c:Int × Int):Bool:=j3q c.1&&j3q c.2
theorem z2w{n:Int}(h:j3q n=true):0<=n/\n<=1000000:=by simpa[j3q]using h
theorem k8i{n:Int}(h:j3q n=false):n<0\/(0<=n/\1000000<n):=by
 simp[j3q]at h;omega
theorem z6u(n:Int)(w:World):Calls prog 294 #[.int .i64 n] w fun e w'=>e=.returned (.bool (j3q n))/\w=w':=by
 cases h:j3q n with
 | true=>
  obtain⟨A,C⟩:=z2w h;clear h;go_in;go_wp2;go_ret;exact⟨rfl,rfl⟩
 | false=>
  rcases k8i h with A|⟨A,C⟩
  ·have B:¬0<=n:=by omega
   clear h;go_in;go_wp2;go_ret;exact⟨rfl,rfl⟩
  ·have D:¬n<=1000000:=by omega
   clear h;go_in;go_wp2;go_ret;exact⟨rfl,rfl⟩
theorem z8x(cs:List (Int × Int))(B:Nat)(w:World)(hB:B<w.heap.size)(M:cs.length<=2)
  (hc:∀j(h:j<cs.length),w.cell? ⟨B,j*2,none⟩=some (.int .i64 cs[j].1)/\w.cell? ⟨B,j*2+1,none⟩=some (.int .i64 cs[j].2)):
  Calls prog 290 #[.slice (some ⟨B,0,none⟩) cs.length cs.length] w fun e w'=>((∃c∈cs,okC c=false)/\e=.returned (.iface 50 (.int .i64 1))\/(∀c∈cs,okC c=true)/\e=.returned .nilIface)/\Below w w w':=by
 go_in;go_wp2
 go_loopw [7] (fun i wr=>∃k:Nat,k<=cs.length/\i=.int .i64 k/\(∀c∈cs.take k,okC c=true)/\Below w w wr) (fun i _=>cs.length-(intOf i).toNat)
 case atStart=>exact⟨0,Nat.zero_le _,rfl,by simp,Below.refl _ _⟩
 case round=>
  obtain⟨k,P,rfl,D,G⟩:=hrel;by_cases A:k<cs.length
  ·have I:=(hc k A).1;have J:=(hc k A).2;have N:wr.cell? ⟨B,k*2,none⟩=some (.int .i64 cs[k].1):=(G.cell (p:=⟨B,k*2,none⟩) hB).trans I;have O:wr.cell? ⟨B,k*2+1,none⟩=some (.int .i64 cs[k].2):=(G.cell (p:=⟨B,k*2+1,none⟩) hB).trans J;clear I J hc;have H:w.heap.size<=wr.heap.size:=G.size;have E:Below w w (wr.alloc (.cells #[.int .i64 cs[k].1,.int .i64 cs[k].2] 120)):=G.alloc H _;cases K:j3q cs[k].1 with
   | false=>
    go_wp2_with(go_at_call 294;refine(z6u _ _).mono ?_;rintro e w'⟨rfl,rfl⟩);go_ret;exact⟨.inl ⟨⟨cs[k],List.getElem_mem A,by simp[okC,K]⟩,rfl⟩,E⟩
   | true=>
    cases L:j3q cs[k].2 with
    | false=>
     go_wp2_with(go_at_call 294;refine(z6u _ _).mono ?_;rintro e w'⟨rfl,rfl⟩);go_ret;exact⟨.inl ⟨⟨cs[k],List.getElem_mem A,by simp[okC,L]⟩,rfl⟩,E⟩
    | true=>
     go_wp2_with(go_at_call 294;refine(z6u _ _).mono ?_;rintro e w'⟨rfl,rfl⟩)
     go_roundw
     case rel=>
      refine⟨k+1,by omega,by go_num,?_,E⟩;intro c C;rw[List.take_succ_eq_append_getElem A]at C;rcases List.mem_append.1 C with h|h
      ·exact D c h
      ·simp at h;subst h;simp[okC,K,L]
     case measure=>simp[intOf];omega
  ·go_wp2;go_ret;exact⟨.inr ⟨fun c C=>D c (by rw[List.take_of_length_le (by omega)];exact C),rfl⟩,G⟩
theorem z2o(a b:Int × Int)(B:Nat)(w:World)(hB:B<w.heap.size)(ha:okC a=true)(hb:okC b=true)
  (h0:w.cell? ⟨B,0,none⟩=some (.int .i64 a.1)) (h1:w.cell? ⟨B,1,none⟩=some (.int .i64 a.2)) (h2:w.cell? ⟨B,2,none⟩=some (.int .i64 b.1)) (h3:w.cell? ⟨B,3,none⟩=some (.int .i64 b.2)):
  Calls prog 290 #[.slice (some ⟨B,0,none⟩) 2 2] w fun e w'=>e=.returned .nilIface/\Below w w w':=by
 refine(z8x [a,b] B w hB (by simp) ?_).mono ?_
 ·intro j E
  match j,E with
  | 0,_=>exact⟨h0,h1⟩
  | 1,_=>exact⟨h2,h3⟩
 ·rintro e w'⟨⟨⟨c,C,A⟩,D⟩|⟨_,D⟩,hB⟩
  ·simp at C;rcases C with rfl|rfl
   ·rw[ha]at A;cases A
   ·rw[hb]at A;cases A
  ·exact⟨D,hB⟩
theorem j2e(a:Int × Int)(B:Nat)(w:World)(hB:B<w.heap.size)(ha:okC a=true)
  (h0:w.cell? ⟨B,0,none⟩=some (.int .i64 a.1)) (h1:w.cell? ⟨B,1,none⟩=some (.int .i64 a.2)):
  Calls prog 290 #[.slice (some ⟨B,0,none⟩) 1 1] w fun e w'=>e=.returned .nilIface/\Below w w w':=by
 refine(z8x [a] B w hB (by simp) ?_).mono ?_
 ·intro j E
  match j,E with
  | 0,_=>exact⟨h0,h1⟩
 ·rintro e w'⟨⟨⟨c,A,D⟩,C⟩|⟨_,C⟩,hB⟩
  ·simp at A;subst A;rw[ha]at D;cases D
  ·exact⟨C,hB⟩
abbrev v1c(a:Int × Int):Value:=.agg #[.int .i64 a.1,.int .i64 a.2]
def z7c(a b:Int × Int):Bool:=if a.1=b.1 then decide (a.2<b.2)else decide (a.1<b.1)
theorem v5w{w w1:World}{A B C:Obj}(hb:Below (((w.alloc A).alloc B).alloc C).heap.size (((w.alloc A).alloc B).alloc C) w1):Below w w w1:=
 (((Zb.alloc Zl _).alloc (by simp) _).alloc (by simp;omega) _).trans (hb.mono (by simp;omega))
theorem y0e(a b:Int × Int)(w:World)(ha:okC a=true)(hb:okC b=true):
  Calls prog 276 #[v1c a,v1c b] w fun e w'=>e=.returned (.tuple #[.bool (z7c a b),.nilIface])/\Below w w w':=by
 have D:Hid (okC a=true):=ha;have E:Hid (okC b=true):=hb;clear ha hb;by_cases h:a.1=b.1
 ·have C:z7c a b=decide (a.2<b.2):=by simp[z7c,h]
  rw[C];have G:(a.1 != b.1)=false:=by simp[h]
  clear h C;go_in;go_wp2_with fail;refine(z2o a b (w.heap.size+1+1) _ (by simp) D.o E.o (by simp[go_sem]) (by simp[go_sem]) (by simp[go_sem]) (by simp[go_sem])).mono ?_;rintro e I⟨rfl,A⟩;have B:=v5w A;obtain⟨H,_⟩:=q0t A;clear A;go_wp2;go_ret2;exact⟨rfl,B⟩
 ·have C:z7c a b=decide (a.1<b.1):=by simp[z7c,h]
  rw[C];have G:(a.1 != b.1)=true:=by simp[h]
  clear h C;go_in;go_wp2_with fail;refine(z2o a b (w.heap.size+1+1) _ (by simp) D.o E.o (by simp[go_sem]) (by simp[go_sem]) (by simp[go_sem]) (by simp[go_sem])).mono ?_;rintro e I⟨rfl,A⟩;have B:=v5w A;obtain⟨H,_⟩:=q0t A;clear A;go_wp2;go_ret2;exact⟨rfl,B⟩
def q0w(s:Nat)(w:World)(a:Option Addr)(ds:List Nd):Prop:=
 ∀i(h:i<ds.length),∃o,a=some ⟨s,o,none⟩/\w.cell? ⟨s,o+i*3,none⟩=some (.int .i64 ds[i].op)/\w.cell? ⟨s,o+i*3+1,none⟩=some (.string ds[i].tx)/\w.cell? ⟨s,o+i*3+2,none⟩=some (.int .i64 ds[i].n)
theorem q2z.s{w:World}{a:Option Addr}{ds:List Nd}(h:q2z w a ds)(h0:ds≠[]):∃s,s<w.heap.size/\q0w s w a ds:=by
 obtain⟨s,o,rfl,A,_⟩:=h 0 (List.length_pos_iff.2 h0);refine⟨s,A,fun i hi=>?_⟩;obtain⟨b,B,e,_,c⟩:=h i hi;simp only[Option.some.injEq,Addr.mk.injEq,and_true]at e;obtain⟨rfl,rfl⟩:=e;exact⟨o,rfl,c⟩
theorem q0w.nods{s:Nat}{w:World}{a:Option Addr}{ds:List Nd}(h:q0w s w a ds)(hs:s<w.heap.size):q2z w a ds:=by
 intro i A;obtain⟨o,e,c⟩:=h i A;exact⟨s,o,e,hs,c⟩
theorem q0w.kept{s:Nat}{w w':World}{a:Option Addr}{ds:List Nd}(h:q0w s w a ds)(hb:w'.heap[s]?=w.heap[s]?):q0w s w' a ds:=by
 intro i E;obtain⟨o,e,B,C,D⟩:=h i E;have A:∀j,w'.cell? ⟨s,j,none⟩=w.cell? ⟨s,j,none⟩:=fun j=>World.cell?_of_block (w:=w) (a:=⟨s,j,none⟩) hb
 exact⟨o,e,(A _).trans B,(A _).trans C,(A _).trans D⟩
theorem q0w.rest{s:Nat}{w:World}{o:Nat}{x:Nd}{ds:List Nd}(h:q0w s w (some ⟨s,o,none⟩) (x::ds)):q0w s w (some ⟨s,o+3,none⟩) ds:=by
 intro i D;obtain⟨E,e,A,B,C⟩:=h (i+1) (by simp;omega);simp only[Option.some.injEq,Addr.mk.injEq,and_true,true_and]at e;obtain rfl:=e;refine⟨o+3,rfl,?_,?_,?_⟩
 ·rw[show o+3+i*3=o+(i+1)*3 by omega];exact A
 ·rw[show o+3+i*3+1=o+(i+1)*3+1 by omega];exact B
 ·rw[show o+3+i*3+2=o+(i+1)*3+2 by omega];exact C
theorem q0w.slid{s:Nat}{w:World}{o A:Nat}{x:Nd}{ds:List Nd}(h:q0w s w (some ⟨s,o,none⟩) (x::ds))(hc:ds.length+1<=A):
  q0w s w (if A=1 then some ⟨s,o,none⟩else some ⟨s,o+3,none⟩) ds:=by
 by_cases B:A=1
 ·have:ds=[]:=List.eq_nil_of_length_eq_zero (by omega)
  subst this;exact fun i hi=>by simp at hi
 ·rw[if_neg B];exact h.rest
end Go.Proofs.YtelcnplcpboonaaGreatDoor
