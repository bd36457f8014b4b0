import Derived.Test.YtfdppahhbpfnoaaGreatDoorPb00
open Go.Proofs.Tryz
namespace Go.Proofs.YtfdppahhbpfnoaaGreatDoor
def q1p(wd:Nat):Nat->List UInt8->Nat × Nat × Nat
 | c,[]=>(0,0,c)
 | c,b::s=>if b=10 then((q1p wd 0 s).1,(q1p wd 0 s).2.1+1,(q1p wd 0 s).2.2)else((if wd<=c then 1 else 0)+(q1p wd (c+1) s).1,(q1p wd (c+1) s).2.1,(q1p wd (c+1) s).2.2)
theorem z2u(wd:Nat):∀(c:Nat)(s t:List UInt8),q1p wd c (s++t)=((q1p wd c s).1+(q1p wd (q1p wd c s).2.2 t).1,(q1p wd c s).2.1+(q1p wd (q1p wd c s).2.2 t).2.1,(q1p wd (q1p wd c s).2.2 t).2.2)
 | c,[],t=>by simp[q1p]
 | c,b::s,t=>by
  simp only[List.cons_append,q1p]
  split
  ·rw[z2u wd 0 s t];simp only[Prod.mk.injEq,and_true,true_and];omega
  ·rw[z2u wd (c+1) s t];simp only[Prod.mk.injEq,and_true];omega
abbrev Crs:=(Nat × Nat) × List Int
def q3f(a b:Nat × Nat):Prop:=a.1<b.1\/(a.1=b.1/\a.2<b.2)
instance(a b:Nat × Nat):Decidable (q3f a b):=by unfold q3f;infer_instance
def k9a(a b:Crs):Crs:=if q3f b.1 a.1 then b else a
def q7c:Option Crs->Option Crs->Option Crs
 | none,y=>y
 | x,none=>x
 | some a,some b=>some (k9a a b)
theorem j1e(a b c:Crs):k9a (k9a a b) c=k9a a (k9a b c):=by
 by_cases A:q3f b.1 a.1<;>by_cases B:q3f c.1 b.1<;>by_cases C:q3f c.1 a.1
 all_goals first
  | (simp[k9a,A,B,C];done)
  | (exfalso;unfold q3f at A B C;omega)
theorem k6k(x y z:Option Crs):q7c (q7c x y) z=q7c x (q7c y z):=by
 cases x<;>cases y<;>cases z<;>simp[q7c,j1e]
def fm:List Crs->Option Crs
 | []=>none
 | a::l=>q7c (some a) (fm l)
theorem j4y:∀l m:List Crs,fm (l++m)=q7c (fm l) (fm m)
 | [],m=>by cases h:fm m<;>simp[fm,q7c,h]
 | a::l,m=>by rw[List.cons_append,fm,fm,j4y l m,k6k]
def q5f(o l:Nat)(u:List Int)(a:Crs):Crs:=((o+a.1.1,l+a.1.2),u++a.2)
theorem k1z(o l:Nat)(u:List Int)(a b:Crs):q3f (q5f o l u b).1 (q5f o l u a).1↔q3f b.1 a.1:=by
 unfold q3f q5f;dsimp only;omega
theorem j8s(o l:Nat)(u:List Int)(a b:Crs):k9a (q5f o l u a) (q5f o l u b)=q5f o l u (k9a a b):=by
 unfold k9a;by_cases h:q3f b.1 a.1
 ·rw[if_pos h,if_pos ((k1z o l u a b).2 h)]
 ·rw[if_neg h,if_neg fun k=>h ((k1z o l u a b).1 k)]
theorem z1j(o l:Nat)(u:List Int):∀az:List Crs,fm (az.map (q5f o l u))=(fm az).map (q5f o l u)
 | []=>rfl
 | a::az=>by
  rw[List.map_cons,fm,z1j o l u az,fm];cases fm az with
  | none=>rfl
  | some b=>simp[q7c,j8s]
theorem j4z:∀{l:List Crs},fm l=none->l=[]
 | [],_=>rfl
 | a::l,h=>by
  rw[fm]at h;cases hl:fm l<;>rw[hl]at h<;>simp[q7c]at h
theorem z8f:∀{l:List Crs}{a:Crs},fm l=some a->∃(p q:List Crs),l=p++a::q/\(∀b∈p,q3f a.1 b.1)/\∀b∈q,¬q3f b.1 a.1
 | b::l,a,h=>by
  rw[fm]at h;cases hl:fm l with
  | none=>
   rw[hl]at h;obtain rfl:=j4z hl;simp only[q7c,Option.some.injEq]at h;subst h;exact⟨[],[],rfl,by simp,by simp⟩
  | some c=>
   rw[hl]at h;obtain⟨p,q,rfl,h1,h2⟩:=z8f hl;simp only[q7c,Option.some.injEq,k9a]at h
   split at h
   ·rename_i hlt;subst h;refine⟨b::p,q,rfl,fun d hd=>?_,h2⟩;rcases List.mem_cons.1 hd with rfl|hd
    ·exact hlt
    ·exact h1 d hd
   ·rename_i hlt;subst h;refine⟨[],p++c::q,rfl,by simp,fun d hd=>?_⟩;rcases List.mem_append.1 hd with hd|hd
    ·have:=h1 d hd
     unfold q3f at *;omega
    ·rcases List.mem_cons.1 hd with rfl|hd
     ·exact hlt
     ·have:=h2 d hd
      unfold q3f at *;omega
def Tr.outs:Tr->Nat->List (List UInt8 × List Int)
 | .leaf x,deep=>[(if x.op=1 then x.tx.data.toList else if x.op=5 then []else 10::List.replicate deep 32,[])]
 | .one x a,deep=>if x.op=7 then a.outs (deep+x.n.toNat)else(match a.flat with|none=>[]|some s=>[(s,[0])])++(a.outs deep).map fun p=>(p.1,1::p.2)
 | .two x a b,deep=>if x.op=6 then(a.outs deep).flatMap fun p=>(b.outs deep).map fun q=>(p.1++q.1,p.2++q.2)else((a.outs deep).map fun p=>(p.1,0::p.2))++(b.outs deep).map fun p=>(p.1,1::p.2)
theorem q3g:∀(t:Tr)(deep:Nat),(t.outs deep).map (·.2)=t.ways
 | .leaf x,deep=>by simp[Tr.outs,Tr.ways]
 | .one x a,deep=>by
  simp only[Tr.outs,Tr.ways]
  split
  ·exact q3g a _
  ·rw[List.map_append,<-q3g a deep]
   congr 1
   ·cases h:a.flat<;>simp[Tr.isFlat,h]
   ·rw[List.map_map,List.map_map];rfl
 | .two x a b,deep=>by
  simp only[Tr.outs,Tr.ways]
  split
  ·rw[<-q3g a deep,<-q3g b deep,List.map_flatMap,List.flatMap_map]
   congr 1
   funext p
   rw[List.map_map,List.map_map];rfl
  ·rw[<-q3g a deep,<-q3g b deep,List.map_append,List.map_map,List.map_map,List.map_map,List.map_map];rfl
theorem q6g:∀(t:Tr)(deep:Nat)(p:List UInt8 × List Int),p∈t.outs deep->∀r,t.lay deep (p.2++r)=.ok (p.1,r)
 | .leaf x,deep,p,h,r=>by
  simp only[Tr.outs,List.mem_singleton]at h;subst h;simp only[Tr.lay,List.nil_append]
  split
  ·rfl
  ·split<;>rfl
 | .one x a,deep,p,h,r=>by
  simp only[Tr.outs]at h;simp only[Tr.lay]
  split at h
  ·rename_i h7;rw[if_pos h7];exact q6g a _ p h r
  ·rename_i h7;rw[if_neg h7];rcases List.mem_append.1 h with h|h
   ·cases hf:a.flat with
    | none=>rw[hf]at h;simp at h
    | some s=>
     rw[hf]at h;simp only[List.mem_singleton]at h;subst h;simp
   ·obtain⟨q,hq,rfl⟩:=List.mem_map.1 h;simp only[List.cons_append,if_pos];exact q6g a deep q hq r
 | .two x a b,deep,p,h,r=>by
  simp only[Tr.outs]at h;simp only[Tr.lay]
  split at h
  ·rename_i h6;rw[if_pos h6];obtain⟨u,hu,hp⟩:=List.mem_flatMap.1 h;obtain⟨v,hv,rfl⟩:=List.mem_map.1 hp;dsimp only;rw[List.append_assoc,q6g a deep u hu (v.2++r)];dsimp only;rw[q6g b deep v hv r]
  ·rename_i h6;rw[if_neg h6];rcases List.mem_append.1 h with h|h
   ·obtain⟨q,hq,rfl⟩:=List.mem_map.1 h;simp only[List.cons_append,if_pos];exact q6g a deep q hq r
   ·obtain⟨q,hq,rfl⟩:=List.mem_map.1 h;simp only[List.cons_append];rw[if_neg (by decide)];exact q6g b deep q hq r
def q4t:List (Nat × Tr)->List (List UInt8 × List Int)
 | []=>[([],[])]
 | (d,t)::ks=>(t.outs d).flatMap fun p=>(q4t ks).map fun q=>(p.1++q.1,p.2++q.2)
def q3x(wd c:Nat)(ks:List (Nat × Tr)):List Crs:=(q4t ks).map fun p=>(((q1p wd c p.1).1,(q1p wd c p.1).2.1),p.2)
def bst(wd c:Nat)(ks:List (Nat × Tr)):Option Crs:=fm (q3x wd c ks)
theorem y0q(wd c:Nat):bst wd c []=some ((0,0),[]):=by simp[bst,q3x,q4t,q1p,fm,q7c]
theorem z6d(wd c:Nat)(s:List UInt8)(u:List Int)(ks:List (Nat × Tr)):((q4t ks).map fun q=>(s++q.1,u++q.2)).map (fun p=>(((q1p wd c p.1).1,(q1p wd c p.1).2.1),p.2))=(q3x wd (q1p wd c s).2.2 ks).map (q5f (q1p wd c s).1 (q1p wd c s).2.1 u):=by
 unfold q3x;rw[List.map_map,List.map_map]
 congr 1
 funext q
 simp only[Function.comp,z2u,q5f]
theorem z7t(wd c d:Nat)(x:Nd)(ks:List (Nat × Tr))(s:List UInt8)(hs:s=if x.op=1 then x.tx.data.toList else if x.op=5 then []else 10::List.replicate d 32):
  bst wd c ((d,.leaf x)::ks)=(bst wd (q1p wd c s).2.2 ks).map (q5f (q1p wd c s).1 (q1p wd c s).2.1 []):=by
 unfold bst;rw[<-z1j,<-z6d,q3x,q4t,Tr.outs,<-hs];simp
theorem v2m(wd c d:Nat)(x:Nd)(a:Tr)(ks:List (Nat × Tr))(h:x.op=7):bst wd c ((d,.one x a)::ks)=bst wd c ((d+x.n.toNat,a)::ks):=by
 unfold bst q3x;rw[q4t,q4t,Tr.outs,if_pos h]
theorem z3y(wd c d:Nat)(k:Int)(a:Tr)(ks:List (Nat × Tr)):((((a.outs d).map fun p=>(p.1,k::p.2)).flatMap fun p=>(q4t ks).map fun q=>(p.1++q.1,p.2++q.2)).map (fun p=>(((q1p wd c p.1).1,(q1p wd c p.1).2.1),p.2)))=(q3x wd c ((d,a)::ks)).map (q5f 0 0 [k]):=by
 unfold q3x;rw[q4t,List.flatMap_map,List.map_map,List.map_flatMap,List.map_flatMap]
 congr 1
 funext p
 rw[List.map_map,List.map_map]
 congr 1
 funext q
 simp[Function.comp,q5f]
theorem k0w(wd c d:Nat)(x:Nd)(a:Tr)(ks:List (Nat × Tr))(h:x.op≠7):
  bst wd c ((d,.one x a)::ks)=q7c (match a.flat with|none=>none|some s=>(bst wd (q1p wd c s).2.2 ks).map (q5f (q1p wd c s).1 (q1p wd c s).2.1 [0])) ((bst wd c ((d,a)::ks)).map (q5f 0 0 [1])):=by
 unfold bst;rw[<-z1j,<-z3y];rw[q3x,q4t,Tr.outs,if_neg h,List.flatMap_append,List.map_append,j4y]
 congr 1
 cases A:a.flat with
 | none=>rfl
 | some s=>
  dsimp only;rw[<-z1j,<-z6d];simp
theorem v2l(wd c d:Nat)(x:Nd)(a b:Tr)(ks:List (Nat × Tr))(h:x.op=6):bst wd c ((d,.two x a b)::ks)=bst wd c ((d,a)::(d,b)::ks):=by
 unfold bst q3x;rw[q4t,q4t,q4t,Tr.outs,if_pos h,List.flatMap_assoc]
 congr 2
 congr 1
 funext p
 rw[List.flatMap_map,List.map_flatMap]
 congr 1
 funext q
 rw[List.map_map]
 congr 1
 funext z
 simp[Function.comp,List.append_assoc]
theorem k9z(wd c d:Nat)(x:Nd)(a b:Tr)(ks:List (Nat × Tr))(h:x.op≠6):
  bst wd c ((d,.two x a b)::ks)=q7c ((bst wd c ((d,a)::ks)).map (q5f 0 0 [0])) ((bst wd c ((d,b)::ks)).map (q5f 0 0 [1])):=by
 unfold bst;rw[<-z1j,<-z1j,<-z3y,<-z3y,q3x,q4t,Tr.outs,if_neg h,List.flatMap_append,List.map_append,j4y]
theorem y3m(t:Tr)(deep:Nat):t.outs deep≠[]:=fun h=>by
 have:=q3g t deep
 rw[h]at this;exact z4z t this.symm
theorem k8s:∀ks:List (Nat × Tr),q4t ks≠[]
 | []=>by simp[q4t]
 | (d,t)::ks=>by
  have h1:=y3m t d;have h2:=k8s ks;obtain⟨p,ps,e⟩:=List.exists_cons_of_ne_nil h1;rw[q4t,e];simp[h2]
theorem k7h(wd c:Nat)(ks:List (Nat × Tr)):∃a,bst wd c ks=some a:=by
 cases h:bst wd c ks with
 | some a=>exact⟨a,rfl⟩
 | none=>
  have:=j4z h
  unfold q3x at this;exact absurd (List.map_eq_nil_iff.1 this) (k8s ks)
end Go.Proofs.YtfdppahhbpfnoaaGreatDoor
namespace Go.Proofs.YtfdppahhbpfnoaaGreatDoor
open Go Go.RowKit
set_option maxRecDepth 100000
set_option maxHeartbeats 2000000
theorem k3q(T B b:Nat)(bs R:List Value)(c:Int)(w:World)(hl:z0y T (R.length+2))(hT:T≠5)(h:IsX T B b bs R w)(W:bs.length+1<=140737488355328)(f:B<=w.heap.size):
  Calls prog 45 #[.pointer (some ⟨b,0,none⟩),.int .u8 c] w fun e w'=>e=.returned .nilIface/\(IsX T B b (bs++[.int .u8 c]) R w'/\q0p B b w w'/\Lib.OthersKept 5 (some b) w w'):=by
 obtain⟨m,i,S,U,V⟩:=info_parts v6r;have Y:Hid (z0y T (R.length+2)):=hl;have Z:Hid (T≠5):=hT;have H:Hid (IsX T B b bs R w):=h;clear hl hT h;go_in;go_wp2_with(go_at_call 75;refine(z1z T B b bs R _ Y.o H.o).mono ?_);rintro e K⟨rfl,d,G,O⟩;obtain⟨v,J,C,Q,_⟩:=d;have o:K.cell? ⟨b,0,none⟩=some (.pointer (some ⟨b,0,none⟩)):=by rw[Lib.cell_of_heap J];rfl
 have c1:K.cell? ⟨b,1,none⟩=some v:=by rw[Lib.cell_of_heap J];rfl
 go_wp2_with(at_builtin;refine wpList_append_ownF _ rfl _ _ 79 rfl B 5 m (.int .u8 0) 1 1 Tryz.underlying79 i S U V rfl (by decide) _ _ _ rfl (C.alloc _) ⟨K,0,none⟩ 1 1 [.int .u8 c] rfl rfl ?c1 ?c2 ?c3 ?c4 ?c5 ?_)
 case c1=>
  intro j u L
  match j,L with
  | 0,L=>simp at L;subst L;simp[Addr.add]
 case c2=>intro u X;simp at X;subst X;rfl
 case c3=>unfold maxLen;omega
 case c4=>omega
 case c5=>have:=G.size;simp;omega
 intro n M D A _
 have P:b<K.heap.size:=by
  rcases Nat.lt_or_ge b K.heap.size with N|N
  ·exact N
  ·simp[Array.getElem?_eq_none N]at J
 have I:M.heap[b]?=some (.cells (.pointer (some ⟨b,0,none⟩)::v::R).toArray T (0,0)):=by
  rw[A.block b (by simp;omega) (fun e=>Q e.symm),Lib.alloc_old K _ b P];exact J
 have q:M.cell? ⟨b,0,none⟩=some (.pointer (some ⟨b,0,none⟩)):=by rw[Lib.cell_of_heap I];rfl
 have r:M.cell? ⟨b,1,none⟩=some v:=by rw[Lib.cell_of_heap I];rfl
 have s:M.frozen? ⟨b,1,none⟩=false:=Lib.frozen_of_heap I 1
 obtain⟨g,E,rfl⟩:∃g E,n=.slice (some ⟨g,0,none⟩) (bs.length+1) E:=by
  rcases D.2 with⟨_,x⟩|⟨g,E,a,t,l,_⟩
  ·omega
  ·exact⟨g,E,l⟩
 go_wp2;go_ret;refine⟨rfl,.inr ?_,?_,((O.alloc _).grown A (Lib.ownsRowF_kind (C.alloc _))).setCell ⟨b,1,none⟩ rfl _⟩
 ·exact XAt.put I (bs':=bs++[.int .u8 c]) (by simpa using D) Z.o (fun h=>by simp at h)
 ·exact((G.alloc (by have:=G.size;omega) _).grown A (by have:=G.size;simp;omega) (fun k hk=>(C.lt k hk).1)).setCell (p:=⟨b,1,none⟩) (.inl rfl) _
theorem q9h(T B b:Nat)(bs R:List Value)(s:ByteArray)(w:World)(hl:z0y T (R.length+2))(hT:T≠5)(h:IsX T B b bs R w)(a:bs.length+s.size<=140737488355328)(o:B<=w.heap.size):
  Calls prog 38 #[.pointer (some ⟨b,0,none⟩),.string s] w fun e w'=>e=.returned (.tuple #[.int .i64 s.size,.nilIface])/\(IsX T B b (bs++Lib.strCells s) R w'/\q0p B b w w'/\Lib.OthersKept 5 (some b) w w'):=by
 obtain⟨r,q,V,W,X⟩:=info_parts v6r;have i:Hid (z0y T (R.length+2)):=hl;have j:Hid (T≠5):=hT;have H:Hid (IsX T B b bs R w):=h;clear hl hT h;go_in;go_wp2_with(go_at_call 75;refine(z1z T B b bs R _ i.o H.o).mono ?_);rintro e L⟨rfl,O,K,P⟩;obtain⟨v,G,C,S,Z⟩:=O;have f:Hid (bs=[]->v=.slice none 0 0):=Z;clear Z;have t:L.cell? ⟨b,0,none⟩=some (.pointer (some ⟨b,0,none⟩)):=by rw[Lib.cell_of_heap G];rfl
 have u:L.cell? ⟨b,1,none⟩=some v:=by rw[Lib.cell_of_heap G];rfl
 go_wp2_with(at_builtin;refine Lib.wpList_append_own_stringF _ rfl _ _ 79 9 rfl B 5 r Tryz.underlying79 Tryz.underlying9 q V W X _ _ _ rfl C s rfl ?c3 ?c4 ?c5 ?_)
 case c3=>unfold maxLen;omega
 case c4=>omega
 case c5=>have:=K.size;omega
 intro d M D A I;have l:Hid (d=.slice none 0 0↔v=.slice none 0 0/\s.size=0):=(show _↔_ by simpa using I);clear I
 have Q:b<L.heap.size:=by
  rcases Nat.lt_or_ge b L.heap.size with N|N
  ·exact N
  ·simp[Array.getElem?_eq_none N]at G
 have E:M.heap[b]?=some (.cells (.pointer (some ⟨b,0,none⟩)::v::R).toArray T (0,0)):=by
  rw[A.block b Q (fun e=>S e.symm)];exact G
 have x:M.cell? ⟨b,0,none⟩=some (.pointer (some ⟨b,0,none⟩)):=by rw[Lib.cell_of_heap E];rfl
 have y:M.cell? ⟨b,1,none⟩=some v:=by rw[Lib.cell_of_heap E];rfl
 have z:M.frozen? ⟨b,1,none⟩=false:=Lib.frozen_of_heap E 1
 obtain⟨Y,c,J,rfl⟩:∃Y c J,d=.slice Y c J:=by
  rcases D.2 with⟨U,_⟩|⟨g,J,m,fz,U,_⟩
  ·exact⟨_,_,_,U⟩
  ·exact⟨_,_,_,U⟩
 go_wp2;go_ret2;refine⟨rfl,.inr ?_,?_,(P.grown A (Lib.ownsRowF_kind C)).setCell ⟨b,1,none⟩ rfl _⟩
 ·refine XAt.put E (bs':=bs++Lib.strCells s) (by simpa[Lib.strCells_length]using D) j.o (fun h=>?_);obtain⟨O,n⟩:=List.append_eq_nil_iff.1 h;refine l.o.2 ⟨f.o O,?_⟩;rw[<-Lib.strCells_length,n];rfl
 ·exact(K.grown A (by have:=K.size;omega) (fun k hk=>(C.lt k hk).1)).setCell (p:=⟨b,1,none⟩) (.inl rfl) _
end Go.Proofs.YtfdppahhbpfnoaaGreatDoor
namespace Go.Proofs.YtfdppahhbpfnoaaGreatDoor
theorem z3n(wd:Nat):∀(s:List UInt8)(c c':Nat),wd<=c->wd<=c'->(q1p wd c s).1=(q1p wd c' s).1/\(q1p wd c s).2.1=(q1p wd c' s).2.1
 | [],c,c',_,_=>⟨rfl,rfl⟩
 | b::s,c,c',h,h'=>by
  by_cases hb:b=10
  ·simp only[q1p,if_pos hb,and_self]
  ·simp only[q1p,if_neg hb,if_pos h,if_pos h'];obtain⟨e1,e2⟩:=z3n wd s (c+1) (c'+1) (by omega) (by omega);exact⟨by rw[e1],e2⟩
theorem k7l(wd c:Nat)(s:List UInt8):(q1p wd c s).1=(q1p wd (min c wd) s).1/\(q1p wd c s).2.1=(q1p wd (min c wd) s).2.1:=by
 rcases Nat.le_total c wd with h|h
 ·rw[Nat.min_eq_left h];exact⟨rfl,rfl⟩
 ·rw[Nat.min_eq_right h];exact z3n wd s c wd h Zl
theorem y0p(wd c:Nat)(ks:List (Nat × Tr)):bst wd c ks=bst wd (min c wd) ks:=by
 unfold bst q3x
 congr 2
 funext p
 rw[(k7l wd c p.1).1,(k7l wd c p.1).2]
theorem q9q(wd:Nat):∀(s:List UInt8)(c:Nat),(∀b∈s,b≠10)->q1p wd c s=((c+s.length-wd)-(c-wd),0,c+s.length)
 | [],c,_=>by simp[q1p]
 | b::s,c,h=>by
  have hb:b≠10:=h b (by simp);simp only[q1p,if_neg hb,q9q wd s (c+1) (fun x hx=>h x (by simp[hx])),List.length_cons,Prod.mk.injEq,true_and];refine⟨?_,by omega⟩
  split<;>omega
theorem j3u(wd c d:Nat):q1p wd c (10::List.replicate d 32)=(d-wd,1,d):=by
 simp only[q1p,if_pos];rw[q9q wd (List.replicate d 32) 0 (by intro b A;rw[(List.mem_replicate.1 A).2];decide)];simp
/-! ### How much a way may cost at most -/
def Tr.lf:Tr->Nat
 | .leaf _=>1
 | .one _ a=>a.lf
 | .two _ a b=>a.lf+b.lf
def Tr.dsum:Tr->Nat
 | .leaf _=>0
 | .one _ a=>8+a.dsum
 | .two _ a b=>a.dsum+b.dsum
theorem q9b:∀t:Tr,8*t.lf+t.dsum<=8*t.N.length
 | .leaf _=>by simp[Tr.lf,Tr.dsum,Tr.N]
 | .one _ a=>by have:=q9b a;simp only[Tr.lf,Tr.dsum,Tr.N,List.length_cons];omega
 | .two _ a b=>by have:=q9b a;have:=q9b b;simp only[Tr.lf,Tr.dsum,Tr.N,List.length_cons,List.length_append];omega
theorem q8w:∀(t:Tr)(s:List UInt8),t.Wf->t.flat=some s->s.length<=20*t.lf
 | .leaf x,s,h,e=>by
  obtain⟨_,_,_,_,h5,_⟩:=q2a h.1;simp only[Tr.flat]at e;simp only[Tr.lf]
  split at e
  ·rename_i h1;cases e
   have:=q4d (h5 h1)
   have e:=q1a x.tx;omega
  ·split at e
   ·cases e;simp
   ·split at e
    ·cases e
    ·cases e;simp
 | .one x a,s,h,e=>q8w a s h.2.2 e
 | .two x a b,s,h,e=>by
  simp only[Tr.flat]at e;simp only[Tr.lf]
  split at e
  ·cases ha:a.flat with
   | none=>rw[ha]at e;cases e
   | some u=>
    cases hb:b.flat with
    | none=>rw[ha,hb]at e;cases e
    | some v=>
     rw[ha,hb]at e;cases e
     have:=q8w a u h.2.2.1 ha
     have:=q8w b v h.2.2.2 hb
     rw[List.length_append];omega
  ·have:=q8w a s h.2.2.1 e
   omega
theorem q6h:∀(t:Tr)(d:Nat)(p:List UInt8 × List Int),t.Wf->p∈t.outs d->p.1.length<=t.lf*(21+d+t.dsum)
 | .leaf x,d,p,h,hp=>by
  obtain⟨_,_,_,_,h5,_⟩:=q2a h.1;simp only[Tr.outs,List.mem_singleton]at hp;subst hp;simp only[Tr.lf,Tr.dsum]
  split
  ·rename_i h1
   have:=q4d (h5 h1)
   have e:=q1a x.tx;omega
  ·split
   ·simp
   ·simp;omega
 | .one x a,d,p,h,hp=>by
  obtain⟨_,_,_,_,_,h6⟩:=q2a h.1;simp only[Tr.outs]at hp;simp only[Tr.lf,Tr.dsum]
  split at hp
  ·rename_i h7;have h1:=q6h a _ p h.2.2 hp;have h2:a.lf*(21+(d+x.n.toNat)+a.dsum)<=a.lf*(21+d+(8+a.dsum)):=Nat.mul_le_mul_left _ (by have:=h6 h7;omega);omega
  ·rcases List.mem_append.1 hp with hp|hp
   ·cases hf:a.flat with
    | none=>rw[hf]at hp;simp at hp
    | some s=>
     rw[hf]at hp;simp only[List.mem_singleton]at hp;subst hp;have h1:=q8w a s h.2.2 hf;have h2:a.lf*20<=a.lf*(21+d+(8+a.dsum)):=Nat.mul_le_mul_left _ (by omega);dsimp only;omega
   ·obtain⟨q,hq,rfl⟩:=List.mem_map.1 hp;have h1:=q6h a d q h.2.2 hq;have h2:a.lf*(21+d+a.dsum)<=a.lf*(21+d+(8+a.dsum)):=Nat.mul_le_mul_left _ (by omega);dsimp only;omega
 | .two x a b,d,p,h,hp=>by
  simp only[Tr.outs]at hp;simp only[Tr.lf,Tr.dsum];have ma:a.lf*(21+d+a.dsum)<=a.lf*(21+d+(a.dsum+b.dsum)):=Nat.mul_le_mul_left _ (by omega);have mb:b.lf*(21+d+b.dsum)<=b.lf*(21+d+(a.dsum+b.dsum)):=Nat.mul_le_mul_left _ (by omega);rw[Nat.add_mul]
  split at hp
  ·obtain⟨u,hu,hp⟩:=List.mem_flatMap.1 hp;obtain⟨v,hv,rfl⟩:=List.mem_map.1 hp;have h1:=q6h a d u h.2.2.1 hu;have h2:=q6h b d v h.2.2.2 hv;simp only[List.length_append];omega
  ·rcases List.mem_append.1 hp with hp|hp
   ·obtain⟨q,hq,rfl⟩:=List.mem_map.1 hp;have h1:=q6h a d q h.2.2.1 hq;dsimp only;omega
   ·obtain⟨q,hq,rfl⟩:=List.mem_map.1 hp;have h1:=q6h b d q h.2.2.2 hq;dsimp only;omega
def lfK:List (Nat × Tr)->Nat
 | []=>0
 | (_,t)::ks=>t.lf+lfK ks
def KB(M:Nat)(ks:List (Nat × Tr)):Prop:=∀p∈ks,p.1+p.2.dsum<=M/\p.2.Wf
theorem k2w(M:Nat):∀(ks:List (Nat × Tr))(p:List UInt8 × List Int),KB M ks->p∈q4t ks->p.1.length<=lfK ks*(21+M)
 | [],p,_,hp=>by simp only[q4t,List.mem_singleton]at hp;subst hp;simp
 | (d,t)::ks,p,hk,hp=>by
  rw[q4t]at hp;obtain⟨u,hu,hp⟩:=List.mem_flatMap.1 hp;obtain⟨v,hv,rfl⟩:=List.mem_map.1 hp;obtain⟨k1,k2⟩:=hk (d,t) (by simp);have h1:=q6h t d u k2 hu;have h2:=k2w M ks v (fun q hq=>hk q (by simp[hq])) hv;have h3:t.lf*(21+d+t.dsum)<=t.lf*(21+M):=Nat.mul_le_mul_left _ (by dsimp only at k1;omega);simp only[lfK,List.length_append,Nat.add_mul];omega
theorem k4l(wd:Nat):∀(s:List UInt8)(c:Nat),(q1p wd c s).1<=s.length/\(q1p wd c s).2.1<=s.length
 | [],c=>by simp[q1p]
 | b::s,c=>by
  simp only[q1p,List.length_cons]
  split
  ·have:=k4l wd s 0
   dsimp only;omega
  ·have:=k4l wd s (c+1)
   dsimp only
   split<;>omega
def bs(wd c:Nat)(ks:List (Nat × Tr)):Crs:=(bst wd c ks).getD ((0,0),[])
theorem q3c(wd c:Nat)(ks:List (Nat × Tr)):bst wd c ks=some (bs wd c ks):=by
 obtain⟨a,h⟩:=k7h wd c ks;rw[bs,h];rfl
theorem y9t(wd c M:Nat)(ks:List (Nat × Tr))(h:KB M ks):(bs wd c ks).1.1<=lfK ks*(21+M)/\(bs wd c ks).1.2<=lfK ks*(21+M):=by
 obtain⟨p,q,e,_,_⟩:=z8f (q3c wd c ks);have A:bs wd c ks∈q3x wd c ks:=by rw[e];simp
 obtain⟨x,C,B⟩:=List.mem_map.1 A;rw[<-B];have D:=k2w M ks x h C;have E:=k4l wd x.1 c;dsimp only;omega
theorem most:∀D,D<401->(400-D)*(21+8*D)<=400000:=by
 set_option maxRecDepth 100000 in decide
theorem y3d{L M n:Nat}(h:8*L+M<=8*n)(hn:n<=400):L*(21+M)<=400000:=by
 have A:=most ((M+7) / 8) (by omega);have B:L*(21+M)<=(400-(M+7) / 8)*(21+8*((M+7) / 8)):=Nat.mul_le_mul (by omega) (by omega);omega
theorem y5d(wd c:Nat):bs wd c []=((0,0),[]):=by rw[bs,y0q];rfl
theorem j3h(wd c:Nat)(ks:List (Nat × Tr)):bs wd c ks=bs wd (min c wd) ks:=by rw[bs,y0p];rfl
theorem y0n{wd c d:Nat}{x:Nd}{ks:List (Nat × Tr)}(hx:q0v x=0)(h:x.op=1)(hc:c<=wd):bs wd c ((d,.leaf x)::ks)=q5f (c+x.tx.size-wd) 0 [] (bs wd (min (c+x.tx.size) wd) ks):=by
 have A:∀b∈x.tx.data.toList,b≠10:=v1a hx h;have e:=z7t wd c d x ks x.tx.data.toList (by rw[if_pos h]);rw[q9q wd _ c A,q1a,q3c,q3c wd (c+x.tx.size),Option.map_some,Option.some.injEq,j3h wd (c+x.tx.size)]at e;rw[e,Nat.sub_eq_zero_of_le hc,Nat.sub_zero]
theorem y0m{wd c d:Nat}{x:Nd}{ks:List (Nat × Tr)}(h:x.op≠1/\x.op≠5):bs wd c ((d,.leaf x)::ks)=q5f (d-wd) 1 [] (bs wd (min d wd) ks):=by
 have e:=z7t wd c d x ks (10::List.replicate d 32) (by rw[if_neg h.1,if_neg h.2]);rw[j3u,q3c,q3c wd d,Option.map_some,Option.some.injEq,j3h wd d]at e;exact e
theorem y0o{wd c d:Nat}{x:Nd}{ks:List (Nat × Tr)}(h:x.op=5):bs wd c ((d,.leaf x)::ks)=q5f 0 0 [] (bs wd c ks):=by
 have e:=z7t wd c d x ks [] (by rw[if_neg (by omega),if_pos h]);rw[q3c,q1p,q3c wd c ks,Option.map_some,Option.some.injEq]at e;exact e
theorem y0j{wd c d:Nat}{x:Nd}{a:Tr}{ks:List (Nat × Tr)}(h:x.op=7):bs wd c ((d,.one x a)::ks)=bs wd c ((d+x.n.toNat,a)::ks):=by rw[bs,v2m wd c d x a ks h];rfl
theorem y0i{wd c d:Nat}{x:Nd}{a b:Tr}{ks:List (Nat × Tr)}(h:x.op=6):bs wd c ((d,.two x a b)::ks)=bs wd c ((d,a)::(d,b)::ks):=by rw[bs,v2l wd c d x a b ks h];rfl
theorem j3g{wd c d:Nat}{x:Nd}{a b:Tr}{ks:List (Nat × Tr)}(h:x.op≠6):bs wd c ((d,.two x a b)::ks)=k9a (q5f 0 0 [0] (bs wd c ((d,a)::ks))) (q5f 0 0 [1] (bs wd c ((d,b)::ks))):=by
 have e:=k9z wd c d x a b ks h;rw[q3c,q3c wd c ((d,a)::ks),q3c wd c ((d,b)::ks),Option.map_some,Option.map_some,q7c,Option.some.injEq]at e;exact e
theorem v2j{wd c d:Nat}{x:Nd}{a:Tr}{ks:List (Nat × Tr)}{s:List UInt8}(h:x.op≠7)(ha:a.Wf)(hf:a.flat=some s)(hc:c<=wd):
  bs wd c ((d,.one x a)::ks)=k9a (q5f (c+s.length-wd) 0 [0] (bs wd (min (c+s.length) wd) ks)) (q5f 0 0 [1] (bs wd c ((d,a)::ks))):=by
 have e:=k0w wd c d x a ks h;rw[hf]at e;dsimp only at e;rw[q9q wd _ c (q5p a s ha hf),q3c,q3c wd (c+s.length),q3c wd c ((d,a)::ks),Option.map_some,Option.map_some,q7c,Option.some.injEq,j3h wd (c+s.length)]at e;rw[e,Nat.sub_eq_zero_of_le hc,Nat.sub_zero]
theorem y0l{wd c d:Nat}{x:Nd}{a:Tr}{ks:List (Nat × Tr)}(h:x.op≠7)(hf:a.flat=none):bs wd c ((d,.one x a)::ks)=q5f 0 0 [1] (bs wd c ((d,a)::ks)):=by
 have e:=k0w wd c d x a ks h;rw[hf]at e;dsimp only at e;rw[q3c,q3c wd c ((d,a)::ks),Option.map_some,q7c,Option.some.injEq]at e;exact e
def Tr.txt(t:Tr)(u:List Int):List UInt8:=match t.show u with| .ok s=>s| .error _=>[]
theorem j8m{t:Tr}{p:List UInt8 × List Int}(h:p∈t.outs 0):t.show p.2=.ok p.1:=by
 have B:p.2∈t.ways:=by rw[<-q3g t 0];exact List.mem_map.2 ⟨p,h,rfl⟩
 have A:=q6g t 0 p h [];rw[List.append_nil]at A;unfold Tr.show;rw[if_pos (k9r.2 (q7r t _ B)),A]
theorem v4z{t:Tr}{p:List UInt8 × List Int}(h:p∈t.outs 0):t.txt p.2=p.1:=by rw[Tr.txt,j8m h]
def Tr.cst(t:Tr)(wd:Nat)(u:List Int):Nat × Nat:=((q1p wd 0 (t.txt u)).1,(q1p wd 0 (t.txt u)).2.1)
theorem j0s(t:Tr)(wd:Nat):q3x wd 0 [(0,t)]=t.ways.map fun u=>(t.cst wd u,u):=by
 have A:q4t [(0,t)]=t.outs 0:=by simp[q4t]
 unfold q3x;rw[A,<-q3g t 0,List.map_map];refine List.map_congr_left fun p hp=>?_
 simp only[Function.comp,Tr.cst,v4z hp]
def Tr.best(t:Tr)(wd:Nat):Option Crs:=fm (t.ways.map fun u=>(t.cst wd u,u))
theorem q9l(t:Tr)(wd:Nat):t.best wd=bst wd 0 [(0,t)]:=by rw[Tr.best,<-j0s];rfl
theorem j2y(t:Tr)(wd:Nat):∃a,t.best wd=some a:=by rw[q9l];exact k7h wd 0 _
theorem z5p:∀u:List Int,¬q2t u u
 | []=>by simp[q2t]
 | a::u=>by simp only[q2t,if_pos];exact z5p u
theorem z3i:∀{u v:List Int},q2t u v->¬q2t v u
 | a::u,b::v,h=>by
  simp only[q2t]at h⊢;by_cases e:a=b
  ·subst e;rw[if_pos rfl]at h⊢;exact z3i h
  ·rw[if_neg e]at h;rw[if_neg fun k=>e k.symm];omega
theorem q7x{t:Tr}{wd:Nat}{a:Crs}(h:t.best wd=some a):a.2∈t.ways/\t.show a.2=.ok (t.txt a.2)/\a.1=t.cst wd a.2/\∀w∈t.ways,¬q3f (t.cst wd w) a.1/\(t.cst wd w=a.1->¬q2t w a.2):=by
 obtain⟨p,q,e,K,L⟩:=z8f h;obtain⟨N,r,C,E,G⟩:=List.map_eq_append_iff.1 e;obtain⟨x,O,H,I,J⟩:=List.map_eq_cons_iff.1 G;subst H E J I;have B:x∈t.ways:=by rw[C];simp
 have D:=z0t t;rw[C]at D;refine⟨B,?_,rfl,fun w A=>?_⟩
 ·obtain⟨s,M⟩:=(z4n t x).2 B;simp only[Tr.txt,M]
 ·rw[C]at A;dsimp only;rcases List.mem_append.1 A with A|A
  ·have:=K _ (List.mem_map.2 ⟨w,A,rfl⟩)
   dsimp only at this;refine⟨?_,fun k=>?_⟩
   ·unfold q3f at *;omega
   ·rw[k]at this;unfold q3f at this;omega
  ·rcases List.mem_cons.1 A with rfl|A
   ·refine⟨?_,fun _=>z5p _⟩;unfold q3f;omega
   ·refine⟨L _ (List.mem_map.2 ⟨w,A,rfl⟩),fun _=>z3i ?_⟩;exact(List.pairwise_cons.1 (List.pairwise_append.1 D).2.1).1 w A
end Go.Proofs.YtfdppahhbpfnoaaGreatDoor
namespace Go.Proofs.YtfdppahhbpfnoaaGreatDoor
open Go Go.RowKit
set_option maxRecDepth 100000
set_option maxHeartbeats 2000000
theorem v1j(T B b:Nat)(l:List UInt8)(R:List Value)(w:World)(h:IsX T B b (Lib.byteCells l) R w)(h0:l≠[]):
  Calls prog 39 #[.pointer (some ⟨b,0,none⟩)] w fun e w'=>e=.returned (.string ⟨l.toArray⟩)/\Below B w w':=by
 obtain⟨p,G⟩:=h.at;obtain⟨v,I,D,V,_⟩:=G;have L:l.length≠0:=by simpa using h0
 rw[Lib.byteCells_length]at D
 obtain⟨g,A,C,E,rfl,H,S,Q,U,J,P,M⟩:∃g A C E,v=.slice (some ⟨g,0,none⟩) l.length A/\B<=g/\w.heap[g]?=some (.cells C 5 E)/\E.2<=l.length*1/\l.length<=A/\A<=maxLen/\C.size=A*1/\C.toList.take (l.length*1)=Lib.byteCells l:=by
  rcases D.2 with⟨_,Y⟩|⟨g,A,C,E,W,r⟩
  ·exact absurd Y L
  ·exact⟨g,A,C,E,W,r⟩
 have Z:w.drew.cell? ⟨b,1,none⟩=some (.slice (some ⟨g,0,none⟩) l.length A):=by
  have:w.drew.heap[b]?=some (.cells (p::.slice (some ⟨g,0,none⟩) l.length A::R).toArray T (0,0)):=I
  rw[Lib.cell_of_heap this];rfl
 have N:(Builtin.unsafeSliceData_ #[79] 130 #[.slice (some ⟨g,0,none⟩) l.length A]).run prog w.drew=.ok (.pointer (some ⟨g,0,none⟩)) w.drew:=
  Lib.run_unsafeSliceData_row _ _ _ _ _ _ (by omega)
 have O:(Builtin.unsafeString_ #[130,3] 9 #[.pointer (some ⟨g,0,none⟩),.int .i64 l.length]).run prog w.drew=.ok (.string ⟨l.toArray⟩) (w.drew.freeze ⟨g,0,none⟩ l.length):=by
  refine Lib.run_unsafeString_row w.drew 130 3 9 5 Tryz.underlying130 v9o g C.size (by have K:w.drew.heap[g]?=some (.cells C 5 E):=S;simp[World.shape?,K]) l h0 (by omega) (by unfold maxLen at J;omega) ?_;intro j x X
  have:=D.cells (g:=g) rfl j (.int .u8 x.toNat) (by simp[Lib.byteCells,X])
  exact this
 go_in;go_wp2
 go_region
 all_goals (go_wp2;go_ret;exact⟨rfl,Lib.below_freeze (Below.drew (Below.refl B w)) (p:=⟨g,0,none⟩) H _⟩)
theorem v1i(T B b:Nat)(R:List Value)(w:World)(h:IsX T B b [] R w):
  Calls prog 39 #[.pointer (some ⟨b,0,none⟩)] w fun e w'=>e=.returned (.string ⟨#[]⟩)/\Below B w w':=by
 obtain⟨p,C⟩:=h.at;obtain⟨v,D,A,E,G⟩:=C;obtain rfl:=G rfl;clear A E G;have I:∀(W:World)(q:Option Addr),(Builtin.unsafeString_ #[130,3] 9 #[.pointer q,.int .i64 0]).run prog W=.ok (.string .empty) W:=fun W q=>Lib.run_unsafeString_none W _ _ _ q
 have J:w.drew.cell? ⟨b,1,none⟩=some (.slice none 0 0):=by
  have:w.drew.heap[b]?=some (.cells (p::.slice none 0 0::R).toArray T (0,0)):=D
  rw[Lib.cell_of_heap this];rfl
 have H:(Builtin.unsafeSliceData_ #[79] 130 #[.slice none 0 0]).run prog w.drew=.ok (.pointer none) w.drew:=rfl;go_in;go_wp2
 go_region
 all_goals (go_wp2;go_ret;exact⟨rfl,Below.drew (Below.refl B w)⟩)
theorem k0h(T B b:Nat)(l:List UInt8)(R:List Value)(w:World)(h:IsX T B b (Lib.byteCells l) R w):
  Calls prog 39 #[.pointer (some ⟨b,0,none⟩)] w fun e w'=>e=.returned (.string ⟨l.toArray⟩)/\Below B w w':=by
 by_cases A:l=[]
 ·subst A;exact v1i T B b R w h
 ·exact v1j T B b l R w h A
def j4r(n:Int):Bool:=decide (0<=n)&&decide (n<=1000000)
def okC(c:Int × Int):Bool:=j4r c.1&&j4r c.2
theorem z3t{n:Int}(h:j4r n=true):0<=n/\n<=1000000:=by simpa[j4r]using h
theorem j0n{n:Int}(h:j4r n=false):n<0\/(0<=n/\1000000<n):=by
 simp[j4r]at h;omega
theorem z8c(n:Int)(w:World):Calls prog 250 #[.int .i64 n] w fun e w'=>e=.returned (.bool (j4r n))/\w=w':=by
 cases h:j4r n with
 | true=>
  obtain⟨A,C⟩:=z3t h;clear h;go_in;go_wp2;go_ret;exact⟨rfl,rfl⟩
 | false=>
  rcases j0n h with A|⟨A,C⟩
  ·have B:¬0<=n:=by omega
   clear h;go_in;go_wp2;go_ret;exact⟨rfl,rfl⟩
  ·have D:¬n<=1000000:=by omega
   clear h;go_in;go_wp2;go_ret;exact⟨rfl,rfl⟩
theorem k0z(cs:List (Int × Int))(B:Nat)(w:World)(hB:B<w.heap.size)(M:cs.length<=2)
  (hc:∀j(h:j<cs.length),w.cell? ⟨B,j*2,none⟩=some (.int .i64 cs[j].1)/\w.cell? ⟨B,j*2+1,none⟩=some (.int .i64 cs[j].2)):
  Calls prog 239 #[.slice (some ⟨B,0,none⟩) cs.length cs.length] w fun e w'=>((∃c∈cs,okC c=false)/\e=.returned (.iface 23 (.int .i64 1))\/(∀c∈cs,okC c=true)/\e=.returned .nilIface)/\Below w w w':=by
 go_in;go_wp2
 go_loopw [7] (fun i wr=>∃k:Nat,k<=cs.length/\i=.int .i64 k/\(∀c∈cs.take k,okC c=true)/\Below w w wr) (fun i _=>cs.length-(intOf i).toNat)
 case atStart=>exact⟨0,Nat.zero_le _,rfl,by simp,Below.refl _ _⟩
 case round=>
  obtain⟨k,P,rfl,D,G⟩:=hrel;by_cases A:k<cs.length
  ·have I:=(hc k A).1;have J:=(hc k A).2;have N:wr.cell? ⟨B,k*2,none⟩=some (.int .i64 cs[k].1):=(G.cell (p:=⟨B,k*2,none⟩) hB).trans I;have O:wr.cell? ⟨B,k*2+1,none⟩=some (.int .i64 cs[k].2):=(G.cell (p:=⟨B,k*2+1,none⟩) hB).trans J;clear I J hc;have H:w.heap.size<=wr.heap.size:=G.size;have E:Below w w (wr.alloc (.cells #[.int .i64 cs[k].1,.int .i64 cs[k].2] 54)):=G.alloc H _;cases K:j4r cs[k].1 with
   | false=>
    go_wp2_with(go_at_call 250;refine(z8c _ _).mono ?_;rintro e w'⟨rfl,rfl⟩);go_ret;exact⟨.inl ⟨⟨cs[k],List.getElem_mem A,by simp[okC,K]⟩,rfl⟩,E⟩
   | true=>
    cases L:j4r cs[k].2 with
    | false=>
     go_wp2_with(go_at_call 250;refine(z8c _ _).mono ?_;rintro e w'⟨rfl,rfl⟩);go_ret;exact⟨.inl ⟨⟨cs[k],List.getElem_mem A,by simp[okC,L]⟩,rfl⟩,E⟩
    | true=>
     go_wp2_with(go_at_call 250;refine(z8c _ _).mono ?_;rintro e w'⟨rfl,rfl⟩)
     go_roundw
     case rel=>
      refine⟨k+1,by omega,by go_num,?_,E⟩;intro c C;rw[List.take_succ_eq_append_getElem A]at C;rcases List.mem_append.1 C with h|h
      ·exact D c h
      ·simp at h;subst h;simp[okC,K,L]
     case measure=>simp[intOf];omega
  ·go_wp2;go_ret;exact⟨.inr ⟨fun c C=>D c (by rw[List.take_of_length_le (by omega)];exact C),rfl⟩,G⟩
theorem z3m(a b:Int × Int)(B:Nat)(w:World)(hB:B<w.heap.size)(ha:okC a=true)(hb:okC b=true)
  (h0:w.cell? ⟨B,0,none⟩=some (.int .i64 a.1)) (h1:w.cell? ⟨B,1,none⟩=some (.int .i64 a.2)) (h2:w.cell? ⟨B,2,none⟩=some (.int .i64 b.1)) (h3:w.cell? ⟨B,3,none⟩=some (.int .i64 b.2)):
  Calls prog 239 #[.slice (some ⟨B,0,none⟩) 2 2] w fun e w'=>e=.returned .nilIface/\Below w w w':=by
 refine(k0z [a,b] B w hB (by simp) ?_).mono ?_
 ·intro j E
  match j,E with
  | 0,_=>exact⟨h0,h1⟩
  | 1,_=>exact⟨h2,h3⟩
 ·rintro e w'⟨⟨⟨c,C,A⟩,D⟩|⟨_,D⟩,hB⟩
  ·simp at C;rcases C with rfl|rfl
   ·rw[ha]at A;cases A
   ·rw[hb]at A;cases A
  ·exact⟨D,hB⟩
theorem j3p(a:Int × Int)(B:Nat)(w:World)(hB:B<w.heap.size)(ha:okC a=true)
  (h0:w.cell? ⟨B,0,none⟩=some (.int .i64 a.1)) (h1:w.cell? ⟨B,1,none⟩=some (.int .i64 a.2)):
  Calls prog 239 #[.slice (some ⟨B,0,none⟩) 1 1] w fun e w'=>e=.returned .nilIface/\Below w w w':=by
 refine(k0z [a] B w hB (by simp) ?_).mono ?_
 ·intro j E
  match j,E with
  | 0,_=>exact⟨h0,h1⟩
 ·rintro e w'⟨⟨⟨c,A,D⟩,C⟩|⟨_,C⟩,hB⟩
  ·simp at A;subst A;rw[ha]at D;cases D
  ·exact⟨C,hB⟩
abbrev v2v(a:Int × Int):Value:=.agg #[.int .i64 a.1,.int .i64 a.2]
def z8u(a b:Int × Int):Bool:=if a.1=b.1 then decide (a.2<b.2)else decide (a.1<b.1)
theorem v7e{w w1:World}{A B C:Obj}(hb:Below (((w.alloc A).alloc B).alloc C).heap.size (((w.alloc A).alloc B).alloc C) w1):Below w w w1:=
 (((Zb.alloc Zl _).alloc (by simp) _).alloc (by simp;omega) _).trans (hb.mono (by simp;omega))
theorem y2j(a b:Int × Int)(w:World)(ha:okC a=true)(hb:okC b=true):
  Calls prog 219 #[v2v a,v2v b] w fun e w'=>e=.returned (.tuple #[.bool (z8u a b),.nilIface])/\Below w w w':=by
 have D:Hid (okC a=true):=ha;have E:Hid (okC b=true):=hb;clear ha hb;by_cases h:a.1=b.1
 ·have C:z8u a b=decide (a.2<b.2):=by simp[z8u,h]
  rw[C];have G:(a.1 != b.1)=false:=by simp[h]
  clear h C;go_in;go_wp2_with fail;refine(z3m a b (w.heap.size+1+1) _ (by simp) D.o E.o (by simp[go_sem]) (by simp[go_sem]) (by simp[go_sem]) (by simp[go_sem])).mono ?_;rintro e I⟨rfl,A⟩;have B:=v7e A;obtain⟨H,_⟩:=q1o A;clear A;go_wp2;go_ret2;exact⟨rfl,B⟩
 ·have C:z8u a b=decide (a.1<b.1):=by simp[z8u,h]
  rw[C];have G:(a.1 != b.1)=true:=by simp[h]
  clear h C;go_in;go_wp2_with fail;refine(z3m a b (w.heap.size+1+1) _ (by simp) D.o E.o (by simp[go_sem]) (by simp[go_sem]) (by simp[go_sem]) (by simp[go_sem])).mono ?_;rintro e I⟨rfl,A⟩;have B:=v7e A;obtain⟨H,_⟩:=q1o A;clear A;go_wp2;go_ret2;exact⟨rfl,B⟩
def q0z(s:Nat)(w:World)(a:Option Addr)(ds:List Nd):Prop:=
 ∀i(h:i<ds.length),∃o,a=some ⟨s,o,none⟩/\w.cell? ⟨s,o+i*3,none⟩=some (.int .i64 ds[i].op)/\w.cell? ⟨s,o+i*3+1,none⟩=some (.string ds[i].tx)/\w.cell? ⟨s,o+i*3+2,none⟩=some (.int .i64 ds[i].n)
theorem q2e.s{w:World}{a:Option Addr}{ds:List Nd}(h:q2e w a ds)(h0:ds≠[]):∃s,s<w.heap.size/\q0z s w a ds:=by
 obtain⟨s,o,rfl,A,_⟩:=h 0 (List.length_pos_iff.2 h0);refine⟨s,A,fun i hi=>?_⟩;obtain⟨b,B,e,_,c⟩:=h i hi;simp only[Option.some.injEq,Addr.mk.injEq,and_true]at e;obtain⟨rfl,rfl⟩:=e;exact⟨o,rfl,c⟩
theorem q0z.nods{s:Nat}{w:World}{a:Option Addr}{ds:List Nd}(h:q0z s w a ds)(hs:s<w.heap.size):q2e w a ds:=by
 intro i A;obtain⟨o,e,c⟩:=h i A;exact⟨s,o,e,hs,c⟩
theorem q0z.kept{s:Nat}{w w':World}{a:Option Addr}{ds:List Nd}(h:q0z s w a ds)(hb:w'.heap[s]?=w.heap[s]?):q0z s w' a ds:=by
 intro i E;obtain⟨o,e,B,C,D⟩:=h i E;have A:∀j,w'.cell? ⟨s,j,none⟩=w.cell? ⟨s,j,none⟩:=fun j=>World.cell?_of_block (w:=w) (a:=⟨s,j,none⟩) hb
 exact⟨o,e,(A _).trans B,(A _).trans C,(A _).trans D⟩
theorem q0z.rest{s:Nat}{w:World}{o:Nat}{x:Nd}{ds:List Nd}(h:q0z s w (some ⟨s,o,none⟩) (x::ds)):q0z s w (some ⟨s,o+3,none⟩) ds:=by
 intro i D;obtain⟨E,e,A,B,C⟩:=h (i+1) (by simp;omega);simp only[Option.some.injEq,Addr.mk.injEq,and_true,true_and]at e;obtain rfl:=e;refine⟨o+3,rfl,?_,?_,?_⟩
 ·rw[show o+3+i*3=o+(i+1)*3 by omega];exact A
 ·rw[show o+3+i*3+1=o+(i+1)*3+1 by omega];exact B
 ·rw[show o+3+i*3+2=o+(i+1)*3+2 by omega];exact C
theorem q0z.slid{s:Nat}{w:World}{o cap:Nat}{x:Nd}{ds:List Nd}(h:q0z s w (some ⟨s,o,none⟩) (x::ds))(hc:ds.length+1<=cap):
  q0z s w (if cap=1 then some ⟨s,o,none⟩else some ⟨s,o+3,none⟩) ds:=by
 by_cases A:cap=1
 ·have:ds=[]:=List.eq_nil_of_length_eq_zero (by omega)
  subst this;exact fun i hi=>by simp at hi
 ·rw[if_neg A];exact h.rest
end Go.Proofs.YtfdppahhbpfnoaaGreatDoor
