import Derived.Test.YtelcnplcpboonaaGreatDoorPb43
import Derived.Test.YtelcnplcpboonaaGreatDoorPb38
import Derived.Test.YtelcnplcpboonaaGreatDoorPb35
open Go.Proofs.Tryz
namespace Go.Proofs.YtelcnplcpboonaaGreatDoor
open Go Go.RowKit Go.Maps
set_option maxRecDepth 100000
set_option maxHeartbeats 4000000
theorem v1f{t:List Td}(h0:q0c t=0)(hf:z4i t)(A:Option Addr)(c:Nat)(hc:t.length<=c)(w:World)(hT:Tds w A t)(ht:q7n w):
  Calls prog 80 #[.slice A t.length c] w fun e w'=>e=.returned (.tuple #[.string (kyB t),.nilIface])/\Below w w w':=by
 have B:Hid (Calls prog 106 #[.slice (some ⟨w,0,none⟩) 1 1] (w.alloc (.cells #[.slice A t.length c] 82)) fun e w'=>e=.returned (.tuple #[.string (kyB t),.nilIface])/\Below w w w'):=by
  have C:=z8c [t] (some ⟨w,0,none⟩) 1 (w.alloc (.cells #[.slice A t.length c] 82)) (by simp) (y2l hc hT) (fun u hu=>by simp at hu;rw[hu];exact hf) (ht.W (q1c w _));rw[j6z (by rw[v7k h0]),v7k h0]at C;exact C.mono fun e w' hh=>⟨hh.1,(q1c w _).trans (hh.2.mono (by rw[World.size_alloc];omega))⟩
 clear h0 hf hT ht hc;generalize kyB t=K at B⊢;generalize t.length=nt at B⊢;go_in;go_wp2_with fail;refine B.o.mono ?_;rintro e E⟨rfl,D⟩;go_wp2;go_ret2;exact⟨rfl,D⟩
theorem v9e{t:List Td}(h0:q0c t=0)(hf:z4i t)(hp:pgE t=0){n:Nat}(E:10<=n)(G:n<=100)(A:Option Addr)(c:Nat)(hc:t.length<=c)(w:World)(hT:Tds w A t)(ht:q7n w):
  Calls prog 81 #[.slice A t.length c,.int .i64 (n:Int)] w fun e w'=>e=.returned (.tuple #[enV A t.length c (wbS (q5g n t)),.nilIface])/\Below w w w':=by
 have D:Hid (∀W,Below w w W->Calls prog 89 #[.slice A t.length c,.int .i64 (n:Int)] W fun e w'=>e=.returned (.tuple #[.string (wbS (q5g n t)),.nilIface])/\Below W W w'):=fun W hb=>by
  have I:=k3m t A c (n:Int) W hc (hT.W hb) hf (ht.W hb);have H:k0d t (n:Int)=0:=(z7q (k5x E G) h0).trans hp;rw[k3l H,H,q0q]at I;exact I
 clear h0 hf hT ht hc hp;generalize wbS (q5g n t)=S at D⊢;generalize t.length=nt at D⊢;go_in;go_wp2_with fail;refine(D.o _ (q1c w _)).mono ?_;rintro e C⟨rfl,B⟩;have K:=B.size;rw[World.size_alloc]at K;have L:C.cell? ⟨w,0,none⟩=some (.slice none 0 0):=((q0t B).1 _ _ (by simp)).trans (by simp[go_sem]);have M:C.cell? ⟨w,1,none⟩=some (.string ⟨#[]⟩):=((q0t B).1 _ _ (by simp)).trans (by simp[go_sem]);have N:C.frozen? ⟨w,0,none⟩=false:=((q0t B).2 _ _ (by simp)).trans (by simp[go_sem]);have O:C.frozen? ⟨w,1,none⟩=false:=((q0t B).2 _ _ (by simp)).trans (by simp[go_sem]);have J:Hid (Below w w C):=q8i Zb Zl B;clear B;go_wp2;exact bodyPost_ret (v:=.tuple #[enV A nt c S,.nilIface]) (by simp[results,Tryz.results81,go_sem,L,M]) rfl ⟨rfl,(J.o.setCell (p:=⟨w,0,none⟩) Zl _).setCell (p:=⟨w,1,none⟩) Zl _⟩
theorem v9d{t:List Td}(h0:q0c t=0)(hf:z4i t)(hp:pgE t≠0){n:Nat}(E:10<=n)(G:n<=100)(A:Option Addr)(c:Nat)(hc:t.length<=c)(w:World)(hT:Tds w A t)(ht:q7n w):
  Calls prog 81 #[.slice A t.length c,.int .i64 (n:Int)] w fun e w'=>e=.returned (.tuple #[zEn,.iface 50 (.int .i64 (pgE t))])/\Below w w w':=by
 have D:Hid (∀W,Below w w W->Calls prog 89 #[.slice A t.length c,.int .i64 (n:Int)] W fun e w'=>e=.returned (.tuple #[.string ⟨#[]⟩,.iface 50 (.int .i64 (pgE t))])/\Below W W w'):=fun W hb=>by
  have I:=k3m t A c (n:Int) W hc (hT.W hb) hf (ht.W hb);have H:k0d t (n:Int)=pgE t:=z7q (k5x E G) h0;rw[z7r (by rw[H];exact hp),H,q0h hp]at I;exact I
 clear h0 hf hT ht hc hp;generalize pgE t=S at D⊢;generalize t.length=nt at D⊢;go_in;go_wp2_with fail;refine(D.o _ (q1c w _)).mono ?_;rintro e C⟨rfl,B⟩;have K:=B.size;rw[World.size_alloc]at K;have L:C.cell? ⟨w,0,none⟩=some (.slice none 0 0):=((q0t B).1 _ _ (by simp)).trans (by simp[go_sem]);have M:C.cell? ⟨w,1,none⟩=some (.string ⟨#[]⟩):=((q0t B).1 _ _ (by simp)).trans (by simp[go_sem]);have N:C.frozen? ⟨w,0,none⟩=false:=((q0t B).2 _ _ (by simp)).trans (by simp[go_sem]);have O:C.frozen? ⟨w,1,none⟩=false:=((q0t B).2 _ _ (by simp)).trans (by simp[go_sem]);have J:Hid (Below w w C):=q8i Zb Zl B;clear B;go_wp2;exact bodyPost_ret (v:=.tuple #[zEn,.iface 50 (.int .i64 S)]) (by simp[results,Tryz.results81,go_sem,L,M]) rfl ⟨rfl,(J.o.setCell (p:=⟨w,0,none⟩) Zl _).setCell (p:=⟨w,1,none⟩) Zl _⟩
structure q6z(ps old:List (List Td))(n:Nat)(w:World)(j i k:Nat)(wr:World):Prop where
 le:j<=ps.length
 cnt:k+frs (old.map q2n++(ps.map q2n).take i) ((ps.map q2n).drop i)=frP ps old
 z:fmE (ps.drop i)=fmE ps
 pg:∀t∈ps.take i,pgE t=0
 nx:∃A c,wr.heap[w.heap.size]?=some (.cells #[.int .i64 (n:Int),.slice A j c,.map (some (w.heap.size+1))] 91 (0,0))/\q1n (w.heap.size+2) (.slice A j c) ((ps.take j).map kyB) wr
 kn:KnM w wr (w.heap.size+1) (ps.take i) n
 bl:Below w w wr
theorem v7g{B e A n:Nat}{v:Value}{xs:List Value}{w:World}(h:w.ownsRow B e A v n xs){k:Nat}(hk:v.ownBlock=some k):B<=k:=by
 rcases h.2 with⟨rfl,_⟩|⟨g,c,C,rfl,D,_⟩
 ·cases hk
 ·have:g=k:=by simpa[Value.ownBlock]using hk
  omega
section
variable {ps old:List (List Td)} {n j i k:Nat} {w wr w':World}
theorem q6z.sz(h:q6z ps old n w j i k wr):w.heap.size+2<=wr.heap.size:=h.kn.lt
theorem q6z.grow(h:q6z ps old n w j i k wr)(hb:Below wr wr w'):q6z ps old n w j i k w':=by
 have D:=h.sz;obtain⟨A,c,B,C⟩:=h.nx;exact⟨h.le,h.cnt,h.z,h.pg,⟨A,c,(hb.block _ (by omega)).trans B,q1z C hb⟩,h.kn.kept (hb.block _ (by omega)),q0g h.bl Zl hb⟩
theorem q6z.key{A A':Option Addr}{c c':Nat}{O:Obj}(h:q6z ps old n w i i k wr)(hi:i<ps.length)(hq:wr.heap[w.heap.size]?=some (.cells #[.int .i64 (n:Int),.slice A i c,.map (some (w.heap.size+1))] 91 (0,0)))(C:q1n (w.heap.size+2) (.slice A i c) ((ps.take i).map kyB) wr)
  (hg:(wr.alloc O).grownBy w' (Value.slice A i c).ownBlock) (hS:q1n (w.heap.size+2) (.slice A' (i+1) c') ((ps.take i).map kyB++[kyB ps[i]]) w'):
  q6z ps old n w (i+1) i k (w'.setCell ⟨w,1,none⟩ (.slice A' (i+1) c'))/\w'.heap[w.heap.size]?=some (.cells #[.int .i64 (n:Int),.slice A i c,.map (some (w.heap.size+1))] 91 (0,0)):=by
 have S:=h.sz
 have I:∀x,x<w.heap.size+2->some x≠(Value.slice A i c).ownBlock:=fun x hx e=>by
  have:=v7g C e.symm
  omega
 have H:∀x,x<w.heap.size+2->w'.heap[x]?=wr.heap[x]?:=fun x hx=>by
  have Q:=hg.block x (by rw[World.size_alloc];omega) (I x hx);have R:=(q1c wr O).block x (by omega);exact Q.trans R
 have B:=(H w.heap.size (by omega)).trans hq;have K:(ps.take i).map kyB++[kyB ps[i]]=(ps.take (i+1)).map kyB:=by rw[List.take_succ_eq_append_getElem hi,List.map_append];rfl
 rw[K]at hS;refine⟨⟨by omega,h.cnt,h.z,h.pg,⟨A',c',?_,?_⟩,?_,?_⟩,B⟩
 ·simp[World.setCell,Array.getElem?_modify,B]
 ·refine⟨hS.1,?_⟩;rcases hS.2 with L|⟨g,J,E,N,M,G,D⟩
  ·exact .inl L
  ·exact .inr ⟨g,J,E,N,M,(Below.heap_setCell _ _ _ _ (by simp;omega)).trans G,D⟩
 ·exact h.kn.kept ((Below.heap_setCell _ _ _ _ (by simp)).trans (H _ (by omega)))
 ·refine Below.setCell (p:=⟨w,1,none⟩) ?_ Zl _;have P:=hg.size;rw[World.size_alloc]at P;exact h.bl.trans ⟨hg.os,hg.tape,hg.output,by omega,fun x hx=>H x (by omega)⟩
theorem v6x{t:List Td}{qs:List (List Td)}(ht:q0c t=0)(hq:∀u∈qs,q0c u=0):q2n t∈qs.map q2n↔t∈qs:=by
 constructor
 ·intro h;obtain⟨u,A,e⟩:=List.mem_map.1 h;rw[<-k6z (hq u A) ht e];exact A
 ·intro h;exact List.mem_map.2 ⟨t,h,rfl⟩
theorem k2i(hi:i<ps.length)(A:∀t∈ps,q0c t=0)(B:∀t∈old,q0c t=0)(h:k+frs (old.map q2n++(ps.map q2n).take i) ((ps.map q2n).drop i)=frP ps old):
  (ps[i]∈old\/ps[i]∈ps.take i->k+frs (old.map q2n++(ps.map q2n).take (i+1)) ((ps.map q2n).drop (i+1))=frP ps old)/\(¬(ps[i]∈old\/ps[i]∈ps.take i)->(k+1)+frs (old.map q2n++(ps.map q2n).take (i+1)) ((ps.map q2n).drop (i+1))=frP ps old):=by
 have G:i<(ps.map q2n).length:=by simpa using hi
 rw[y4s G]at h;have E:=A _ (List.getElem_mem hi)
 have D:((ps.map q2n)[i]∈old.map q2n\/(ps.map q2n)[i]∈(ps.map q2n).take i)↔(ps[i]∈old\/ps[i]∈ps.take i):=by
  rw[List.getElem_map,<-List.map_take,v6x E B,v6x E fun u hu=>A u (List.mem_of_mem_take hu)]
 constructor
 ·intro C;rw[if_pos (D.2 C)]at h;omega
 ·intro C;rw[if_neg fun q=>C (D.1 q)]at h;omega
theorem q6z.same(h:q6z ps old n w (i+1) i k wr)(C:∀t∈ps,q0c t=0)(A:∀t∈old,q0c t=0)(hm:ps[i]'(h.le)∈ps.take i):q6z ps old n w (i+1) (i+1) k wr:=by
 have B:i<ps.length:=h.le;have D:=h.pg _ hm;refine⟨h.le,(k2i B C A h.cnt).1 (.inr hm),?_,fun t ht=>?_,h.nx,?_,h.bl⟩
 ·have E:=h.z;rw[List.drop_eq_getElem_cons B,q5p D]at E;exact E
 ·rw[List.take_succ_eq_append_getElem B]at ht;rcases List.mem_append.1 ht with q|q
  ·exact h.pg t q
  ·simp at q;rw[q];exact D
 ·rw[List.take_succ_eq_append_getElem B];exact h.kn.again hm
theorem q6z.put(h:q6z ps old n w (i+1) i k wr){k':Nat}(hp:pgE (ps[i]'(h.le))=0)(hc:k'+frs (old.map q2n++(ps.map q2n).take (i+1)) ((ps.map q2n).drop (i+1))=frP ps old)(hk:KnM w w' (w.heap.size+1) (ps.take i++[ps[i]'(h.le)]) n)(hg:wr.grownBy w' (some (w.heap.size+1))):q6z ps old n w (i+1) (i+1) k' w':=by
 have G:i<ps.length:=h.le;have O:=h.sz;have B:∀x,x<wr.heap.size->x≠w.heap.size+1->w'.heap[x]?=wr.heap[x]?:=fun x h1 h2=>hg.block x h1 (by simpa using h2)
 obtain⟨A,c,N,I⟩:=h.nx;refine⟨h.le,hc,?_,fun t ht=>?_,⟨A,c,(B _ (by omega) (by omega)).trans N,?_⟩,?_,?_⟩
 ·have H:=h.z;rw[List.drop_eq_getElem_cons G,q5p hp]at H;exact H
 ·rw[List.take_succ_eq_append_getElem G]at ht;rcases List.mem_append.1 ht with q|q
  ·exact h.pg t q
  ·simp at q;rw[q];exact hp
 ·refine⟨I.1,?_⟩;rcases I.2 with K|⟨g,J,E,M,L,C,D⟩
  ·exact .inl K
  ·exact .inr ⟨g,J,E,M,L,(B g (Array.getElem?_eq_some_iff.1 C).1 (by omega)).trans C,D⟩
 ·rw[List.take_succ_eq_append_getElem G];exact hk
 ·exact h.bl.trans ⟨hg.os,hg.tape,hg.output,hg.size,fun x hx=>B x (by omega) (by omega)⟩
theorem v4l{B n c:Nat}{A:Option Addr}{ss:List ByteArray}{w:World}(h:q1n B (.slice A n c) ss w):∀b o l c',Value.slice A n c=.slice (some ⟨b,o,none⟩) l c'->0<l->∃cs f,w.heap[b]?=some (.cells cs 9 f):=by
 intro b o l c' e H;rcases h.2 with⟨C,_⟩|⟨g,G,D,C,_,E,_⟩
 ·rw[e]at C;cases C
 ·rw[e]at C;simp only[Value.slice.injEq,Option.some.injEq,Addr.mk.injEq,and_true]at C;obtain⟨⟨rfl,_⟩,_⟩:=C;exact⟨_,_,E⟩
theorem q6z.sheet(h:q6z ps old n w ps.length ps.length k wr)(C:∀t∈ps,q0c t=0)(B:∀t∈ps,z4i t)(hl:ps.length<=20)(E:10<=n)(G:n<=100):fmE ps=0/\k=frP ps old/\∃A c,wr.heap[w.heap.size]?=some (.cells #[.int .i64 (n:Int),.slice A ps.length c,.map (some (w.heap.size+1))] 91 (0,0))/\ShM wr (.slice A ps.length c) (.map (some (w.heap.size+1))) ps n:=by
 have J:=h.cnt;have D:=h.pg;have I:=h.kn;obtain⟨A,c,K,H⟩:=h.nx;rw[List.drop_eq_nil_of_le (by simp),frs]at J;rw[List.take_length]at D I H;exact⟨z6w ps D,by omega,A,c,K,C,D,B,hl,E,G,⟨A,c,rfl,q9k H⟩,.inr ⟨_,rfl,I.up fun _ _ q=>q.W h.bl⟩,v4l H⟩
end
set_option maxHeartbeats 8000000
def j0t(ps old:List (List Td))(n:Nat)(w:World)(e:Ending)(w':World):Prop:=Below w w w'/\
 ((fmE ps=0/\∃ov mv,e=.returned (.tuple #[.agg #[.int .i64 (n:Int),ov,mv],.int .i64 (frP ps old:Nat),.nilIface])/\ShM w' ov mv ps n)\/
  (fmE ps≠0/\e=.returned (.tuple #[.agg #[.int .i64 0,.slice none 0 0,.map none],.int .i64 0,q0s (fmE ps)])))
theorem y9u(h:Array Obj)(a b:Obj):((h.push a).push b)[h.size+1]?=some b:=by
 have e:(h.push a).size=h.size+1:=Array.size_push ..;rw[<-e];exact Array.getElem?_push_size
theorem q6z.cells{ps C:List (List Td)}{n j i k:Nat}{w wr:World}(h:q6z ps C n w j i k wr):∃A c,wr.cell? ⟨w,0,none⟩=some (.int .i64 (n:Int))/\wr.cell? ⟨w,1,none⟩=some (.slice A j c)/\wr.cell? ⟨w,2,none⟩=some (.map (some (w.heap.size+1)))/\(∀o,wr.frozen? ⟨w,o,none⟩=false)/\
  wr.heap[w.heap.size]?=some (.cells #[.int .i64 (n:Int),.slice A j c,.map (some (w.heap.size+1))] 91 (0,0))/\q1n (w.heap.size+2) (.slice A j c) ((ps.take j).map kyB) wr:=by
 obtain⟨A,c,B,D⟩:=h.nx;exact⟨A,c,by simp[World.cell?,B],by simp[World.cell?,B],by simp[World.cell?,B],fun o=>by simp[World.frozen?,B],B,D⟩
theorem q6z.start{ps A:List (List Td)}{n:Nat}{w:World}{w1:World}(h1:w1.heap[w.heap.size]?=some (.cells #[.int .i64 (n:Int),.slice none 0 0,.map (some (w.heap.size+1))] 91 (0,0)))(h2:w1.heap[w.heap.size+1]?=some (.map #[] 0))(hb:Below w w w1):q6z ps A n w 0 0 0 w1:=by
 refine⟨Nat.zero_le _,?_,rfl,fun t ht=>by simp at ht,⟨none,0,h1,⟨rfl,.inl ⟨rfl,rfl⟩⟩⟩,?_,hb⟩
 ·simp[frP]
 ·have B:=KnM.made w (w.alloc (.map #[] 0)) n;rw[World.size_alloc]at B;refine B.kept (h2.trans ?_);exact(y9u w.heap _ _).symm
theorem z5g{T:TypeId}(B ps:List (List Td))(n b:Nat)(A:Option Addr)(c:Nat)(w:World)(hS:q4l T w b B n)(hP:Prg w A ps)(Ar:∀t∈ps,q0c t=0)(Ap:∀t∈ps,z4i t)(hl:ps.length<=20)(ht:q7n w):
  Calls prog 59 #[.pointer (some ⟨b,0,none⟩),.slice A ps.length c] w fun e w'=>j0t ps B n w e w':=by
 obtain⟨oA,oc,m,s0,s1,s2,sf,_,Au⟩:=hS.cell;have U:=hS.lt;obtain⟨Bc,Bb,Ay,S⟩:=hS;have Aa:=S.ok;have Ae:=S.w1;have Af:=S.w2;have HP:Hid (Prg w A ps):=hP;have G:Hid (∀t∈ps,q0c t=0):=Ar;have a:Hid (∀t∈ps,z4i t):=Ap;have L:Hid (∀t∈B,q0c t=0):=Aa;have Ax:Hid (∀t∈B,pgE t=0):=S.pg;have HT:Hid (q7n w):=ht;have Ah:Hid ((m=none/\B=[])\/∃b,m=some b/\KnM w w b B n):=Au;have Ag:Hid (∀W,Below w w W->W.cell? ⟨b,0,none⟩=some (.int .i64 (n:Int))/\W.cell? ⟨b,2,none⟩=some (.map m)):=fun W h=>⟨((q0t h).1 _ _ U).trans s0,((q0t h).1 _ _ U).trans s2⟩
 have Bd:(w.alloc (.cells #[.int .i64 0,.slice none 0 0,.map none] 91)).cell? ⟨b,0,none⟩=some (.int .i64 (n:Int)):=((q0t (q1c w _)).1 _ _ U).trans s0;clear hP Ar Ap Aa ht Au Ay S s0 s1 s2 sf Bc Bb;generalize Aq:ps.length=np at hl⊢;have Aw:Hid (ps.length=np):=Aq;clear Aq;go_in;have Ba:=@run_makeMap prog
 have Ai:Hid (q6z ps B n w 0 0 0 ((w.alloc (.cells #[.int .i64 (n:Int),.slice none 0 0,.map (some (w.heap.size+1))] 91)).alloc (.map #[] 0))):=by
  refine q6z.start ?_ ?_ (j1i w _ _)
  ·show((w.heap.push _).push _)[w.heap.size]?=_
   simp[Array.getElem?_push]
  ·exact y9u w.heap _ _
 go_wp2_with fail;clear Bd Ba
 go_loopw [5,23] (fun q x wr=>∃i k:Nat,q=.int .i64 (k:Int)/\x=.int .i64 (i:Int)/\q6z ps B n w i i k wr) (fun _ x _=>np-(intOf x).toNat)
 case atStart=>exact⟨0,0,rfl,rfl,Ai.o⟩
 case round=>
  clear Ai;obtain⟨i,k,rfl,rfl,l⟩:=hrel;have A8:=Aw.o;have Bn:=l.le;by_cases Bo:i<np
  ·have A5:(i:Int)<(np:Int):=by omega
   have K:i<ps.length:=by omega
   obtain⟨b0,o0,Z,f,rfl,Az,Ak,o,Ad⟩:=HP.o i K;have d0:=((q0t l.bl).1 _ _ Az).trans Ak;have r:=G.o ps[i] (List.getElem_mem _);have HK:Hid (Calls prog 80 #[.slice Z ps[i].length f] wr fun e w'=>e=.returned (.tuple #[.string (kyB ps[i]),.nilIface])/\Below wr wr w'):=v1f r (a.o _ (List.getElem_mem _)) Z f o wr (Ad.W l.bl) (HT.o.W l.bl);have HV:Hid (q6z ps B n w i i k wr):=l;have Bm:=k2x r;have Ab:Hid (Tds w Z ps[i]):=Ad;have H:Hid (q0c ps[i]=0):=r;have Bk:Hid (kyB ps[i]=kyB ps[i]):=rfl;clear l Ak Ad r;go_wp2_with fail;refine HK.o.mono ?_;rintro e w3⟨rfl,b3⟩;have d:Hid (q6z ps B n w i i k w3):=HV.o.grow b3;obtain⟨A3,c3,x0,x1,y,xf,xh,xo⟩:=d.o.cells;have Aj:=(show Hid (_=_)from xh);have Ac:Hid (q1n (w.heap.size+2) (.slice A3 i c3) ((ps.take i).map kyB) w3):=xo;clear b3 xh xo HV HK d0 xf;go_wp2_with(at_builtin;refine z6k rfl _ _ rfl (w.heap.size+2) _ ((ps.take i).map kyB) rfl ?c1 (some ⟨w3,0,none⟩) 1 [kyB ps[i]] rfl 1 rfl ?c2 (fun h=>by cases h) (i+1) ?c3 ?c4 ?c5 ?_)
   case c1=>exact q1z Ac.o (q1c _ _)
   case c2=>
    intro j hj;have A7:j=0:=by simp at hj;exact hj
    subst A7;exact⟨w3.heap.size,0,rfl,by simp,by simp[go_sem]⟩
   case c3=>simp;omega
   case c4=>omega
   case c5=>
    have:=d.o.sz
    simp;omega
   intro A4 c4 w4 Am Ao;obtain⟨Al,g⟩:=d.o.key K Aj.o Ac.o Ao (by rw[List.map_take];exact Am);have I:Hid (q6z ps B n w (i+1) i k (w4.setCell ⟨w,1,none⟩ (.slice A4 (i+1) c4))):=Al;have z1:w4.cell? ⟨w,1,none⟩=some (.slice A3 i c3):=by simp[World.cell?,g]
   have z2:w4.cell? ⟨w,2,none⟩=some (.map (some (w.heap.size+1))):=by simp[World.cell?,g]
   have zf:w4.frozen? ⟨w,1,none⟩=false:=by simp[World.frozen?,g]
   clear Al g Am Ao Aj Ac d x0 x1 y;go_wp2_with fail
   generalize(w4.setCell ⟨w,1,none⟩ (.slice A4 (i+1) c4))=w5 at I⊢
   clear z1 z2 zf
   have Bj:k<=20:=by
    have h1:=I.o.cnt;have h2:=v6l ps B;omega
   by_cases hm:ps[i]∈ps.take i
   ·obtain⟨A6,c6,_,E,_,_⟩:=I.o.kn.look hm H.o;have HN:Hid (q6z ps B n w (i+1) (i+1) k w5):=I.o.same G.o L.o hm;clear hm;generalize wbS (q5g n ps[i])=S6 at E;rw[E];go_wp2;refine⟨⟨i+1,k,rfl,by go_num,HN.o.grow (q1c w5 _)⟩,?_⟩;simp[intOf];omega
   ·have E:=I.o.kn.miss (k:=kyB ps[i]) (by omega) (fun u hu e=>hm (by rw[<-k2w (G.o u (List.mem_of_mem_take hu)) H.o e];exact hu));have C:Hid (q6z ps B n w (i+1) i k (w5.alloc (.cells #[.slice none 0 0,.string ⟨#[]⟩] 137))):=I.o.grow (q1c w5 _);obtain⟨Be,Bf⟩:=Ag.o _ C.o.bl;have HM:Hid (ps[i]∉ps.take i):=hm;clear I hm Be;rw[E];go_wp2_with fail;clear E Bf
    generalize(w5.alloc (.cells #[.slice none 0 0,.string ⟨#[]⟩] 137))=w6 at C⊢
    by_cases ho:ps[i]∈B
    ·rcases Ah.o with⟨_,e0⟩|⟨mb,rfl,N⟩
     ·rw[e0]at ho;simp at ho
     ·obtain⟨A6,c6,_,E,A1,An⟩:=(N.kept (C.o.bl.block mb N.lt)).look ho H.o;have R:=(k2i K G.o L.o C.o.cnt).1 (.inl ho);have D:Hid (q6z ps B n w (i+1) i k (w6.alloc (.cells #[.slice A6 ps[i].length c6,.string (wbS (q5g n ps[i]))] 137))):=C.o.grow (q1c w6 _);obtain⟨_,_,_,_,y,_,_,_⟩:=D.o.cells;obtain⟨w8,Y,X,V⟩:=D.o.kn.put (t:=ps[i]) (fun u hu=>G.o u (List.mem_of_mem_take hu)) (by simp;omega) H.o HM.o A1 An;have As:pgE ps[i]=0:=Ax.o _ ho;have HN:Hid (q6z ps B n w (i+1) (i+1) k w8):=D.o.put As R X V;clear R X V N An As D C;generalize wbS (q5g n ps[i])=S6 at E Y y;rw[E];go_wp2;refine⟨⟨i+1,k,rfl,by go_num,HN.o⟩,?_⟩;simp[intOf];omega
    ·have E:(Instr.lookup 89 (.map m) (.string (kyB ps[i])) true).run prog w6=.ok (.tuple #[zEn,.bool false]) w6:=by
      rcases Ah.o with⟨rfl,e0⟩|⟨mb,rfl,N⟩
      ·exact v3b w6 (by omega)
      ·exact(N.kept (C.o.bl.block mb N.lt)).miss (by omega) (fun u hu e=>ho (by rw[<-k2w (L.o u hu) H.o e];exact hu))
     have R:=(k2i K G.o L.o C.o.cnt).2 (fun q=>q.elim ho HM.o);have D:Hid (q6z ps B n w (i+1) i k (w6.alloc (.cells #[.slice none 0 0,.string ⟨#[]⟩] 137))):=C.o.grow (q1c w6 _);obtain⟨At,_⟩:=Ag.o _ D.o.bl;have Av:=(show Hid (_=_)from R);have Bl:w.heap.size+2<=w6.heap.size:=C.o.sz;clear R ho;by_cases hp:pgE ps[i]=0
     ·have HL:Hid (Calls prog 81 #[.slice Z ps[i].length f,.int .i64 (n:Int)] (w6.alloc (.cells #[.slice none 0 0,.string ⟨#[]⟩] 137)) fun e w'=>e=.returned (.tuple #[enV Z ps[i].length f (wbS (q5g n ps[i])),.nilIface])/\Below (w6.heap.size+1) (w6.alloc (.cells #[.slice none 0 0,.string ⟨#[]⟩] 137)) w'):=by
       have h1:=v9e H.o (a.o _ (List.getElem_mem K)) hp Ae Af Z f o (w6.alloc (.cells #[.slice none 0 0,.string ⟨#[]⟩] 137)) (Ab.o.W D.o.bl) (HT.o.W D.o.bl);rw[World.size_alloc]at h1;exact h1
      have P:Hid (pgE ps[i]=0):=hp;clear hp;rw[E];go_wp2_with fail;refine HL.o.mono ?_;rintro e O⟨rfl,M⟩;have Q:Below w6 w6 ((O.setCell ⟨w6,0,none⟩ (.slice Z ps[i].length f)).setCell ⟨w6,1,none⟩ (.string (wbS (q5g n ps[i])))):=(((q1c w6 _).trans (M.mono (Nat.le_succ _))).setCell (p:=⟨w6,0,none⟩) Zl _).setCell (p:=⟨w6,1,none⟩) Zl _;have J:Hid (q6z ps B n w (i+1) i k ((O.setCell ⟨w6,0,none⟩ (.slice Z ps[i].length f)).setCell ⟨w6,1,none⟩ (.string (wbS (q5g n ps[i]))))):=C.o.grow Q;have y0:O.cell? ⟨w6,0,none⟩=some (.slice none 0 0):=(M.cell (p:=⟨w6,0,none⟩) (Nat.lt_succ_self _)).trans (by simp[go_sem]);have y1:O.cell? ⟨w6,1,none⟩=some (.string ⟨#[]⟩):=(M.cell (p:=⟨w6,1,none⟩) (Nat.lt_succ_self _)).trans (by simp[go_sem]);have f0:O.frozen? ⟨w6,0,none⟩=false:=(M.frozen (p:=⟨w6,0,none⟩) (Nat.lt_succ_self _)).trans (by simp[go_sem]);have f1:O.frozen? ⟨w6,1,none⟩=false:=(M.frozen (p:=⟨w6,1,none⟩) (Nat.lt_succ_self _)).trans (by simp[go_sem]);obtain⟨_,_,_,_,y,_,_,_⟩:=J.o.cells;obtain⟨w8,Y,X,V⟩:=J.o.kn.put (t:=ps[i]) (fun u hu=>G.o u (List.mem_of_mem_take hu)) (by simp;omega) H.o HM.o o Ab.o;have HN:Hid (q6z ps B n w (i+1) (i+1) (k+1) w8):=J.o.put P.o Av.o X V;clear X V Q M J D C HL At E;generalize wbS (q5g n ps[i])=S6 at Y y⊢;go_wp2;refine⟨⟨i+1,k+1,by go_num,by go_num,HN.o⟩,?_⟩;simp[intOf];omega
     ·have HL:Hid (Calls prog 81 #[.slice Z ps[i].length f,.int .i64 (n:Int)] (w6.alloc (.cells #[.slice none 0 0,.string ⟨#[]⟩] 137)) fun e w'=>e=.returned (.tuple #[zEn,.iface 50 (.int .i64 (pgE ps[i]))])/\Below (w6.heap.size+1) (w6.alloc (.cells #[.slice none 0 0,.string ⟨#[]⟩] 137)) w'):=by
       have h1:=v9d H.o (a.o _ (List.getElem_mem K)) hp Ae Af Z f o (w6.alloc (.cells #[.slice none 0 0,.string ⟨#[]⟩] 137)) (Ab.o.W D.o.bl) (HT.o.W D.o.bl);rw[World.size_alloc]at h1;exact h1
      have P:Hid (fmE ps≠0/\q0s (fmE ps)=.iface 50 (.int .i64 (pgE ps[i]))):=by
       have hz:=D.o.z;rw[List.drop_eq_getElem_cons K,z6x hp]at hz;rw[<-hz];exact⟨hp,q0h hp⟩
      clear hp;rw[E];go_wp2_with fail;refine HL.o.mono ?_;rintro e O⟨rfl,M⟩;have Q:Below w6 w6 ((O.setCell ⟨w6,0,none⟩ (.slice none 0 0)).setCell ⟨w6,1,none⟩ (.string ⟨#[]⟩)):=(((q1c w6 _).trans (M.mono (Nat.le_succ _))).setCell (p:=⟨w6,0,none⟩) Zl _).setCell (p:=⟨w6,1,none⟩) Zl _;have J:Hid (q6z ps B n w (i+1) i k ((O.setCell ⟨w6,0,none⟩ (.slice none 0 0)).setCell ⟨w6,1,none⟩ (.string ⟨#[]⟩))):=C.o.grow Q;have y0:O.cell? ⟨w6,0,none⟩=some (.slice none 0 0):=(M.cell (p:=⟨w6,0,none⟩) (Nat.lt_succ_self _)).trans (by simp[go_sem]);have y1:O.cell? ⟨w6,1,none⟩=some (.string ⟨#[]⟩):=(M.cell (p:=⟨w6,1,none⟩) (Nat.lt_succ_self _)).trans (by simp[go_sem]);have f0:O.frozen? ⟨w6,0,none⟩=false:=(M.frozen (p:=⟨w6,0,none⟩) (Nat.lt_succ_self _)).trans (by simp[go_sem]);have f1:O.frozen? ⟨w6,1,none⟩=false:=(M.frozen (p:=⟨w6,1,none⟩) (Nat.lt_succ_self _)).trans (by simp[go_sem]);obtain⟨A9,c9,x0,x1,y,xf,_,_⟩:=J.o.cells;have Bg:=xf 0;have Bh:=xf 1;have Bi:=xf 2;clear Q M D C HL At E xf;generalize pgE ps[i]=z at P⊢;go_wp2_with fail;refine bodyPost_ret (v:=.tuple #[.agg #[.int .i64 0,.slice none 0 0,.map none],.int .i64 0,.iface 50 (.int .i64 z)]) (by simp[results,Tryz.results59,go_sem,x0,x1,y]) rfl ?_;exact⟨((J.o.bl.setCell (p:=⟨w,0,none⟩) Zl _).setCell (p:=⟨w,1,none⟩) Zl _).setCell (p:=⟨w,2,none⟩) Zl _,.inr ⟨P.o.1,by rw[P.o.2]⟩⟩
  ·have A5:¬(i:Int)<(np:Int):=by omega
   have A2:i=ps.length:=by omega
   subst A2;obtain⟨hz,hk,A9,c9,s,q2⟩:=l.sheet G.o a.o (by omega) Ae Af;rw[A8]at s q2;have x0:wr.cell? ⟨w,0,none⟩=some (.int .i64 (n:Int)):=by simp[World.cell?,s]
   have x1:wr.cell? ⟨w,1,none⟩=some (.slice A9 np c9):=by simp[World.cell?,s]
   have y:wr.cell? ⟨w,2,none⟩=some (.map (some (w.heap.size+1))):=by simp[World.cell?,s]
   have Bg:wr.frozen? ⟨w,0,none⟩=false:=by simp[World.frozen?,s]
   have Bh:wr.frozen? ⟨w,1,none⟩=false:=by simp[World.frozen?,s]
   have Bi:wr.frozen? ⟨w,2,none⟩=false:=by simp[World.frozen?,s]
   have HQ:Hid (q4l 91 wr w.heap.size ps n):=⟨_,_,s,q2⟩;have HM:Hid (ShM wr (.slice A9 np c9) (.map (some (w.heap.size+1))) ps n):=q2;have HB:Hid (Below w w wr):=l.bl;have HZ:Hid (fmE ps=0/\k=frP ps B):=⟨hz,hk⟩;clear l s q2 hz hk;go_wp2_with fail;refine bodyPost_ret (v:=.tuple #[.agg #[.int .i64 (n:Int),.slice A9 np c9,.map (some (w.heap.size+1))],.int .i64 (k:Int),.nilIface]) (by simp[results,Tryz.results59,go_sem,x0,x1,y]) rfl ?_;obtain⟨_,hx⟩:=HQ.o.put HM.o;exact⟨((HB.o.setCell (p:=⟨w,0,none⟩) Zl _).setCell (p:=⟨w,1,none⟩) Zl _).setCell (p:=⟨w,2,none⟩) Zl _,.inl ⟨HZ.o.1,_,_,by rw[HZ.o.2],HM.o.apart hx HQ.o.blk⟩⟩
theorem v9j(a b:Value)(w:World):(Instr.field 137 (.agg #[a,b]) 0).run prog w=.ok a w:=by kernel_rfl
theorem v1w(a b:Value)(w:World):(Instr.field 137 (.agg #[a,b]) 1).run prog w=.ok b w:=by kernel_rfl
theorem j3a{T:TypeId}(qs:List (List Td))(n b:Nat)(w:World)(hS:q4l T w b qs n):
  Calls prog 88 #[.pointer (some ⟨b,0,none⟩)] w fun e w'=>e=.returned (.string (wbS (q2j n qs)))/\Below w w w':=by
 obtain⟨v,oc,m,s0,y,o,sf,sW,R⟩:=hS.cell;have D:=hS.lt;obtain⟨_,_,_,C⟩:=hS;have O:=C.len;have Y:Hid (∀t∈qs,q0c t=0):=C.ok;have Z:Hid (∀t∈qs,pgE t=0):=C.pg;have HW:Hid (Wds w v (qs.map kyB)):=sW;have V:Hid ((m=none/\qs=[])\/∃b,m=some b/\KnM w w b qs n):=R;have U:Hid (∀W,Below w w W->W.cell? ⟨b,2,none⟩=some (.map m)):=fun W h=>((q0t h).1 _ _ D).trans o
 have Q:(w.alloc (.cells #[.pointer none,.slice none 0 0] 38)).cell? ⟨b,1,none⟩=some (.slice v qs.length oc):=((q0t (q1c w _)).1 _ _ D).trans y;have L:Hid (v0a qs n w 0 (w.alloc (.cells #[.pointer none,.slice none 0 0] 38))):=⟨Nat.zero_le _,rfl,IsX.fresh 38 w [],q1c w _,by simp[q2j]⟩;clear sW R C s0 y o sf;generalize P:qs.length=np at O Q⊢;have X:Hid (qs.length=np):=P;clear P;go_in;go_wp2_with fail;clear Q
 go_loopw [11] (fun x wr=>∃i:Nat,x=.int .i64 (i:Int)/\v0a qs n w i wr) (fun x _=>np-(intOf x).toNat)
 case atStart=>exact⟨0,rfl,L.o⟩
 case round=>
  clear L;obtain⟨i,rfl,A⟩:=hrel;have Ac:=X.o;have Ab:=A.le;have Ad:=A.ln;by_cases Ae:i<np
  ·have f:(i:Int)<(np:Int):=by omega
   have B:i<qs.length:=by omega
   obtain⟨ob,oo,rfl,j,G⟩:=HW.o i (by simpa using B);rw[List.getElem_map]at G;have d0:=((q0t A.bl).1 _ _ j).trans G;have J:=Y.o qs[i] (List.getElem_mem _);have I:=Z.o qs[i] (List.getElem_mem _);rcases V.o with⟨_,e0⟩|⟨mb,rfl,H⟩
   ·rw[e0]at B;simp at B
   ·obtain⟨A6,c6,g,_,_,_⟩:=(H.kept (A.bl.block mb H.lt)).look (List.getElem_mem B) J;have o:=U.o wr A.bl;have k:=k3n J I n;have E:=(show Hid (_=_)from k6m (ps:=qs) n B)
    have K:Hid (Calls prog 10 #[.pointer (some ⟨w,0,none⟩),.string (wbS (q5g n qs[i]))] wr fun e w'=>(∃z,e=.returned (.tuple #[z,.nilIface]))/\v0a qs n w (i+1) w'):=by
     have Af:=A.bl.size;refine(q6e 38 w.heap.size w.heap.size (Lib.byteCells (q2j n (qs.take i))) [] (wbS (q5g n qs[i])) wr y5b y9s A.x (by rw[Lib.byteCells_length,q7t];omega) (by omega)).mono ?_;rintro e w'⟨rfl,q1,q2,_⟩;refine⟨⟨_,rfl⟩,by omega,?_,?_,?_,?_⟩
     ·have u:=A.z;rw[k6l B,q5p I]at u;exact u
     ·rw[E.o,q2r];exact q1
     ·exact A.bl.trans (q2.W Zl)
     ·rw[E.o,List.length_append];omega
    clear H A G J I E k;generalize wbS (q5g n qs[i])=S6 at g K;have Aa:=v1w;go_wp2_with fail;refine K.o.mono ?_;rintro e w4⟨⟨q,rfl⟩,s⟩;have d:Hid (v0a qs n w (i+1) w4):=s;clear s;go_wp2;refine⟨⟨i+1,by go_num,d.o⟩,?_⟩;simp[intOf];omega
  ·have f:¬(i:Int)<(np:Int):=by omega
   have N:qs.take i=qs:=List.take_of_length_le (by omega);have l:=A.x;rw[N]at l;have p:Hid (Calls prog 12 #[.pointer (some ⟨w,0,none⟩)] wr fun e w'=>e=.returned (.string (wbS (q2j n qs)))/\Below w wr w'):=z2d _ _ _ _ _ _ l;have HB:Hid (Below w w wr):=A.bl;clear A N l;generalize M:wbS (q2j n qs)=S at p;have c:Hid (wbS (q2j n qs)=S):=M;clear M;go_wp2_with fail;refine p.o.mono ?_;rintro e w3⟨rfl,r⟩;have a:Hid (Below w w w3):=HB.o.trans r;clear r;go_wp2;go_ret;refine⟨?_,a.o⟩;rw[c.o];rfl
inductive y7t (s:ByteArray) (old:List (List Td)):List (List Td)->Nat->Int->Int->Prop where
 | bad {ps k f} (hp:q6l s ps k f) (hf:f≠0):y7t s old old 0 k f
 | full {ps} (hp:q6l s ps 0 0) (hf:fmE ps≠0):y7t s old old 0 0 (fmE ps)
 | ok {ps} (hp:q6l s ps 0 0) (hf:fmE ps=0):y7t s old ps (frP ps old) 0 0
theorem ShM.fresh(w:World){n:Nat}(hw1:10<=n)(hw2:n<=100):ShM w (.slice none 0 0) (.map none) [] n:=
 ⟨fun t ht=>by simp at ht,fun t ht=>by simp at ht,fun t ht=>by simp at ht,by simp,hw1,hw2,⟨none,0,rfl,z1s.nil _ _ _⟩,.inl ⟨rfl,rfl⟩,fun _ _ _ _ e=>by cases e⟩
theorem q4l.fresh(T:TypeId)(w:World){n:Nat}(hw1:10<=n)(hw2:n<=100):q4l T (w.alloc (.cells #[.int .i64 (n:Int),.slice none 0 0,.map none] T)) w.heap.size [] n:=
 ⟨_,_,by show(w.heap.push _)[w.heap.size]?=_;simp,ShM.fresh _ hw1 hw2⟩
theorem v9f{n:Nat}(A:10<=n)(B:n<=100)(w:World):
  Calls prog 21 #[.int .i64 (n:Int)] w fun e w'=>e=.returned (.tuple #[.pointer (some ⟨w,0,none⟩),.nilIface])/\q4l 93 w' w.heap.size [] n/\Below w w w':=by
 have C:Hid (Calls prog 38 #[.int .i64 (n:Int)] w fun e w'=>e=.returned .nilIface/\w=w'):=k6q A B w;go_in;go_wp2_with fail;refine C.o.mono ?_;rintro e D⟨rfl,rfl⟩;go_wp2;go_ret2;exact⟨rfl,q4l.fresh _ w A B,q1c w _⟩
theorem j2u{T:TypeId}{qs:List (List Td)}{n b:Nat}(w:World)(hS:q4l T w b qs n):
  Calls prog 64 #[.pointer (some ⟨b,0,none⟩)] w fun e w'=>e=.returned (.string (wbS (q2j n qs)))/\Below w w w':=by
 have A:Hid (Calls prog 88 #[.pointer (some ⟨b,0,none⟩)] w fun e w'=>e=.returned (.string (wbS (q2j n qs)))/\Below w w w'):=j3a qs n b w hS;clear hS;generalize wbS (q2j n qs)=S at A⊢;go_in;go_wp2_with fail;refine A.o.mono ?_;rintro e C⟨rfl,B⟩;go_wp2;go_ret;exact⟨rfl,B⟩
theorem k5d{T:TypeId}(s:ByteArray)(C:List (List Td))(n d:Nat)(w:World)(hS:q4l T w d C n)(ht:q7n w):
  Calls prog 46 #[.pointer (some ⟨d,0,none⟩),.string s] w fun e w'=>∃qs x k f,e=.returned (.tuple #[.int .i64 (x:Nat),.int .i64 k,q0s f])/\y7t s C qs x k f/\q4l T w' d qs n/\q0j w d w w':=by
 have p:Hid (q4l T w d C n):=hS;have q:Hid (q7n w):=ht;have I:Hid (Calls prog 63 #[.string s] w fun e w'=>∃B k f A c,e=.returned (.tuple #[.slice A B.length c,.int .i64 k,q0s f])/\q6l s B k f/\Prg w' A B/\B.length<=c/\Below w w w'):=z1h s w ht;clear hS ht;go_in;go_wp2_with fail;refine I.o.mono ?_;rintro e X⟨B,k,f,A,c,rfl,J,m,_,S⟩;have M:Hid (Below w w X):=S;have H:Hid (q4l T X d C n):=p.o.W S;by_cases g:f=0
 ·subst g;obtain⟨rfl,_,V,G⟩:=q9c J;have Z:Hid (Calls prog 59 #[.pointer (some ⟨d,0,none⟩),.slice A B.length c] X fun e w'=>j0t B C n X e w'):=z5g C B n d A c X H.o m G (k6p J) V (q.o.W S);have P:Hid (q6l s B 0 0):=J;rw[q0q];clear m S G J I;generalize B.length=np at Z⊢;go_wp2_with fail;refine Z.o.mono ?_;rintro e D⟨l,r⟩;have Q:Hid (q4l T D d C n):=H.o.W l;have E:Hid (Below w w D):=q0g M.o Zl l;clear l;rcases r with⟨K,t,o,rfl,U⟩|⟨K,rfl⟩
  ·have HM:Hid (ShM D t o B n):=U;obtain⟨Y,a,rfl,_⟩:=U.ord
   obtain⟨L,rfl⟩:∃L,o=.map L:=by
    rcases U.kn with⟨rfl,_⟩|⟨b,rfl,_⟩
    ·exact⟨_,rfl⟩
    ·exact⟨_,rfl⟩
   have R:Hid (q4l T (D.alloc (.cells #[.int .i64 (n:Int),.slice Y B.length a,.map L] 91)) d C n):=Q.o.W (q1c D _);have i:Hid (ShM (D.alloc (.cells #[.int .i64 (n:Int),.slice Y B.length a,.map L] 91)) (.slice Y B.length a) (.map L) B n):=U.W (q1c D _);have N:Hid (Below w w (D.alloc (.cells #[.int .i64 (n:Int),.slice Y B.length a,.map L] 91))):=E.o.trans ((q1c D _).mono E.o.size);have j:Hid (fmE B=0):=K;obtain⟨oA,oc,om,s0,s1,s2,h,_,_⟩:=R.o.cell;have y:=h 0;have z:=h 1;have Aa:=h 2;clear U K Z h;go_wp2;go_ret3;obtain⟨u,v⟩:=R.o.put i.o;exact⟨B,_,0,0,rfl,.ok P.o j.o,u,(q0j.of N.o).trans (v.mono N.o.size)⟩
  ·have j:Hid (fmE B≠0):=K;have O:Hid (q0s (fmE B)=.iface 50 (.int .i64 (fmE B))):=q0h K;rw[O.o];clear K Z;go_wp2;go_ret3;exact⟨C,0,0,fmE B,by rw[O.o];rfl,.full P.o j.o,Q.o.W (q1c D _),q0j.of (E.o.trans ((q1c D _).mono E.o.size))⟩
 ·have O:Hid (q0s f=.iface 50 (.int .i64 f)):=q0h g;have P:Hid (q6l s B k f/\f≠0):=⟨J,g⟩;rw[O.o];clear J m S g I;generalize B.length=np;go_wp2;go_ret3;exact⟨C,0,k,f,by rw[O.o];rfl,.bad P.o.1 P.o.2,H.o,q0j.of M.o⟩
end Go.Proofs.YtelcnplcpboonaaGreatDoor
namespace Go.Proofs.YtelcnplcpboonaaGreatDoor
open Go Go.RowKit Go.Shelf
attribute [local go_sem] Oper.semAt_some
set_option maxRecDepth 100000
set_option maxHeartbeats 4000000
theorem j7l(n:Nat)(hn:5<=n){σ:Ss}(M d:Nat)(w:World)(hS:SeM w M d σ)(hl:(q2j σ.wd σ.ps).length<=100000000):
  CallsIn Fence.wide n prog 47 #[.pointer (some ⟨M,0,none⟩)] w fun e w'=>e=.returned (.string (wbS (brS (q2j σ.wd σ.ps))))/\Below w w w':=by
 have h1:1<=n:=by omega
 obtain⟨T,S⟩:∃T,wbS (q2j σ.wd σ.ps)=T:=⟨_,rfl⟩;have HT:Hid (wbS (q2j σ.wd σ.ps)=T):=S;have i:T.size<=100000000:=by rw[<-S,q4w];exact hl
 have HR:Hid (brS (q2j σ.wd σ.ps)=brL (rl (btL T))):=by
  show _=_;rw[<-S];rfl
 rw[HR.o];obtain⟨F,E⟩:∃F,F=Fence.wide:=⟨_,rfl⟩;rw[<-E];have u:∀f,F.fn f:=fun f=>by rw[E];trivial
 have V:F.round=none:=by rw[E];rfl
 have C:Hid (F=Fence.wide):=E
 have q:Hid (Calls prog 64 #[.pointer (some ⟨d,0,none⟩)] (w.alloc (.cells #[.pointer none,.slice none 0 0] 38)) fun e w'=>e=.returned (.string T)/\Below (w.alloc (.cells #[.pointer none,.slice none 0 0] 38)).heap.size (w.alloc (.cells #[.pointer none,.slice none 0 0] 38)) w'):=by
  have h:=j2u _ (hS.W (q1c w (.cells #[.pointer none,.slice none 0 0] 38))).sh;rw[S]at h;exact h
 have s0:(w.alloc (.cells #[.pointer none,.slice none 0 0] 38)).cell? ⟨M,0,none⟩=some (.pointer (some ⟨d,0,none⟩)):=(hS.W (q1c w _)).cell0;have r:Hid (IsU w.heap.size w.heap.size [] (w.alloc (.cells #[.pointer none,.slice none 0 0] 38))):=IsU.fresh w;clear E S hS hl;refine callsIn_of_wp_marks func47 rfl (u 47) ?_ V;simp only[ntmps47,List.size_toArray,List.length_cons,List.length_nil,Nat.reduceAdd,Nat.reduceSub,Array.replicate_succ,Array.replicate_zero,List.push_toArray,List.append_toArray,List.nil_append,List.cons_append]
 gi_wp2_with (first
  | (gi_at_call 64;rw[C.o];refine(callsIn_wide.2 q.o).mono ?_;rintro e H⟨rfl,P⟩)
  | (gi_at_call 9;rw[C.o];refine(callsIn_wide.2 (z5w _ _)).mono ?_;rintro e w'⟨rfl,rfl⟩))
 rename_i Q0 K0 hK0;have Z:Hid (Below w w (H.alloc (.cells #[.string T] 9))):=(q8i Zb Zl P).trans ((q1c H _).mono (by have:=P.size;simp at this;omega));have b:Hid (IsU w.heap.size w.heap.size [] (H.alloc (.cells #[.string T] 9))):=(r.o.W P).W (q1c H _);have Ab:w.heap.size+1<=H.heap.size:=by have:=P.size;simpa using this
 have I:=z5x n (by omega) H.heap.size T i (H.alloc (.cells #[.string T] 9)) (by simp) (by rw[Lib.cell_of_heap (heap_alloc_new H _)];rfl);rw[<-C.o]at I;clear P q r s0
 refine z5y V h1 (gf:=22) (lb:=#[.pointer (some ⟨H,0,none⟩)]) rfl (u 22) (enters_of func22 (by kernel_rfl) rfl) (enc:=z4o) (T:=Pcs T) (N:=NxP T)
  I (fun _=>rfl) (fun B W=>IsU w.heap.size w.heap.size (brL (pcL B)) W/\Below w w W) ⟨b.o,Z.o⟩ ?stable
  (fun x=>{tmps:=#[.pointer (some ⟨M,0,none⟩),undef,.string ⟨#[]⟩,.pointer (some ⟨w,0,none⟩),.string x.1,.pointer (some ⟨M,0,none⟩),.pointer (some ⟨M,0,none⟩),.pointer (some ⟨M,0,none⟩),.pointer (some ⟨d,0,none⟩),.string T,.func (.func 22) #[] #[.pointer (some ⟨H,0,none⟩)],.string x.1,undef,undef,undef,undef,undef],defers:=[]}) ?assign ?body ?done
 case stable=>
  rintro s A A'⟨q1,q2⟩z U;have hz:=q2.size;refine⟨q1.ex z fun k t h3=>q1.notBare (U k h3) t,q2.trans (z.W (fun k hk=>?_) hz)⟩;rcases hk with rfl|rfl<;>simp<;>omega
 case assign=>
  intro l x W K Q
  gi_wp2
  exact Q
 case body=>
  rintro l B x W⟨L,J⟩hN m G;simp only[World.size_alloc]at m G;obtain⟨l1,l2⟩:=hN.len;have l3:=k1y (pcL B);have Ac:=x.2
  have HE:Hid (brL (pcL (B++[x]))=brL (pcL B)++btL ((⟨#[124]⟩:ByteArray)++x.1++(⟨#[10]⟩:ByteArray))):=by
   show _=_;rw[q9d,v0q];simp[btL]
  generalize x.1=xs at *;have y:((⟨#[124]⟩:ByteArray)++xs++(⟨#[10]⟩:ByteArray)).size<=100000002:=by simp[ByteArray.size_append];show 1+xs.size+1<=_;omega
  have t:1<=n-1-1:=by omega
  gi_wp2_with (gi_at_call 10;rw[C.o];refine(CallsIn.inRound l (callsIn_wide.2 (z4a _ L (by omega) J.size))).mono ?_;rintro e w4⟨rfl,j,X⟩)
  have O:Hid (IsU w.heap.size w.heap.size (brL (pcL B)) W):=L;have g:=J.size;have a:Hid (Below w w W):=J;refine⟨fun k hk=>?_,?_,?_⟩
  ·refine X.block k ?_ fun U=>O.o.notBare (G k hk) U
   rcases hk with rfl|rfl<;>omega
  ·rw[HE.o];exact j
  ·exact a.o.trans (X.W (O.o.ge Zl) g)
 case done=>
  rintro D ys W hD p⟨L,J⟩Q;have Aa:H.heap.size+1<=D:=by simpa using hD
  have c:Hid (pcL ys=rl (btL T)):=p;apply hK0
  gi_wp2_with (gi_at_call 12;rw[C.o];refine(callsIn_wide.2 (k7g L)).mono ?_;rintro e w5⟨rfl,Y⟩)
  have R:w5.heap[D]?=some (.deferred (some [])):=(Y.block D (Array.getElem?_eq_some_iff.1 Q).1 fun U=>L.notBare (k:=D) (by intro o v;rw[Q]at v;cases v;exact .inr ⟨_,rfl⟩) U).trans Q;refine⟨by simp,.inl ⟨_,_,rfl,run_takeDeferred R,?_⟩⟩;refine⟨_,results_tmp rfl _ _ _,?_,(J.trans (Y.W (L.ge Zl) J.size)).trans (belowK_b (w:=w) Zl w5 D _ _ (by omega) R rfl rfl)⟩;rw[c.o];rfl
theorem k9n{σ:Ss}(M d:Nat)(w:World)(hS:SeM w M d σ)(hl:(q2j σ.wd σ.ps).length<=100000000):
  Calls prog 47 #[.pointer (some ⟨M,0,none⟩)] w fun e w'=>e=.returned (.string (wbS (brS (q2j σ.wd σ.ps))))/\Below w w w':=callsIn_wide.1 (j7l 5 Zl M d w hS hl)
end Go.Proofs.YtelcnplcpboonaaGreatDoor
