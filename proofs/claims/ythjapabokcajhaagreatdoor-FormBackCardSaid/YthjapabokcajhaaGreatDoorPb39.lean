/- Texts as one: AppP, AppS. -/
import Derived.Test.YthjapabokcajhaaGreatDoorPb35
import Derived.Test.YthjapabokcajhaaGreatDoorPb08
import Derived.Test.YthjapabokcajhaaGreatDoorPb30
import Derived.Deep.RegionLaw
namespace Go.Proofs.YthjapabokcajhaaGreatDoor
open Go Go.RowKit
set_option maxRecDepth 100000
theorem y2a:(Tryz.prog.info? 22).map (fun i=>(i.zero,i.size,i.bytes))=some (some (.slice none 0 0),1,24):=by kernel_rfl
def z0x (B:Nat) (v:Value) (ps:List (List Td)) (w:World):Prop:=
 ∃ hs:List Value,w.ownsRow B 22 1 v ps.length hs∧∀ i (h:i<ps.length),∃ g c,hs[i]? = some (.slice (some ⟨g,0,none⟩) ps[i].length c)∧q1k B (.slice (some ⟨g,0,none⟩) ps[i].length c) ps[i] w
theorem z0x.nil (B:Nat) (w:World):z0x B (.slice Option.none 0 0) [] w:=⟨[],⟨rfl,.inl ⟨rfl,rfl⟩⟩,fun i h=>by simp at h⟩
theorem z5g {B:Nat} {w:World} {g n c:Nat} {xs:List Td} (h:q1k B (.slice (some ⟨g,0,none⟩) n c) xs w):B≤g∧n≤c∧∃ cur,w.heap[g]? = some (.cells cur 47 (0,0)):=by
 rcases h.2 with ⟨hv,_⟩ | ⟨g',c',cur,hv,hB,hg,hc,_⟩
 ·cases hv
 ·simp only [Value.slice.injEq,Option.some.injEq,Addr.mk.injEq,and_true] at hv
  obtain ⟨rfl,rfl,rfl⟩:=hv
  exact ⟨hB,hc,cur,hg⟩
theorem v0k {B:Nat} {w w':World} {g n c:Nat} {xs:List Td} (h:q1k B (.slice (some ⟨g,0,none⟩) n c) xs w) (hk:w'.heap[g]? = w.heap[g]?):q1k B (.slice (some ⟨g,0,none⟩) n c) xs w':=by
 refine ⟨h.1,?_⟩
 rcases h.2 with ⟨hv,_⟩ | ⟨g',c',cur,hv,hB,hg,rest⟩
 ·cases hv
 ·have e:=hv
  simp only [Value.slice.injEq,Option.some.injEq,Addr.mk.injEq,and_true] at e
  obtain ⟨rfl,_,_⟩:=e
  exact .inr ⟨g,c',cur,hv,hB,hk.trans hg,rest⟩
theorem z0x.kept {B:Nat} {v:Value} {ps:List (List Td)} {w w':World} (h:z0x B v ps w) (hk:∀ g,B≤g→g<w.heap.size→w'.heap[g]? = w.heap[g]?):z0x B v ps w':=by
 obtain ⟨hs,h1,h2⟩:=h
 refine ⟨hs,⟨h1.1,?_⟩,fun i hi=>?_⟩
 ·rcases h1.2 with h0 | ⟨g,c,cur,hv,hB,hg,rest⟩
  ·exact .inl h0
  ·exact .inr ⟨g,c,cur,hv,hB,(hk g hB (Array.getElem?_eq_some_iff.1 hg).1).trans hg,rest⟩
 ·obtain ⟨g,c,e1,e2⟩:=h2 i hi
  exact ⟨g,c,e1,e2.kept hk⟩
theorem z0x.but {B b:Nat} {v:Value} {ps:List (List Td)} {w w':World} (h:z0x B v ps w) (hb:But w.heap.size b w w') (hB:b<B):z0x B v ps w':=h.kept fun g h1 h2=>hb.block g h2 (by omega)
theorem z0x.cell {B:Nat} {A:Option Addr} {n c:Nat} {ps:List (List Td)} {w:World} (h:z0x B (.slice A n c) ps w):n=ps.length∧n≤c∧(A=none→n=0∧c=0)∧∀ i (h:i<ps.length),∃ go g c',A=some ⟨go,0,none⟩∧B≤go∧k0j w go c∧w.cell? ⟨go,i,none⟩=some (.slice (some ⟨g,0,none⟩) ps[i].length c')∧q1k B (.slice (some ⟨g,0,none⟩) ps[i].length c') ps[i] w:=by
 obtain ⟨hs,h1,h2⟩:=h
 rcases h1.2 with ⟨hv,h0⟩ | ⟨go,co,cur,hv,hB,hg,hnc,_,hsz,htake⟩
 ·simp only [Value.slice.injEq] at hv
  obtain ⟨rfl,rfl,rfl⟩:=hv
  exact ⟨h0.symm,Nat.le_refl _,fun _=>⟨rfl,rfl⟩,fun i hi=>by omega⟩
 ·simp only [Value.slice.injEq] at hv
  obtain ⟨rfl,rfl,rfl⟩:=hv
  refine ⟨rfl,hnc,(fun e=>by cases e),fun i hi=>?_⟩
  obtain ⟨g,c',e1,e2⟩:=h2 i hi
  refine ⟨go,g,c',rfl,hB,⟨cur,_,hg,by omega⟩,?_,e2⟩
  rw [←htake,List.getElem?_take_of_lt (by omega)] at e1
  simp only [World.cell?,hg]
  simpa using e1
theorem z0x.prg {B:Nat} {A:Option Addr} {n c:Nat} {ps:List (List Td)} {w:World} (h:z0x B (.slice A n c) ps w):Prg w A ps:=by
 intro i hi
 obtain ⟨go,g,c',e,_,hr,hc,hT⟩:=h.cell.2.2.2 i hi
 exact ⟨go,0,_,c',e,hr.lt,by rw [Nat.zero_add];exact hc,(z5g hT).2.1,hT.tds⟩
theorem j9j {B:Nat} {w:World} {v:Value} {n:Nat} {hs:List Value} (h:w.ownsRow B 22 1 v n hs) {k:Nat} (hk:v.ownBlock=some k):∃ cur,w.heap[k]? = some (.cells cur 22 (0,0)):=by
 rcases h.2 with ⟨rfl,_⟩ | ⟨g,c,cur,rfl,_,hg,_⟩
 ·cases hk
 ·have:g=k:=by simpa [Value.ownBlock] using hk
  subst this
  exact ⟨cur,hg⟩
theorem z0x.own_le {B:Nat} {v:Value} {ps:List (List Td)} {w:World} (h:z0x B v ps w) {k:Nat} (hk:v.ownBlock=some k):B≤k:=by
 obtain ⟨hs,h1,_⟩:=h
 rcases h1.2 with ⟨rfl,_⟩ | ⟨g,c,cur,rfl,hB,_⟩
 ·cases hk
 ·have:g=k:=by simpa [Value.ownBlock] using hk
  omega
theorem j3t {B:Nat} {v:Value} {ps:List (List Td)} {w:World} (h:z0x B v ps w) {g n c:Nat} {t:List Td} (hT:q1k B (.slice (some ⟨g,0,none⟩) n c) t w) :
  z0x B v ps (w.alloc (.cells #[.slice (some ⟨g,0,none⟩) n c] 22))∧q1k B (.slice (some ⟨g,0,none⟩) n c) t (w.alloc (.cells #[.slice (some ⟨g,0,none⟩) n c] 22))∧
  (w.alloc (.cells #[.slice (some ⟨g,0,none⟩) n c] 22)).cell? ⟨w.heap.size,0,none⟩=some (.slice (some ⟨g,0,none⟩) n c):=by
 have b1:Below w.heap.size w (w.alloc (.cells #[.slice (some ⟨g,0,none⟩) n c] 22)):=(Below.refl _ _).alloc (Nat.le_refl _) _
 exact ⟨h.kept fun g _ h2=>b1.block g h2,hT.kept fun g _ h2=>b1.block g h2,cell_one_new w (.slice (some ⟨g,0,none⟩) n c) 22 0 _ rfl⟩
theorem k0e {B:Nat} {w:World} {A:Option Addr} {n c:Nat} {x:Td} {xs:List Td} (h:q1k B (.slice A n c) (x::xs) w):∃ g,A=some ⟨g,0,none⟩:=by
 rcases h.2 with ⟨_,h0⟩ | ⟨g,c',cur,hv,_⟩
 ·simp at h0
 ·simp only [Value.slice.injEq] at hv
  exact ⟨g,hv.1⟩
end Go.Proofs.YthjapabokcajhaaGreatDoor
namespace Go.Proofs.YthjapabokcajhaaGreatDoor
open Go Go.RowKit
set_option maxRecDepth 100000
theorem z7h {w:World} {ops:Array Oper} {o:Oper} {a:Act} {K:Act→World→Prop} {Q:Exit→Act→World→Prop} {E:Prop} (hgd:o.guard=none) (s x:Operand) (t:TypeId)
  (ho:o.op = .call { callee:=.builtin .append,args:=#[s,x],argTypes:=#[t,t] }) (v u v':Value) (w':World) (hs:a.eval s=v) (hx:a.eval x=u)
  (hrun:(Builtin.append_ #[t,t] o.type #[v,u]).run Tryz.prog w = .ok v' w') (hK:K (a.put o.dst v') w'):if Region.wanted o (yielded ops a.tmps)=true then Oper.wp Tryz.prog o a w K Q else E:=by
 have hw:Region.wanted o (yielded ops a.tmps)=true:=by simp [Region.wanted,hgd]
 rw [if_pos hw]
 unfold Oper.wp
 simp [execOp,ho,resolve,invoke,builtin,hs,hx,hrun,Result.andThen]
 exact hK
theorem q1p {w:World} {ops:Array Oper} {o:Oper} {a:Act} {K:Act→World→Prop} {Q:Exit→Act→World→Prop} {E:Prop} (hgd:o.guard=none) (s x:Operand)
  (ho:o.op = .call { callee:=.builtin .append,args:=#[s,x],argTypes:=#[22,22] })
  (base:Nat) (v:Value) (xs:List Td) (hs:a.eval s=v) (hown:q1k base v xs w)
  (wa:Option Addr) (n:Nat) (ws:List Td) (hn:ws.length=n) (wc:Nat) (hx:a.eval x = .slice wa n wc) (hW:Tds w wa ws) (hnil:wa=none→n=0∧wc=0)
  (m:Nat) (hm:xs.length+n=m) (hb:m≤1000000) (hbase:base≤w.heap.size)
  (h:∀ A c w',q1k base (.slice A m c) (xs++ws) w'→w.grownBy w' v.ownBlock→K (a.put o.dst (.slice A m c)) w'):if Region.wanted o (yielded ops a.tmps)=true then Oper.wp Tryz.prog o a w K Q else E:=by
 subst hn hm
 obtain ⟨i0,hi,hz0,hz1,hz2⟩:=info_parts j4m
 have h':∀ v' w',q1k base v' (xs++ws) w'→w.grownBy w' v.ownBlock→K (a.put o.dst v') w':=by
  intro v' w' h1 h2
  obtain ⟨A,c,rfl⟩:∃ A c,v' = .slice A (xs.length+ws.length) c:=by
   rcases h1.2 with ⟨hv,h0⟩ | ⟨g,c,cur,hv,_⟩
   ·rw [List.length_append] at h0;exact ⟨.none,0,by rw [hv,h0]⟩
   ·rw [List.length_append] at hv;exact ⟨_,c,hv⟩
  exact h A c w' h1 h2
 cases wa with
 | none=>
  obtain ⟨h0,rfl⟩:=hnil rfl
  obtain rfl:ws=[]:=List.eq_nil_of_length_eq_zero h0
  refine z7h hgd s x 22 ho v _ _ _ hs hx (run_append_owned_none (P:=Tryz.prog) (w:=w) base 22 o.type 47 i0 3 Tryz.underlying22 hi v xs.length (q0v xs) hown) ?_
  refine h' v w ?_ ⟨rfl,rfl,rfl,Nat.le_refl _,fun _ _ _=>rfl⟩
  rw [List.append_nil]
  exact hown
 | some ad=>
  have hsp:ws=[]∨∃ b o,ad=⟨b,o,Option.none⟩:=by
   rcases Nat.eq_zero_or_pos ws.length with h0 | h0
   ·exact .inl (List.eq_nil_of_length_eq_zero h0)
   ·obtain ⟨b,o,e,_⟩:=hW 0 h0
    exact .inr ⟨b,o,by simpa using e⟩
  obtain ⟨v',w',hrun,h1,h2,_⟩:=run_append_own (P:=Tryz.prog) w base 22 o.type 47 i0 _ 3 32 Tryz.underlying22 hi hz0 hz1 hz2 rfl (by decide) v xs.length (q0v xs) hown ad ws.length wc (q0v ws) (q6a ws) (by
   rcases hsp with rfl | ⟨b,o,rfl⟩
   ·intro j u hj;simp [q0v] at hj
   ·exact k4s hW) (z3i ws) (by unfold maxLen;omega) (by omega) hbase
  refine z7h hgd s x 22 ho v _ v' w' hs hx hrun (h' v' w' ?_ h2)
  rw [←z3h] at h1
  show w'.ownsRow _ _ _ _ _ _
  rw [List.length_append]
  exact h1
theorem q6x {w:World} {ops:Array Oper} {o:Oper} {a:Act} {K:Act→World→Prop} {Q:Exit→Act→World→Prop} {E:Prop} (hgd:o.guard=none) (s x:Operand)
  (ho:o.op = .call { callee:=.builtin .append,args:=#[s,x],argTypes:=#[33,33] })
  (base:Nat) (v:Value) (ps:List (List Td)) (hs:a.eval s=v) (hown:z0x base v ps w)
  (b0 g n c:Nat) (t:List Td) (hn:t.length=n) (hx:a.eval x = .slice (some ⟨b0,0,none⟩) 1 1) (hc:w.cell? ⟨b0,0,none⟩=some (.slice (some ⟨g,0,none⟩) n c)) (hT:q1k base (.slice (some ⟨g,0,none⟩) n c) t w)
  (m:Nat) (hm:ps.length+1=m) (hb:m≤1000000) (hbase:base≤w.heap.size)
  (h:∀ A c' w',z0x base (.slice A m c') (ps++[t]) w'→w.grownBy w' v.ownBlock→K (a.put o.dst (.slice A m c')) w'):if Region.wanted o (yielded ops a.tmps)=true then Oper.wp Tryz.prog o a w K Q else E:=by
 subst hn hm
 obtain ⟨i0,hi,hz0,hz1,hz2⟩:=info_parts y2a
 obtain ⟨hvs,h1,h2⟩:=hown
 obtain ⟨v',w',hrun,h3,h4,_⟩:=run_append_own (P:=Tryz.prog) w base 33 o.type 22 i0 _ 1 24 Tryz.underlying33 hi hz0 hz1 hz2 rfl (by decide) v ps.length hvs h1 ⟨b0,0,none⟩ 1 1 [.slice (some ⟨g,0,none⟩) t.length c] rfl (by
  intro j u hj
  cases j with
  | zero=>
   simp at hj
   subst hj
   rw [z5s];exact hc
  | succ j=>simp at hj) (by intro u hu;simp at hu;subst hu;rfl) (by unfold maxLen;omega) (by omega) hbase
 have hkeep:∀ {g' n' c':Nat} {t':List Td},q1k base (.slice (some ⟨g',0,none⟩) n' c') t' w→q1k base (.slice (some ⟨g',0,none⟩) n' c') t' w':=by
  intro g' n' c' t' hT'
  obtain ⟨_,_,cur,hg'⟩:=z5g hT'
  refine v0k hT' (h4.block g' (Array.getElem?_eq_some_iff.1 hg').1 fun e=>?_)
  obtain ⟨cur2,hg2⟩:=j9j h1 e.symm
  rw [hg'] at hg2
  simp at hg2
 obtain ⟨A,c',rfl⟩:∃ A c',v' = .slice A (ps.length+1) c':=by
  rcases h3.2 with ⟨hv,h0⟩ | ⟨g',c',cur,hv,_⟩
  ·omega
  ·exact ⟨_,c',hv⟩
 refine z7h hgd s x 33 ho v _ _ w' hs hx hrun (h A c' w' ⟨hvs++[.slice (some ⟨g,0,none⟩) t.length c],?_,fun i hi=>?_⟩ h4)
 ·rw [List.length_append];exact h3
 ·have hl:=h1.1
  rw [Nat.mul_one] at hl
  by_cases e:i<ps.length
  ·obtain ⟨g',c'',e1,e2⟩:=h2 i e
   rw [List.getElem_append_left e]
   refine ⟨g',c'',?_,hkeep e2⟩
   rw [List.getElem?_append_left (by omega)]
   exact e1
  ·have hie:i=ps.length:=by simp at hi;omega
   subst hie
   rw [List.getElem_append_right (Nat.le_refl _)]
   refine ⟨g,c,?_,?_⟩
   ·rw [List.getElem?_append_right (by omega),hl]
    simp
   ·simp only [Nat.sub_self,List.getElem_cons_zero]
    exact hkeep hT
end Go.Proofs.YthjapabokcajhaaGreatDoor
