import Derived.Test.YthcpdohdppkmkaaGreatDoorPu30
import Derived.Deep.RegionLaw
open Go.Proofs.Tryz
namespace Go.Proofs.YthcpdohdppkmkaaGreatDoor
open Go Go.RowKit
set_option maxRecDepth 100000
theorem k0n{w:World}{ops:Array Oper}{o:Oper}{a:Act}{K:Act->World->Prop}{Q:Exit->Act->World->Prop}{E:Prop}(hgd:o.guard=none)(s x:Operand)(t:TypeId)
  (ho:o.op=.call {callee:=.builtin .append,args:=#[s,x],argTypes:=#[t,t]}) (v u v':Value) (w':World) (hs:a.eval s=v) (hx:a.eval x=u)
  (hrun:(Builtin.append_ #[t,t] o.type #[v,u]).run prog w=.ok v' w') (hK:K (a.put o.dst v') w'):if Region.wanted o (yielded ops a.tmps)=true then Oper.wp prog o a w K Q else E:=by
 have hw:Region.wanted o (yielded ops a.tmps)=true:=by simp[Region.wanted,hgd]
 rw[if_pos hw];unfold Oper.wp;simp[execOp,ho,resolve,invoke,builtin,hs,hx,hrun,Result.andThen];exact hK
theorem q1s{w:World}{ops:Array Oper}{o:Oper}{a:Act}{K:Act->World->Prop}{Q:Exit->Act->World->Prop}{E:Prop}(hgd:o.guard=none)(s x:Operand)
  (ho:o.op=.call {callee:=.builtin .append,args:=#[s,x],argTypes:=#[51,51]})
  (base:Nat) (v:Value) (xs:List Td) (hs:a.eval s=v) (hown:q1v base v xs w)
  (wa:Option Addr) (n:Nat) (ws:List Td) (hn:ws.length=n) (wc:Nat) (hx:a.eval x=.slice wa n wc) (hW:Tds w wa ws) (hnil:wa=none->n=0/\wc=0)
  (m:Nat) (hm:xs.length+n=m) (hb:m<=1000000) (hbase:base<=w.heap.size)
  (h:∀A c w',q1v base (.slice A m c) (xs++ws) w'->w.grownBy w' v.ownBlock->K (a.put o.dst (.slice A m c)) w'):if Region.wanted o (yielded ops a.tmps)=true then Oper.wp prog o a w K Q else E:=by
 subst hn hm;obtain⟨i0,hi,hz0,hz1,hz2⟩:=info_parts v2x
 have h':∀v' w',q1v base v' (xs++ws) w'->w.grownBy w' v.ownBlock->K (a.put o.dst v') w':=by
  intro v' w' h1 h2
  obtain⟨A,c,rfl⟩:∃A c,v'=.slice A (xs.length+ws.length) c:=by
   rcases h1.2 with⟨hv,h0⟩|⟨g,c,cur,hv,_⟩
   ·rw[List.length_append]at h0;exact⟨.none,0,by rw[hv,h0]⟩
   ·rw[List.length_append]at hv;exact⟨_,c,hv⟩
  exact h A c w' h1 h2
 cases wa with
 | none=>
  obtain⟨h0,rfl⟩:=hnil rfl;obtain rfl:ws=[]:=List.eq_nil_of_length_eq_zero h0;refine k0n hgd s x 51 ho v _ _ _ hs hx (run_append_owned_none (P:=prog) (w:=w) base 51 o.type 71 i0 3 Tryz.underlying51 hi v xs.length (q0v xs) hown) ?_;refine h' v w ?_ ⟨rfl,rfl,rfl,Nat.le_refl _,fun _ _ _=>rfl⟩;rw[List.append_nil];exact hown
 | some ad=>
  have hsp:ws=[]\/∃b o,ad=⟨b,o,Option.none⟩:=by
   rcases Nat.eq_zero_or_pos ws.length with h0|h0
   ·exact .inl (List.eq_nil_of_length_eq_zero h0)
   ·obtain⟨b,o,e,_⟩:=hW 0 h0;exact .inr ⟨b,o,by simpa using e⟩
  obtain⟨v',w',hrun,h1,h2,_⟩:=run_append_own (P:=prog) w base 51 o.type 71 i0 _ 3 32 Tryz.underlying51 hi hz0 hz1 hz2 rfl (by decide) v xs.length (q0v xs) hown ad ws.length wc (q0v ws) (q7d ws) (by
   rcases hsp with rfl|⟨b,o,rfl⟩
   ·intro j u hj;simp[q0v]at hj
   ·exact j1t hW) (z5w ws) (by unfold maxLen;omega) (by omega) hbase
  refine k0n hgd s x 51 ho v _ v' w' hs hx hrun (h' v' w' ?_ h2);rw[<-z5v]at h1;show w'.ownsRow _ _ _ _ _ _;rw[List.length_append];exact h1
theorem q7z{w:World}{ops:Array Oper}{o:Oper}{a:Act}{K:Act->World->Prop}{Q:Exit->Act->World->Prop}{E:Prop}(hgd:o.guard=none)(s x:Operand)
  (ho:o.op=.call {callee:=.builtin .append,args:=#[s,x],argTypes:=#[23,23]})
  (base:Nat) (v:Value) (ps:List (List Td)) (hs:a.eval s=v) (hown:z3b base v ps w)
  (b0 g n c:Nat) (t:List Td) (hn:t.length=n) (hx:a.eval x=.slice (some ⟨b0,0,none⟩) 1 1) (hc:w.cell? ⟨b0,0,none⟩=some (.slice (some ⟨g,0,none⟩) n c)) (hT:q1v base (.slice (some ⟨g,0,none⟩) n c) t w)
  (m:Nat) (hm:ps.length+1=m) (hb:m<=1000000) (hbase:base<=w.heap.size)
  (h:∀A c' w',z3b base (.slice A m c') (ps++[t]) w'->w.grownBy w' v.ownBlock->K (a.put o.dst (.slice A m c')) w'):if Region.wanted o (yielded ops a.tmps)=true then Oper.wp prog o a w K Q else E:=by
 subst hn hm;obtain⟨i0,hi,hz0,hz1,hz2⟩:=info_parts g3f;obtain⟨hvs,h1,h2⟩:=hown
 obtain⟨v',w',hrun,h3,h4,_⟩:=run_append_own (P:=prog) w base 23 o.type 51 i0 _ 1 24 Tryz.underlying23 hi hz0 hz1 hz2 rfl (by decide) v ps.length hvs h1 ⟨b0,0,none⟩ 1 1 [.slice (some ⟨g,0,none⟩) t.length c] rfl (by
  intro j u hj;cases j with
  | zero=>
   simp at hj;subst hj;rw[z8o];exact hc
  | succ j=>simp at hj) (by intro u hu;simp at hu;subst hu;rfl) (by unfold maxLen;omega) (by omega) hbase
 have hkeep:∀{g' n' c':Nat}{t':List Td},q1v base (.slice (some ⟨g',0,none⟩) n' c') t' w->q1v base (.slice (some ⟨g',0,none⟩) n' c') t' w':=by
  intro g' n' c' t' hT';obtain⟨_,_,cur,hg'⟩:=z8e hT';refine y0a hT' (h4.block g' (Array.getElem?_eq_some_iff.1 hg').1 fun e=>?_);obtain⟨cur2,hg2⟩:=v8u h1 e.symm;rw[hg']at hg2;simp at hg2
 obtain⟨A,c',rfl⟩:∃A c',v'=.slice A (ps.length+1) c':=by
  rcases h3.2 with⟨hv,h0⟩|⟨g',c',cur,hv,_⟩
  ·omega
  ·exact⟨_,c',hv⟩
 refine k0n hgd s x 23 ho v _ _ w' hs hx hrun (h A c' w' ⟨hvs++[.slice (some ⟨g,0,none⟩) t.length c],?_,fun i hi=>?_⟩ h4)
 ·rw[List.length_append];exact h3
 ·have hl:=h1.1;rw[Nat.mul_one]at hl;by_cases e:i<ps.length
  ·obtain⟨g',c'',e1,e2⟩:=h2 i e;rw[List.getElem_append_left e];refine⟨g',c'',?_,hkeep e2⟩;rw[List.getElem?_append_left (by omega)];exact e1
  ·have hie:i=ps.length:=by simp at hi;omega
   subst hie;rw[List.getElem_append_right Zl];refine⟨g,c,?_,?_⟩
   ·rw[List.getElem?_append_right (by omega),hl];simp
   ·simp only[Nat.sub_self,List.getElem_cons_zero];exact hkeep hT
end Go.Proofs.YthcpdohdppkmkaaGreatDoor
