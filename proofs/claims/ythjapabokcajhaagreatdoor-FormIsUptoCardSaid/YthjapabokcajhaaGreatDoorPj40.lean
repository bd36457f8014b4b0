/- Texts as one: AppP, RdP. -/
import Derived.Test.YthjapabokcajhaaGreatDoorPj39
open Go.Proofs.Tryz
namespace Go.Proofs.YthjapabokcajhaaGreatDoor
open Go Go.RowKit
set_option maxRecDepth 100000
theorem v8c:(prog.info? 22).map (fun i=>(i.zero,i.size,i.bytes))=some (some (.slice none 0 0),1,24):=by kernel_rfl
def q3o(B:Nat)(v:Value)(ps:List (List Td))(w:World):Prop:=
 ∃hs:List Value,w.ownsRow B 22 1 v ps.length hs/\∀i(h:i<ps.length),∃g c,hs[i]?=some (.slice (some ⟨g,0,none⟩) ps[i].length c)/\q0x B (.slice (some ⟨g,0,none⟩) ps[i].length c) ps[i] w
theorem q3o.nil(B:Nat)(w:World):q3o B (.slice Option.none 0 0) [] w:=⟨[],⟨rfl,.inl ⟨rfl,rfl⟩⟩,fun i h=>by simp at h⟩
theorem q8u{B:Nat}{w:World}{g n c:Nat}{xs:List Td}(h:q0x B (.slice g n c) xs w):B<=g/\n<=c/\∃cur,w.heap[g]?=some (.cells cur 47 (0,0)):=by
 rcases h.2 with⟨hv,_⟩|⟨g',c',cur,hv,hB,hg,hc,_⟩
 ·cases hv
 ·simp only[Value.slice.injEq,Option.some.injEq,Addr.mk.injEq,and_true]at hv;obtain⟨rfl,rfl,rfl⟩:=hv;exact⟨hB,hc,cur,hg⟩
theorem z9o{B:Nat}{w w':World}{g n c:Nat}{xs:List Td}(h:q0x B (.slice g n c) xs w)(hk:w'.heap[g]?=w.heap[g]?):q0x B (.slice g n c) xs w':=by
 refine⟨h.1,?_⟩;rcases h.2 with⟨hv,_⟩|⟨g',c',cur,hv,hB,hg,rest⟩
 ·cases hv
 ·have e:=hv;simp only[Value.slice.injEq,Option.some.injEq,Addr.mk.injEq,and_true]at e;obtain⟨rfl,_,_⟩:=e;exact .inr ⟨g,c',cur,hv,hB,hk.trans hg,rest⟩
theorem q3o.kept{B:Nat}{v:Value}{ps:List (List Td)}{w w':World}(h:q3o B v ps w)(hk:∀g,B<=g->g<w.heap.size->w'.heap[g]?=w.heap[g]?):q3o B v ps w':=by
 obtain⟨hs,h1,h2⟩:=h;refine⟨hs,⟨h1.1,?_⟩,fun i hi=>?_⟩
 ·rcases h1.2 with h0|⟨g,c,cur,hv,hB,hg,rest⟩
  ·exact .inl h0
  ·exact .inr ⟨g,c,cur,hv,hB,(hk g hB (Array.getElem?_eq_some_iff.1 hg).1).trans hg,rest⟩
 ·obtain⟨g,c,e1,e2⟩:=h2 i hi;exact⟨g,c,e1,e2.kept hk⟩
theorem q3o.but{B b:Nat}{v:Value}{ps:List (List Td)}{w w':World}(h:q3o B v ps w)(hb:But w b w w')(hB:b<B):q3o B v ps w':=h.kept fun g h1 h2=>hb.block g h2 (by omega)
theorem q3o.cell{B:Nat}{A:Option Addr}{n c:Nat}{ps:List (List Td)}{w:World}(h:q3o B (.slice A n c) ps w):n=ps.length/\n<=c/\(A=none->n=0/\c=0)/\∀i(h:i<ps.length),∃go g c',A=some ⟨go,0,none⟩/\B<=go/\z9t w go c/\w.cell? ⟨go,i,none⟩=some (.slice (some ⟨g,0,none⟩) ps[i].length c')/\q0x B (.slice (some ⟨g,0,none⟩) ps[i].length c') ps[i] w:=by
 obtain⟨hs,h1,h2⟩:=h;rcases h1.2 with⟨hv,h0⟩|⟨go,co,cur,hv,hB,hg,hnc,_,hsz,htake⟩
 ·simp only[Value.slice.injEq]at hv;obtain⟨rfl,rfl,rfl⟩:=hv;exact⟨h0.symm,Nat.le_refl _,fun _=>⟨rfl,rfl⟩,fun i hi=>by omega⟩
 ·simp only[Value.slice.injEq]at hv;obtain⟨rfl,rfl,rfl⟩:=hv;refine⟨rfl,hnc,(fun e=>by cases e),fun i hi=>?_⟩;obtain⟨g,c',e1,e2⟩:=h2 i hi;refine⟨go,g,c',rfl,hB,⟨cur,_,hg,by omega⟩,?_,e2⟩;rw[<-htake,List.getElem?_take_of_lt (by omega)]at e1;simp only[World.cell?,hg];simpa using e1
theorem q3o.prg{B:Nat}{A:Option Addr}{n c:Nat}{ps:List (List Td)}{w:World}(h:q3o B (.slice A n c) ps w):Prg w A ps:=by
 intro i hi;obtain⟨go,g,c',e,_,hr,hc,hT⟩:=h.cell.2.2.2 i hi;exact⟨go,0,_,c',e,hr.lt,by rw[Nat.zero_add];exact hc,(q8u hT).2.1,hT.tds⟩
theorem z9d{B:Nat}{w:World}{v:Value}{n:Nat}{hs:List Value}(h:w.ownsRow B 22 1 v n hs){k:Nat}(hk:v.ownBlock=some k):∃cur,w.heap[k]?=some (.cells cur 22 (0,0)):=by
 rcases h.2 with⟨rfl,_⟩|⟨g,c,cur,rfl,_,hg,_⟩
 ·cases hk
 ·have:g=k:=by simpa[Value.ownBlock]using hk
  subst this;exact⟨cur,hg⟩
theorem z3l{w:World}{ops:Array Oper}{rest:List Oper}{o:Oper}{a:Act}{Q:Exit->Act->World->Prop}(hgd:o.guard=none)(s x:Operand)
  (ho:o.op=.call {callee:=.builtin .append,args:=#[s,x],argTypes:=#[33,33]})
  (base:Nat) (v:Value) (ps:List (List Td)) (hs:a.eval s=v) (hown:q3o base v ps w)
  (b0 g n c:Nat) (t:List Td) (hn:t.length=n) (hx:a.eval x=.slice b0 1 1) (hc:w.cell? b0=some (.slice g n c)) (hT:q0x base (.slice g n c) t w)
  (m:Nat) (hm:ps.length+1=m) (hb:m<=1000000) (hbase:base<=w.heap.size)
  (h:∀A c' w',q3o base (.slice A m c') (ps++[t]) w'->w.grownBy w' v.ownBlock->wpList prog ops Q rest (a.put o.dst (.slice A m c')) w'):wpList prog ops Q (o::rest) a w:=by
 subst hn hm;obtain⟨i0,hi,hz0,hz1,hz2⟩:=info_parts v8c;obtain⟨hvs,h1,h2⟩:=hown;refine wpList_append_own w hgd s x 33 ho base 22 i0 _ 1 24 Tryz.underlying33 hi hz0 hz1 hz2 rfl (by decide) v ps.length hvs hs h1 b0 1 1 [.slice g t.length c] hx rfl ?_ (by intro u hu;simp at hu;subst hu;rfl) (by unfold maxLen;omega) (by omega) hbase ?_
 ·intro j u hj;cases j with
  | zero=>
   simp at hj;subst hj;rw[z2v];exact hc
  | succ j=>simp at hj
 ·intro v' w' h3 h4 _
  have hkeep:∀{g' n' c':Nat}{t':List Td},q0x base (.slice g' n' c') t' w->q0x base (.slice g' n' c') t' w':=by
   intro g' n' c' t' hT';obtain⟨_,_,cur,hg'⟩:=q8u hT';refine z9o hT' (h4.block g' (Array.getElem?_eq_some_iff.1 hg').1 fun e=>?_);obtain⟨cur2,hg2⟩:=z9d h1 e.symm;rw[hg']at hg2;simp at hg2
  obtain⟨A,c',rfl⟩:∃A c',v'=.slice A (ps.length+1) c':=by
   rcases h3.2 with⟨hv,h0⟩|⟨g',c',cur,hv,_⟩
   ·omega
   ·exact⟨_,c',hv⟩
  refine h A c' w' ⟨hvs++[.slice g t.length c],?_,fun i hi=>?_⟩ h4
  ·rw[List.length_append];exact h3
  ·have hl:=h1.1;rw[Nat.mul_one]at hl;by_cases e:i<ps.length
   ·obtain⟨g',c'',e1,e2⟩:=h2 i e;rw[List.getElem_append_left e];refine⟨g',c'',?_,hkeep e2⟩;rw[List.getElem?_append_left (by omega)];exact e1
   ·have hie:i=ps.length:=by simp at hi;omega
    subst hie;rw[List.getElem_append_right Zl];refine⟨g,c,?_,?_⟩
    ·rw[List.getElem?_append_right (by omega),hl];simp
    ·simp only[Nat.sub_self,List.getElem_cons_zero];exact hkeep hT
theorem q3o.last{B:Nat}{go n c:Nat}{ps:List (List Td)}{l t:List Td}{w:World}(h:q3o B (.slice go n c) (ps++[l]) w){g c':Nat}(hT:q0x B (.slice g t.length c') t w):q3o B (.slice go n c) (ps++[t]) (w.setCell (go,ps.length) (.slice g t.length c')):=by
 obtain⟨hs,h1,h2⟩:=h;have hl:=h1.1;rw[Nat.mul_one,List.length_append,List.length_singleton]at hl
 have hne:∀{g' n' c':Nat}{t':List Td},q0x B (.slice g' n' c') t' w->g'≠go:=by
  intro g' n' c' t' hT' e;obtain⟨_,_,cur,hg'⟩:=q8u hT';obtain⟨cur2,hg2⟩:=z9d h1 (k:=go) rfl;rw[e,hg2]at hg';simp at hg'
 have hkeep:∀{g' n' c':Nat}{t':List Td}(u:Value)(j:Nat),q0x B (.slice g' n' c') t' w->q0x B (.slice g' n' c') t' (w.setCell (go,j) u):=by
  intro g' n' c' t' u j hT';exact z9o hT' (Below.heap_setCell _ _ _ _ (hne hT'))
 refine⟨hs.set ps.length (.slice g t.length c'),⟨by simp[hl],?_⟩,fun i hi=>?_⟩
 ·rcases h1.2 with⟨hv,_⟩|⟨g',c2,cur,hv,hB,hg,hnc,hmx,hsz,htake⟩
  ·cases hv
  ·have e:=hv;simp only[Value.slice.injEq,Option.some.injEq,Addr.mk.injEq,and_true]at e;obtain⟨rfl,e2,rfl⟩:=e;rw[List.length_append,List.length_singleton]at e2 hnc htake;refine .inr ⟨go,c,cur.setIfInBounds ps.length (.slice g t.length c'),?_,hB,?_,?_,hmx,by simpa using hsz,?_⟩
   ·rw[List.length_append,List.length_singleton,e2]
   ·simp[World.setCell,Array.getElem?_modify,hg]
   ·rw[List.length_append,List.length_singleton];exact hnc
   ·rw[List.length_append,List.length_singleton,Array.toList_setIfInBounds,List.take_set,htake]
 ·rw[List.length_append,List.length_singleton]at hi;by_cases e:i<ps.length
  ·obtain⟨g',c'',e1,e2⟩:=h2 i (by simp;omega);rw[List.getElem_append_left e]at e1 e2⊢;refine⟨g',c'',?_,hkeep _ _ e2⟩;rw[List.getElem?_set_ne (by omega)];exact e1
  ·have hie:i=ps.length:=by omega
   subst hie;rw[List.getElem_append_right Zl];simp only[Nat.sub_self,List.getElem_cons_zero];exact⟨g,c',by rw[List.getElem?_set_self (by omega)],hkeep _ _ hT⟩
theorem q3o.own_le{B:Nat}{v:Value}{ps:List (List Td)}{w:World}(h:q3o B v ps w){k:Nat}(hk:v.ownBlock=some k):B<=k:=by
 obtain⟨hs,h1,_⟩:=h;rcases h1.2 with⟨rfl,_⟩|⟨g,c,cur,rfl,hB,_⟩
 ·cases hk
 ·have:g=k:=by simpa[Value.ownBlock]using hk
  omega
theorem v3n{B:Nat}{v:Value}{ps:List (List Td)}{w:World}(h:q3o B v ps w)(hB:B<=w.heap.size)(x:Td):
  q3o B v ps ((w.alloc (.cells #[x.op,.string x.tx,x.n] 47)).alloc (.cells #[.slice w.heap.size 1 1] 22))/\
  q0x B (.slice w.heap.size 1 1) [x] ((w.alloc (.cells #[x.op,.string x.tx,x.n] 47)).alloc (.cells #[.slice w.heap.size 1 1] 22))/\
  ((w.alloc (.cells #[↑x.op,.string x.tx,↑x.n] 47)).alloc (.cells #[.slice ↑w.heap.size 1 1] 22)).cell? ↑(w.heap.size+1)=some (.slice ↑w.heap.size 1 1):=by
 have b1:Below w w (w.alloc (.cells #[↑x.op,.string x.tx,↑x.n] 47)):= Zb.alloc Zl _;have b2:∀w0:World,∀o:Obj,Below w0 w0 (w0.alloc o):=fun w0 o=> Zb.alloc Zl _
 refine⟨(h.kept fun g _ h2=>b1.block g h2).kept fun g _ h2=>(b2 _ _).block g h2,((q0x.one w x).down hB).kept fun g _ h2=>(b2 _ _).block g h2,?_⟩;have h1:=cell_one_new (w.alloc (.cells #[↑x.op,.string x.tx,↑x.n] 47)) (.slice ↑w.heap.size 1 1) 22;rw[World.size_alloc]at h1;exact h1 0 _ rfl
theorem z4v{B:Nat}{v:Value}{ps:List (List Td)}{w:World}(h:q3o B v ps w){g n c:Nat}{t:List Td}(hT:q0x B (.slice g n c) t w):
  q3o B v ps (w.alloc (.cells #[.slice g n c] 22))/\q0x B (.slice g n c) t (w.alloc (.cells #[.slice g n c] 22))/\
  (w.alloc (.cells #[.slice g n c] 22)).cell? w.heap.size=some (.slice g n c):=by
 have b1:Below w w (w.alloc (.cells #[.slice g n c] 22)):= Zb.alloc Zl _;exact⟨h.kept fun g _ h2=>b1.block g h2,hT.kept fun g _ h2=>b1.block g h2,cell_one_new w (.slice g n c) 22 0 _ rfl⟩
theorem q8e{B:Nat}{w:World}{A:Option Addr}{n c:Nat}{x:Td}{xs:List Td}(h:q0x B (.slice A n c) (x::xs) w):∃g,A=some ⟨g,0,none⟩:=by
 rcases h.2 with⟨_,h0⟩|⟨g,c',cur,hv,_⟩
 ·simp at h0
 ·simp only[Value.slice.injEq]at hv;exact⟨g,hv.1⟩
def q6c(ws:List Wd):Nat->Bool
 | 0=>false
 | k+1=>(ws.getD k []).headD 0==35
theorem z7v(t l:Wd):(q6l t l).length<=t.length+1+l.length:=by
 unfold q6l
 split<;>simp only[List.length_append,List.length_cons,List.length_nil]<;>omega
def k2j(ws:List Wd):Nat:=(ws.map fun l=>l.length+1).sum
theorem k6h:∀(ws:List Wd)(t:Wd),(ws.foldl q6l t).length<=t.length+k2j ws
 | [],t=>by simp[k2j]
 | w::r,t=>by
  have h1:=k6h r (q6l t w);have h2:=z7v t w;rw[List.foldl_cons];unfold k2j at h1⊢;rw[List.map_cons,List.sum_cons];omega
theorem z9l:∀s:List UInt8,k2j (q5j s)=s.length+1
 | []=>rfl
 | c::r=>by
  have ih:=z9l r;by_cases hc:c=32
  ·subst hc;rw[q6h];unfold k2j at ih⊢;rw[List.map_cons,List.sum_cons,ih];simp;omega
  ·cases hs:q5j r with
   | nil=>exact absurd hs (q9q r)
   | cons w ws=>
    rw[q4u hc hs];rw[hs]at ih;unfold k2j at ih⊢;rw[List.map_cons,List.sum_cons]at ih⊢;simp only[List.length_cons]at ih⊢;omega
theorem v4y(ws:List Wd)(k:Nat):k2j (ws.take k)<=k2j ws:=by
 have h:=congrArg k2j (List.take_append_drop k ws);unfold k2j at h⊢;rw[List.map_append,List.sum_append]at h;omega
theorem j7h(s:List UInt8)(k:Nat):(ntx ((q0e s).take k)).length<=s.length+1:=by
 have h1:=k6h ((q0e s).take k) [];have h2:=v4y (q0e s) k
 have h3:k2j (q0e s)<=s.length+1:=by
  unfold q0e
  split
  ·simp[k2j]
  ·rw[z9l];omega
 unfold ntx;simp only[List.length_nil]at h1;omega
theorem k9m{w:Wd}(h:w.length<=60000):(q0z w).length<=60001:=by
 have h1:=j7h (w.drop 1) (q0e (w.drop 1)).length;rw[List.take_length]at h1;have h2:(w.drop 1).length<=w.length:=by simp
 unfold q0z;omega
def y7i:Job->List Td
 | .loop _ acc=>acc
 | .args _ _ acc=>acc
 | _=>[]
theorem j6b{w:Wd}(h:nmW w=true):(wbS w).size<=8:=by
 rw[<-q0c];exact q3l h
theorem y1n{j:Job}{ts:List Wd}{r:Rs}(h:PR j ts r):(∀x∈y7i j,x.tx.size<=8)->∀m ns u,r=.ok m ns u->∀x∈ns,x.tx.size<=8:=by
 have app:∀{a b:List Td},(∀x∈a,x.tx.size<=8)->(∀x∈b,x.tx.size<=8)->∀x∈a++b,x.tx.size<=8:=fun ha hb x hx=>by
  rcases List.mem_append.1 hx with hx|hx
  ·exact ha x hx
  ·exact hb x hx
 have con:∀{y:Td}{b:List Td},y.tx.size<=8->(∀x∈b,x.tx.size<=8)->∀x∈y::b,x.tx.size<=8:=fun hy hb x hx=>by
  rcases List.mem_cons.1 hx with rfl|hx
  ·exact hy
  ·exact hb x hx
 have non:∀x∈([]:List Td),x.tx.size<=8:=fun x hx=>by cases hx
 have e0:(⟨#[]⟩:ByteArray).size<=8:=by decide
 induction h with
 | lev2 _ ih=>intro _ m ns u e;exact ih non m ns u e
 | levB=>intro _ m ns u e;cases e
 | levO _ _ _ ih1 ih2=>intro _ m ns u e;exact ih2 (ih1 non _ _ _ rfl) m ns u e
 | lopE=>intro ha m ns u e;cases e;exact ha
 | lopB=>intro _ m ns u e;cases e
 | lopO _ _ ih1 ih2=>intro ha m ns u e;exact ih2 (con e0 (app ha (ih1 non _ _ _ rfl))) m ns u e
 | sinN=>intro _ m ns u e;cases e
 | sPB=>intro _ m ns u e;cases e
 | sPC _ ih=>intro _ m ns u e;cases e;exact ih non _ _ _ rfl
 | sPX=>intro _ m ns u e;cases e
 | sLB=>intro _ m ns u e;cases e
 | sLO _ ih=>intro _ m ns u e;cases e;exact con e0 (ih non _ _ _ rfl)
 | sNum=>intro _ m ns u e;cases e;exact con e0 non
 | sName h=>intro _ m ns u e;cases e;exact con (j6b h) non
 | sCB=>intro _ m ns u e;cases e
 | sCO h _ ih=>intro _ m ns u e;cases e;exact con (j6b h) (ih non _ _ _ rfl)
 | sBad=>intro _ m ns u e;cases e
 | aEnd=>intro ha m ns u e;cases e;exact ha
 | aSep=>intro _ m ns u e;cases e
 | aB0=>intro _ m ns u e;cases e
 | aO0 _ _ _ ih1 ih2=>intro ha m ns u e;exact ih2 (app ha (ih1 non _ _ _ rfl)) m ns u e
 | aB=>intro _ m ns u e;cases e
 | aO _ _ _ ih1 ih2=>intro ha m ns u e;exact ih2 (app ha (ih1 non _ _ _ rfl)) m ns u e
structure PAt(b:Nat)(A:Option Addr)(c:Nat)(ws:List Wd)(w:World)(q:Nat)(bad:Bool)(acc:List (List Td))(v:Value)(wr:World):Prop where
 le:q<=ws.length
 len:acc.length<=q+1
 ln0:bad=false->acc.length<=q
 last:bad=false->q6c ws q=true->∃init x,acc=init++[[x]]/\x.tx.size<=60002*q
 o:q3o (b+1) v acc wr
 rd:Rd wr b A c ws q bad
 bt:But w b w wr
 ok:bad=false->∀r,PG (q6c ws q) acc (ws.drop q) r->PG false [] ws r
 bd:bad=true->PG false [] ws (.bad (ws.drop q))
 tx:bad=false->∀t∈acc,∀x∈t,x.tx.size<=60002*(q+1)
theorem y1k{b:Nat}{A:Option Addr}{c:Nat}{ws:List Wd}{w:World}(h:Rd w b A c ws 0 false):PAt b A c ws w 0 false [] (.slice none 0 0) w:=
 ⟨Nat.zero_le _,by simp,fun _=>by simp,(fun _ h=>by cases h),q3o.nil _ _,h,But.refl _ _ _,fun _ r hr=>hr,(fun h=>by cases h),fun _ t ht=>by cases ht⟩
theorem z0p{ws:List Wd}{q:Nat}(hq:q<ws.length):q6c ws (q+1)=(ws[q].headD 0==35):=by
 show((ws.getD q []).headD 0==35)=_
 rw[List.getD_eq_getElem?_getD,List.getElem?_eq_getElem hq];rfl
theorem y4y{b:Nat}{A:Option Addr}{c:Nat}{ws:List Wd}{w:World}{q:Nat}{acc:List (List Td)}{v v':Value}{wr w':World}(hV:PAt b A c ws w q false acc v wr)(hq:q<ws.length)(h35:ws[q].headD 0=35)(hwl:ws[q].length<=60000)
  (hO:q3o (b+1) v' (k0c (q6c ws q) acc (q0z ws[q])) w') (hR:Rd w' b A c ws (q+1) false) (hB:But w b w w'):PAt b A c ws w (q+1) false (k0c (q6c ws q) acc (q0z ws[q])) v' w':=by
 have hpn:q6c ws (q+1)=true:=by rw[z0p hq,h35];rfl
 have hl:=hV.ln0 rfl;have ht:=k9m hwl
 have hlen:(k0c (q6c ws q) acc (q0z ws[q])).length<=q+1:=by
  unfold k0c
  split
  ·rename_i hp;obtain⟨init,x,rfl,_⟩:=hV.last rfl hp;simp at hl⊢;omega
  ·simp;omega
 refine⟨by omega,by omega,fun _=>hlen,fun _ _=>?_,hO,hR,hB,fun _ r hr=>?_,(fun h=>by cases h),fun _=>?_⟩
 ·unfold k0c;cases hp:q6c ws q with
  | true=>
   obtain⟨init,x,rfl,hx⟩:=hV.last rfl hp;refine⟨init,ntT (q6l (q5k (init++[[x]])) (q0z ws[q])),by simp,?_⟩;have e:q5k (init++[[x]])=btL x.tx:=by simp[q5k]
   rw[e];have h1:=z7v (btL x.tx) (q0z ws[q]);rw[q0c]at h1
   show(wbS _).size<=_
   rw[q2o];omega
  | false=>
   refine⟨acc,ntT (q0z ws[q]),by simp,?_⟩
   show(wbS _).size<=_
   rw[q2o];omega
 ·refine hV.ok rfl r ?_;rw[List.drop_eq_getElem_cons hq];rw[hpn]at hr;exact .note h35 hr
 ·have hold:∀t∈acc,∀x∈t,x.tx.size<=60002*(q+1+1):=fun t ht x hx=>by
   have:=hV.tx rfl t ht x hx
   omega
  have hnew:∀y:Wd,y.length<=60002*(q+1+1)->∀t∈[[ntT y]],∀x∈t,x.tx.size<=60002*(q+1+1):=fun y hy t ht x hx=>by
   rw[List.mem_singleton]at ht;subst ht;rw[List.mem_singleton]at hx;subst hx
   show(wbS y).size<=_
   rw[q2o];exact hy
  intro t h1;unfold k0c at h1;cases hp:q6c ws q with
  | true=>
   rw[hp,if_pos rfl]at h1;rcases List.mem_append.1 h1 with h1|h1
   ·exact hold t (List.dropLast_subset _ h1)
   ·refine hnew _ ?_ t h1;obtain⟨init,x,rfl,hx⟩:=hV.last rfl hp;have e:q5k (init++[[x]])=btL x.tx:=by simp[q5k]
    rw[e];have h1:=z7v (btL x.tx) (q0z ws[q]);rw[q0c]at h1;omega
  | false=>
   rw[hp]at h1;rcases List.mem_append.1 (show t∈acc++[[ntT (q0z ws[q])]]from h1)with h1|h1
   ·exact hold t h1
   ·exact hnew _ (by omega) t h1
theorem y1j{b:Nat}{A:Option Addr}{c:Nat}{ws:List Wd}{w:World}{q q2:Nat}{acc acc':List (List Td)}{v v':Value}{wr w':World}(hV:PAt b A c ws w q false acc v wr)(h1:q<=q2)(h2:q2<=ws.length)(hl:acc'.length<=acc.length+1)
  (hG:PG (q6c ws q) acc (ws.drop q) (.bad (ws.drop q2))) (hO:q3o (b+1) v' acc' w') (hR:Rd w' b A c ws q2 true) (hB:But w b w w'):PAt b A c ws w q2 true acc' v' w':=by
 have h3:=hV.ln0 rfl;exact⟨h2,by omega,(fun h=>by cases h),(fun h=>by cases h),hO,hR,hB,(fun h=>by cases h),(fun _=>hV.ok rfl _ hG),(fun h=>by cases h)⟩
theorem k7w{ws:List Wd}{k:Nat}{s:Wd}(h:ws[k]?=some s):q1k ws k false s=k+1/\q0s ws k false s=false:=by
 unfold q1k q0s;rw[h];simp
theorem j9o{ws:List Wd}{k:Nat}{s:Wd}(h:ws[k]?≠some s):q1k ws k false s=k/\q0s ws k false s=true:=by
 unfold q1k q0s
 have:(ws[k]?==some s)=false:=by simpa using h
 rw[this];simp
theorem v7r{b:Nat}{A:Option Addr}{c:Nat}{ws:List Wd}{w:World}{q q':Nat}{acc:List (List Td)}{v v7:Value}{wr w3 w4 w7:World}{x:Td}{r:Rs}{ns:List Td}{v4:Value}(hV:PAt b A c ws w q false acc v wr)(hqq:q<=q')(hq:q'<=ws.length)(hx8:x.tx.size<=8)
  (hG:Got b A c ws (.level 0) q' w3 r ns v4 w4)
  (hB:∀u,PR (.level 0) (ws.drop q') (.bad u)->PG (q6c ws q) acc (ws.drop q) (.bad u)) (hX:∀m ms u,PR (.level 0) (ws.drop q') (.ok m ms u)->u.head?≠some [59]->PG (q6c ws q) acc (ws.drop q) (.bad u))
  (hOk:∀m ms u r,PR (.level 0) (ws.drop q') (.ok m ms ([59]::u))->PG false (acc++[x::ms]) u r->PG (q6c ws q) acc (ws.drop q) r)
  (hR:Rd w7 b A c ws (q1k ws (ws.length-r.rest.length) r.isBad [59]) (q0s ws (ws.length-r.rest.length) r.isBad [59])) (hO:q3o (b+1) v7 (acc++[x::ns]) w7) (b7:But w b w w7):
  PAt b A c ws w (q1k ws (ws.length-r.rest.length) r.isBad [59]) (q0s ws (ws.length-r.rest.length) r.isBad [59]) (acc++[x::ns]) v7 w7/\
  2*(ws.length-q1k ws (ws.length-r.rest.length) r.isBad [59])+(if q0s ws (ws.length-r.rest.length) r.isBad [59]then 0 else 1)<2*(ws.length-q)+1:=by
 have hsf:=q5e hG.pr;have h1:=z4u hsf.1;have hn:=hG.n;rw[q0j hq]at hn;have h3:=hV.ln0 rfl;have hl7:(acc++[x::ns]).length=acc.length+1:=by simp
 cases r with
 | bad u=>
  simp only[Rs.rest,Rs.isBad,q1k,q0s,Bool.not_true,Bool.false_and,Bool.false_eq_true,if_false,Bool.not_false,if_true]at *;refine⟨y1j hV (by omega) (by omega) (by omega) ?_ hO hR b7,by omega⟩;rw[h1];exact hB u hG.pr
 | ok m ms u=>
  have he:=hG.e m ms u rfl;subst he;have hn':ms.length+u.length<=ws.length-q':=hn;have h1':ws.drop (ws.length-u.length)=u:=h1;have hR':Rd w7 b A c ws (q1k ws (ws.length-u.length) false [59]) (q0s ws (ws.length-u.length) false [59]):=hR;show PAt b A c ws w (q1k ws (ws.length-u.length) false [59]) (q0s ws (ws.length-u.length) false [59]) (acc++[x::ms]) v7 w7/\2*(ws.length-q1k ws (ws.length-u.length) false [59])+(if q0s ws (ws.length-u.length) false [59]then 0 else 1)<2*(ws.length-q)+1;have hh:ws[ws.length-u.length]?=u.head?:=by rw[<-q4d,h1']
  by_cases hc:u.head?=some ([59]:Wd)
  ·obtain⟨e1,e2⟩:=k7w (hh.trans hc);rw[e1,e2]at hR'⊢
   obtain⟨u',rfl⟩:∃u',u=[59]::u':=by
    cases u with
    | nil=>simp at hc
    | cons a u'=>
     have:a=[59]:=by simpa using hc
     exact⟨u',by rw[this]⟩
   simp only[List.length_cons]at hn' hR' h1' hh⊢;have hlt:ws.length-(u'.length+1)<ws.length:=by omega
   have hpv:q6c ws (ws.length-(u'.length+1)+1)=false:=by
    rw[z0p hlt];have h8:ws[ws.length-(u'.length+1)]?=some [59]:=by rw[hh];rfl
    rw[List.getElem?_eq_getElem hlt]at h8;rw[Option.some.inj h8];rfl
   have hdr:ws.drop (ws.length-(u'.length+1)+1)=u':=by
    rw[<-List.drop_drop,h1'];rfl
   refine⟨⟨by omega,by omega,fun _=>by omega,(fun _ h=>by rw[hpv]at h;cases h),hO,hR',b7,fun _ r hr=>?_,(fun h=>by cases h),fun _ t ht y hy=>?_⟩,by simp only[Bool.false_eq_true,if_false];omega⟩
   ·rw[hpv,hdr]at hr;exact hV.ok rfl r (hOk m ms u' r hG.pr hr)
   ·rcases List.mem_append.1 ht with ht|ht
    ·have:=hV.tx rfl t ht y hy
     omega
    ·rw[List.mem_singleton]at ht;subst ht
     have h8:y.tx.size<=8:=by
      rcases List.mem_cons.1 hy with rfl|hy
      ·exact hx8
      ·exact y1n hG.pr (fun x hx=>by cases hx) _ _ _ rfl y hy
     omega
  ·obtain⟨e1,e2⟩:=j9o (show ws[ws.length-u.length]?≠some [59] by rw[hh];exact hc);rw[e1,e2]at hR'⊢;refine⟨y1j hV (by omega) (by omega) (by omega) ?_ hO hR' b7,by simp only[if_true];omega⟩;rw[h1'];exact hX m ms u hG.pr hc
end Go.Proofs.YthjapabokcajhaaGreatDoor
