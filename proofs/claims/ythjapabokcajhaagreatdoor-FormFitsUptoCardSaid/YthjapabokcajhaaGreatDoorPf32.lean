/- Texts as one: FlatR, FlatR2, FlatR6, FlatR7, FlatRZ, RTl, RTl2, RAll, NodB, WayR, WayL, WayL1, WayL2, WayL6, WayL7, WayL8, WayL9, WayLZ, BstO, NodApp, AppN, LayD, RLow, TreR. -/
import Derived.Test.YthjapabokcajhaaGreatDoorPf31
import Derived.Test.YthjapabokcajhaaGreatDoorPf01
import Derived.Test.YthjapabokcajhaaGreatDoorPf05
import Derived.Test.YthjapabokcajhaaGreatDoorPf06
import Derived.BigQuiet
import Derived.Lib.Walk
import Derived.Shelf.RegionOpenPlain
import Derived.Deep.DeepCutAuto
import Derived.Deep.QuietTactic
import Derived.Laws.AppendOwn
import Derived.OwnWalk
import Derived.Test.YthjapabokcajhaaGreatDoorPf10
import Derived.Test.YthjapabokcajhaaGreatDoorPf02
import Derived.Test.YthjapabokcajhaaGreatDoorPf00
namespace Go.Proofs.YthjapabokcajhaaGreatDoor
open Go Go.RowKit
def q1a(ds:List Nd):List Value:=ds.flatMap fun x=>[.int .i64 x.op,.string x.tx,.int .i64 x.n]
theorem q6g:∀ds:List Nd,(q1a ds).length=ds.length*3
 | []=>rfl
 | x::r=>by
  have:=q6g r
  unfold q1a at this⊢;rw[List.flatMap_cons,List.length_append,this,List.length_cons];simp;omega
theorem z6p(a b:List Nd):q1a (a++b)=q1a a++q1a b:=by simp[q1a,List.flatMap_append]
theorem q8c:∀(ds:List Nd)(i:Nat)(h:i<ds.length),(q1a ds)[i*3]?=some (.int .i64 ds[i].op)/\(q1a ds)[i*3+1]?=some (.string ds[i].tx)/\(q1a ds)[i*3+2]?=some (.int .i64 ds[i].n)
 | x::r,0,_=>by simp[q1a]
 | x::r,i+1,h=>by
  have h1:=q8c r i (by simpa using h);have e:q1a (x::r)=.int .i64 x.op::.string x.tx::.int .i64 x.n::q1a r:=by simp[q1a]
  rw[e,show(i+1)*3=i*3+1+1+1 by omega];exact h1
theorem z6r(ds:List Nd):∀u∈q1a ds,u.oneCell'=true:=by
 intro u hu;obtain⟨x,_,hx⟩:=List.mem_flatMap.1 hu;simp at hx;rcases hx with rfl|rfl|rfl<;>rfl
theorem z6q(ds:List Nd)(j:Nat)(u:Value)(h:(q1a ds)[j]?=some u):∃i,∃hi:i<ds.length,(j=i*3/\u=.int .i64 ds[i].op)\/(j=i*3+1/\u=.string ds[i].tx)\/(j=i*3+2/\u=.int .i64 ds[i].n):=by
 have hj:j<ds.length*3:=by rw[<-q6g];exact(List.getElem?_eq_some_iff.1 h).1
 have hi:j / 3<ds.length:=by omega
 obtain⟨h0,h1,h2⟩:=q8c ds (j / 3) hi;refine⟨j / 3,hi,?_⟩;have h3:j=j / 3*3\/j=j / 3*3+1\/j=j / 3*3+2:=by omega
 rcases h3 with e|e|e
 ·rw[<-e,h]at h0;exact .inl ⟨e,Option.some.inj h0⟩
 ·rw[<-e,h]at h1;exact .inr (.inl ⟨e,Option.some.inj h1⟩)
 ·rw[<-e,h]at h2;exact .inr (.inr ⟨e,Option.some.inj h2⟩)
theorem j3e:(Tryz.prog.info? 107).map (fun i=>(i.zero,i.size,i.bytes))=some (some (.agg #[.int .i64 0,.string ⟨#[]⟩,.int .i64 0]),3,32):=by kernel_rfl
theorem z8z{B:Nat}{w:World}{a:Option Addr}{n cap:Nat}{ds:List Nd}(h:w.ownsRow B 107 3 (.slice a n cap) ds.length (q1a ds)):n=ds.length/\ds.length<=cap/\q1u w a ds:=by
 rcases h.2 with⟨hv,h0⟩|⟨g,c,cur,hv,_,hg,hnc,_,hsz,htake⟩
 ·simp only[Value.slice.injEq]at hv;obtain⟨rfl,rfl,rfl⟩:=hv;refine⟨h0.symm,by omega,fun i hi=>?_⟩;omega
 ·simp only[Value.slice.injEq]at hv;obtain⟨rfl,rfl,rfl⟩:=hv;refine⟨rfl,hnc,fun i hi=>?_⟩
  have hlt:g<w.heap.size:=by
   rcases Nat.lt_or_ge g w.heap.size with h'|h'
   ·exact h'
   ·simp[Array.getElem?_eq_none h']at hg
  have hcell:∀k u,(q1a ds)[k]?=some u->w.cell? ⟨g,k,none⟩=some u:=by
   intro k u hk;rw[<-htake]at hk
   have hk2:k<ds.length*3:=by
    have:=(List.getElem?_eq_some_iff.1 hk).1
    simp at this;omega
   rw[List.getElem?_take_of_lt hk2]at hk;simp only[World.cell?,hg];simpa using hk
  obtain⟨h0,h1,h2⟩:=q8c ds i hi;refine⟨g,0,rfl,hlt,?_,?_,?_⟩
  ·rw[Nat.zero_add];exact hcell _ _ h0
  ·rw[Nat.zero_add];exact hcell _ _ h1
  ·rw[Nat.zero_add];exact hcell _ _ h2
theorem k5z{w:World}{b o:Nat}{ds:List Nd}(h:q1u w (some ⟨b,o,none⟩) ds):∀j u,(q1a ds)[j]?=some u->w.cell? ((⟨b,o,none⟩:Addr).add j)=some u:=by
 intro j u hj;obtain⟨i,hi,hc⟩:=z6q ds j u hj;obtain⟨b',o',e,_,c1,c2,c3⟩:=h i hi;simp only[Option.some.injEq,Addr.mk.injEq,and_true]at e;obtain⟨rfl,rfl⟩:=e
 have ha:∀k,(⟨b,o,none⟩:Addr).add k=⟨b,o+k,none⟩:=by
  intro k;unfold Addr.add
  split
  ·rename_i h;subst h;rfl
  ·rfl
 rw[ha];rcases hc with⟨rfl,rfl⟩|⟨rfl,rfl⟩|⟨rfl,rfl⟩
 ·exact c1
 ·rw[show o+(i*3+1)=o+i*3+1 by omega];exact c2
 ·rw[show o+(i*3+2)=o+i*3+2 by omega];exact c3
end Go.Proofs.YthjapabokcajhaaGreatDoor
namespace Go.Proofs.YthjapabokcajhaaGreatDoor
open Go Go.RowKit
set_option maxRecDepth 100000
def q3m(B:Nat)(v:Value)(xs:List Nd)(w:World):Prop:=w.ownsRow B 107 3 v xs.length (q1a xs)
theorem q3m.nods{B:Nat}{w:World}{A:Option Addr}{n c:Nat}{xs:List Nd}(h:q3m B (.slice A n c) xs w):q1u w A xs:=(z8z h).2.2
theorem q3m.none{B:Nat}{w:World}{A:Option Addr}{n c:Nat}{xs:List Nd}(h:q3m B (.slice A n c) xs w):n=xs.length/\(A=none->n=0/\c=0):=by
 rcases h.2 with⟨hv,h0⟩|⟨g,c',cur,hv,_⟩
 ·simp only[Value.slice.injEq]at hv;obtain⟨rfl,rfl,rfl⟩:=hv;exact⟨h0.symm,fun _=>⟨rfl,rfl⟩⟩
 ·simp only[Value.slice.injEq]at hv;obtain⟨rfl,rfl,rfl⟩:=hv;exact⟨rfl,fun e=>by cases e⟩
theorem z1w{w:World}{ops:Array Oper}{rest:List Oper}{o:Oper}{a:Act}{Q:Exit->Act->World->Prop}(hgd:o.guard=none)(s x:Operand)
  (ho:o.op=.call {callee:=.builtin .append,args:=#[s,x],argTypes:=#[49,49]})
  (base:Nat) (v:Value) (xs:List Nd) (hs:a.eval s=v) (hown:q3m base v xs w)
  (wa:Option Addr) (n:Nat) (ws:List Nd) (hn:ws.length=n) (wc:Nat) (hx:a.eval x=.slice wa n wc) (hW:q1u w wa ws) (hnil:wa=none->n=0/\wc=0)
  (m:Nat) (hm:xs.length+n=m) (hb:m<=1000000) (hbase:base<=w.heap.size)
  (h:∀A c w',q3m base (.slice A m c) (xs++ws) w'->w.grownBy w' v.ownBlock->wpList Tryz.prog ops Q rest (a.put o.dst (.slice A m c)) w'):wpList Tryz.prog ops Q (o::rest) a w:=by
 subst hn hm;obtain⟨i0,hi,hz0,hz1,hz2⟩:=info_parts j3e
 have h':∀v' w',q3m base v' (xs++ws) w'->w.grownBy w' v.ownBlock->wpList Tryz.prog ops Q rest (a.put o.dst v') w':=by
  intro v' w' h1 h2
  obtain⟨A,c,rfl⟩:∃A c,v'=.slice A (xs.length+ws.length) c:=by
   rcases h1.2 with⟨hv,h0⟩|⟨g,c,cur,hv,_⟩
   ·rw[List.length_append]at h0;exact⟨.none,0,by rw[hv,h0]⟩
   ·rw[List.length_append]at hv;exact⟨_,c,hv⟩
  exact h A c w' h1 h2
 cases wa with
 | none=>
  obtain⟨h0,rfl⟩:=hnil rfl;obtain rfl:ws=[]:=List.eq_nil_of_length_eq_zero h0;refine wpList_append_own_none hgd s x 49 ho base 107 i0 3 Tryz.underlying49 hi v xs.length (q1a xs) hs hown hx ?_;refine h' v w ?_ ⟨rfl,rfl,rfl,Nat.le_refl _,fun _ _ _=>rfl⟩;rw[List.append_nil];exact hown
 | some ad=>
  have hsp:ws=[]\/∃b o,ad=⟨b,o,Option.none⟩:=by
   rcases Nat.eq_zero_or_pos ws.length with h0|h0
   ·exact .inl (List.eq_nil_of_length_eq_zero h0)
   ·obtain⟨b,o,e,_⟩:=hW 0 h0;exact .inr ⟨b,o,by simpa using e⟩
  refine wpList_append_own w hgd s x 49 ho base 107 i0 _ 3 32 Tryz.underlying49 hi hz0 hz1 hz2 rfl (by decide) v xs.length (q1a xs) hs hown ad ws.length wc (q1a ws) hx (q6g ws) ?_ (z6r ws) (by unfold maxLen;omega) (by omega) hbase ?_
  ·rcases hsp with rfl|⟨b,o,rfl⟩
   ·intro j u hj;simp[q1a]at hj
   ·exact k5z hW
  ·intro v' w' h1 h2 _;rw[<-z6p]at h1;refine h' v' w' ?_ h2;show w'.ownsRow _ _ _ _ _ _;rw[List.length_append];exact h1
theorem q3m.down{B B':Nat}{v:Value}{xs:List Nd}{w:World}(h:q3m B v xs w)(hB:B'<=B):q3m B' v xs w:=by
 refine⟨h.1,?_⟩;rcases h.2 with h0|⟨g,c,cur,hv,hg,rest⟩
 ·exact .inl h0
 ·exact .inr ⟨g,c,cur,hv,by omega,rest⟩
theorem q3m.kept{B:Nat}{v:Value}{xs:List Nd}{w w':World}(h:q3m B v xs w)(hk:∀g,B<=g->g<w.heap.size->w'.heap[g]?=w.heap[g]?):q3m B v xs w':=by
 refine⟨h.1,?_⟩;rcases h.2 with h0|⟨g,c,cur,hv,hB,hg,rest⟩
 ·exact .inl h0
 ·exact .inr ⟨g,c,cur,hv,hB,(hk g hB (Array.getElem?_eq_some_iff.1 hg).1).trans hg,rest⟩
theorem q3m.one(w:World)(x:Nd):q3m w.heap.size (.slice (some ⟨w.heap.size,0,Option.none⟩) 1 1) [x] (w.alloc (.cells #[.int .i64 x.op,.string x.tx,.int .i64 x.n] 107)):=by
 have h1:(w.alloc (.cells #[.int .i64 x.op,.string x.tx,.int .i64 x.n] 107)).heap[w.heap.size]?=some (.cells #[.int .i64 x.op,.string x.tx,.int .i64 x.n] 107 (0,0)):=by
  show(w.heap.push _)[w.heap.size]?=_
  simp
 exact⟨rfl,.inr ⟨w.heap.size,1,_,rfl,Nat.le_refl _,h1,Nat.le_refl _,by unfold maxLen;decide,rfl,rfl⟩⟩
end Go.Proofs.YthjapabokcajhaaGreatDoor
namespace Go.Proofs.YthjapabokcajhaaGreatDoor
open Go Go.RowKit
set_option maxRecDepth 100000
set_option maxHeartbeats 1000000
def NdV(w:World)(v:Value)(xs:List Nd):Prop:=∃A c,v=.slice A xs.length c/\q1u w A xs/\(A=none->xs.length=0/\c=0)
theorem NdV.below{w w':World}{v:Value}{xs:List Nd}(h:NdV w v xs)(hb:Below w.heap.size w w'):NdV w' v xs:=by
 obtain⟨A,c,e,h1,h2⟩:=h;exact⟨A,c,e,h1.below hb,h2⟩
theorem q3m.val{B:Nat}{w:World}{A:Option Addr}{c:Nat}{xs:List Nd}(h:q3m B (.slice A xs.length c) xs w):NdV w (.slice A xs.length c) xs:=⟨A,c,rfl,h.nods,h.none.2⟩
def NdR(w:World)(xs:List Nd)(e:Ending)(w':World):Prop:=∃A c,e=.returned (.slice A xs.length c)/\q3m w.heap.size (.slice A xs.length c) xs w'/\Below w.heap.size w w'
theorem NdR.val{w:World}{xs:List Nd}{e:Ending}{w':World}(h:NdR w xs e w'):∃v,e=.returned v/\NdV w' v xs/\Below w.heap.size w w':=by
 obtain⟨A,c,e,h1,h2⟩:=h;exact⟨_,e,h1.val,h2⟩
theorem NdR.from{w w0:World}{xs:List Nd}{e:Ending}{w':World}(h:NdR w xs e w')(hb:Below w0.heap.size w0 w):NdR w0 xs e w':=by
 obtain⟨A,c,e,h1,h2⟩:=h;exact⟨A,c,e,h1.down hb.size,q0g hb (Nat.le_refl _) h2⟩
theorem q0q(s:ByteArray)(w:World):Calls Tryz.prog 57 #[.string s] w fun e w'=>NdR w [⟨1,s,0⟩] e w':=by
 have HO:=(show Hid (_)from q3m.one w ⟨1,s,0⟩);have HB:Hid (∀O:Obj,Below w.heap.size w (w.alloc O)):=fun O=>(Below.refl _ w).alloc (Nat.le_refl _) O
 go_in;go_wp2;go_ret;exact⟨_,1,rfl,HO.out,HB.out _⟩
theorem q1k(x:Nd){xs:List Nd}{v:Value}(w:World)(hx:NdV w v xs)(hl:xs.length<=100000):Calls Tryz.prog 60 #[.agg #[.int .i64 x.op,.string x.tx,.int .i64 x.n],v] w fun e w'=>NdR w (x::xs) e w':=by
 obtain⟨A,c,rfl,hN,hnil⟩:=hx;obtain⟨xo,xt,xn⟩:=x;have HN:Hid (q1u w A xs):=hN;have HNL:Hid (A=none->xs.length=0/\c=0):=hnil;clear hN hnil;generalize hn:xs.length=n at hl HNL⊢;have HLN:Hid (xs.length=n):=hn;clear hn
 have HO:Hid (q3m w.heap.size (.slice (some ⟨w.heap.size+1,0,none⟩) 1 1) [⟨xo,xt,xn⟩] ((w.alloc (.cells #[.int .i64 xo,.string xt,.int .i64 xn] 107)).alloc (.cells #[.int .i64 xo,.string xt,.int .i64 xn] 107))):=by
  have h:=(q3m.one (w.alloc (.cells #[.int .i64 xo,.string xt,.int .i64 xn] 107)) ⟨xo,xt,xn⟩).down (B':=w.heap.size) (by rw[World.size_alloc];omega);rw[World.size_alloc]at h;exact h
 have HB1:Hid (Below w.heap.size w ((w.alloc (.cells #[.int .i64 xo,.string xt,.int .i64 xn] 107)).alloc (.cells #[.int .i64 xo,.string xt,.int .i64 xn] 107))):=((Below.refl _ w).alloc (Nat.le_refl _) _).alloc (by rw[World.size_alloc];omega) _;have HN1:Hid (q1u ((w.alloc (.cells #[.int .i64 xo,.string xt,.int .i64 xn] 107)).alloc (.cells #[.int .i64 xo,.string xt,.int .i64 xn] 107)) A xs):=HN.out.below HB1.out;simp only;go_in;go_wp2_with(at_builtin;refine z1w rfl _ _ rfl w.heap.size _ [⟨xo,xt,xn⟩] rfl HO.out A n xs HLN.out c rfl HN1.out HNL.out (1+n) rfl (by omega) (by simp only[World.size_alloc];omega) ?_);intro A2 c2 w2 hO2 hg2;have hb2:Below w.heap.size w w2:=HB1.out.grown hg2 (by simp only[World.size_alloc];omega) (fun k hk=>(World.ownsRow.lt HO.out k hk).1);have HO2:Hid (q3m w.heap.size (.slice A2 (1+n) c2) (⟨xo,xt,xn⟩::xs) w2):=hO2;have HB2:Hid (Below w.heap.size w w2):=hb2;clear hO2 hg2 hb2;go_wp2;go_ret;have e:(⟨xo,xt,xn⟩::xs:List Nd).length=1+n:=by rw[List.length_cons,HLN.out];omega
 exact⟨A2,c2,by rw[e];rfl,by rw[e];exact HO2.out,HB2.out⟩
theorem q0m{xs ys:List Nd}{v u:Value}(w:World)(hx:NdV w v xs)(hy:NdV w u ys)(hl:xs.length+ys.length<=100000):Calls Tryz.prog 61 #[v,u] w fun e w'=>NdR w (⟨6,⟨#[]⟩,0⟩::(xs++ys)) e w':=by
 obtain⟨A,c,rfl,hN,hnil⟩:=hx;obtain⟨A',c',rfl,hM,hnil'⟩:=hy;have HN:Hid (q1u w A xs):=hN;have HM:Hid (q1u w A' ys):=hM;have HNL:Hid (A=none->xs.length=0/\c=0):=hnil;have HML:Hid (A'=none->ys.length=0/\c'=0):=hnil';clear hN hnil hM hnil';generalize hn:xs.length=n at hl HNL⊢;generalize hm:ys.length=m at hl HML⊢;have HLN:Hid (xs.length=n):=hn;have HLM:Hid (ys.length=m):=hm;clear hn hm;have HO:Hid (q3m w.heap.size (.slice (some ⟨w.heap.size,0,none⟩) 1 1) [⟨6,⟨#[]⟩,0⟩] (w.alloc (.cells #[.int .i64 6,.string ⟨#[]⟩,.int .i64 0] 107))):=q3m.one w ⟨6,⟨#[]⟩,0⟩;have HB1:Hid (Below w.heap.size w (w.alloc (.cells #[.int .i64 6,.string ⟨#[]⟩,.int .i64 0] 107))):=(Below.refl _ w).alloc (Nat.le_refl _) _;have HN1:Hid (q1u (w.alloc (.cells #[.int .i64 6,.string ⟨#[]⟩,.int .i64 0] 107)) A xs):=HN.out.below HB1.out;go_in;go_wp2_with(at_builtin;refine z1w rfl _ _ rfl w.heap.size _ [⟨6,⟨#[]⟩,0⟩] rfl HO.out A n xs HLN.out c rfl HN1.out HNL.out (1+n) rfl (by omega) (by simp only[World.size_alloc];omega) ?_);intro A2 c2 w2 hO2 hg2;have hb2:Below w.heap.size w w2:=HB1.out.grown hg2 (by simp only[World.size_alloc];omega) (fun k hk=>(World.ownsRow.lt HO.out k hk).1);have HO2:Hid (q3m w.heap.size (.slice A2 (1+n) c2) (⟨6,⟨#[]⟩,0⟩::xs) w2):=hO2;have HB2:Hid (Below w.heap.size w w2):=hb2;have HM2:Hid (q1u w2 A' ys):=HM.out.below hb2;have hs2:=hb2.size
 have HL2:Hid ((⟨6,⟨#[]⟩,0⟩::xs:List Nd).length+m=1+n+m):=by
  show _=_;rw[List.length_cons,HLN.out];omega
 clear hO2 hg2 hb2 HO HB1 HN1;go_wp2_with(at_builtin;refine z1w rfl _ _ rfl w.heap.size _ (⟨6,⟨#[]⟩,0⟩::xs) rfl HO2.out A' m ys HLM.out c' rfl HM2.out HML.out (1+n+m) HL2.out (by omega) (by omega) ?_);intro A3 c3 w3 hO3 hg3;have hb3:Below w.heap.size w w3:=HB2.out.grown hg3 (by omega) (fun k hk=>(World.ownsRow.lt HO2.out k hk).1);have HO3:Hid (q3m w.heap.size (.slice A3 (1+n+m) c3) (⟨6,⟨#[]⟩,0⟩::(xs++ys)) w3):=hO3;have HB3:Hid (Below w.heap.size w w3):=hb3;clear hO3 hg3 hb3;go_wp2;go_ret;have e:(⟨6,⟨#[]⟩,0⟩::(xs++ys):List Nd).length=1+n+m:=by rw[List.length_cons,List.length_append,HLN.out,HLM.out];omega
 exact⟨A3,c3,by rw[e];rfl,by rw[e];exact HO3.out,HB3.out⟩
end Go.Proofs.YthjapabokcajhaaGreatDoor
namespace Go.Proofs.YthjapabokcajhaaGreatDoor
open Go Go.RowKit
set_option maxRecDepth 100000
theorem z1j(c:UInt8)(w:World):Calls Tryz.prog 53 #[.int .u8 (c.toNat:Int)] w fun e w'=>e=.returned (.bool (q7n c))/\w=w':=by
 by_cases h1:(97:Int)<=(c.toNat:Int)
 ·by_cases h2:(c.toNat:Int)<=122
  ·have HE:Hid (q7n c=true):=by show q7n c=true;simp[q7n];omega
   go_in;go_wp2;go_ret;exact⟨by rw[HE.out];rfl,rfl⟩
  ·have HE:Hid (q7n c=false):=by show q7n c=false;simp[q7n];omega
   go_in;go_wp2;go_ret;exact⟨by rw[HE.out];rfl,rfl⟩
 ·have HE:Hid (q7n c=false):=by show q7n c=false;simp[q7n];omega
  go_in;go_wp2;go_ret;exact⟨by rw[HE.out];rfl,rfl⟩
end Go.Proofs.YthjapabokcajhaaGreatDoor
namespace Go.Proofs.YthjapabokcajhaaGreatDoor
open Go Go.RowKit
set_option maxRecDepth 100000
set_option maxHeartbeats 2000000
theorem k1b(x:Td)(w:World):Calls Tryz.prog 54 #[tdV x] w fun e w'=>e=.returned (.int .i64 (kdZ x))/\Below w.heap.size w w':=by
 obtain⟨op,tx,n⟩:=x;have hb:∀O:Obj,Below w.heap.size w (w.alloc O):=fun O=>(Below.refl _ w).alloc (Nat.le_refl _) O
 by_cases h3:op=3
 ·subst h3;go_in;go_wp2;go_ret;exact⟨by simp[kdZ],hb _⟩
 by_cases h4:op=4
 ·subst h4;go_in;go_wp2;go_ret;exact⟨by simp[kdZ],hb _⟩
 by_cases h5:op=5
 ·subst h5;go_in;go_wp2;go_ret;exact⟨by simp[kdZ,kdT],hb _⟩
 by_cases h6:op=6
 ·subst h6;go_in;go_wp2;go_ret;exact⟨by simp[kdZ,kdT],hb _⟩
 by_cases h7:op=7
 ·subst h7;go_in;go_wp2;go_ret;exact⟨by simp[kdZ,kdT],hb _⟩
 by_cases h8:op=8
 ·subst h8;go_in;go_wp2;go_ret;exact⟨by simp[kdZ,kdT],hb _⟩
 have HE:Hid (kdZ ⟨op,tx,n⟩=0):=by show kdZ ⟨op,tx,n⟩=0;simp[kdZ,kdT,h3,h4,h5,h6,h7,h8]
 have g3:(op==3)=false:=by simp[h3]
 have g4:(op==4)=false:=by simp[h4]
 have g5:(op==5)=false:=by simp[h5]
 have g6:(op==6)=false:=by simp[h6]
 have g7:(op==7)=false:=by simp[h7]
 have g8:(op==8)=false:=by simp[h8]
 clear h3 h4 h5 h6 h7 h8;go_in;go_wp2;go_ret;exact⟨by rw[HE.out];rfl,hb _⟩
theorem q9r(ds:List Td)(a:Option Addr)(cap:Nat)(hl:ds.length<=400)(hk:∀x∈ds,q0l x=0):∀(f i:Nat)(w:World),Tds w a ds->ds.length-i<f->i<=1000->
  Calls Tryz.prog 24 #[.slice a ds.length cap,.int .i64 i] w fun e w'=>e=.returned (.int .i64 (z2g (q2h ds i 1)))/\Below w.heap.size w w':=by
 have HK:Hid (∀x∈ds,q0l x=0):=hk;clear hk;intro f
 induction f with
 | zero=>intro i w _ h;omega
 | succ f ih=>
  intro i w hN hf hi;have HN:Hid (Tds w a ds):=hN
  have IH:Hid (∀(i:Nat)(w:World),Tds w a ds->ds.length-i<f->i<=1000->
   Calls Tryz.prog 24 #[.slice a ds.length cap,.int .i64 i] w fun e w'=>e=.returned (.int .i64 (z2g (q2h ds i 1)))/\Below w.heap.size w w'):=ih
  clear hN ih;by_cases hlt:i<ds.length
  ·obtain⟨b,o,ea,hb,c1,c2,c3⟩:=HN.out i hlt;have HS:Hid (q2h ds i 1=q2h ds (i+1) (kdT ds[i])):=q9d _ _ 0 hlt;have hp:=j2z (HK.out _ (List.getElem_mem hlt));have HP:Hid (kdZ ds[i]=(kdT ds[i]:Int)):=j3a (HK.out _ (List.getElem_mem hlt));have hii:(i:Int)<(ds.length:Int):=by omega
   have hge:¬(ds.length:Int)<=(i:Int):=by omega
   subst ea;generalize ds[i]=x at c1 c2 c3 HS hp HP;generalize hpp:kdT x=p at HS hp HP;clear hpp;obtain⟨xo,xt,xn⟩:=x
   have HKD:Hid (∀W:World,Calls Tryz.prog 54 #[.agg #[.int .i64 xo,.string xt,.int .i64 xn]] W fun e w'=>e=.returned (.int .i64 (p:Int))/\Below W.heap.size W w'):=fun W=>by
    have:=k1b ⟨xo,xt,xn⟩ W
    rw[HP.out]at this;exact this
   clear HP;go_in;go_wp2_with fail;refine(HKD.out _).mono ?_;rintro e w1⟨rfl,b1⟩;go_wp2_with fail
   go_loopw [1,5] (fun z m wr=>Below w.heap.size w wr/\∃q:Nat,q<=6/\m=.int .i64 q/\((∃k:Nat,i<k/\k<=ds.length/\z=.int .i64 k/\q2h ds i 1=q2h ds k q)\/(z=.int .i64 (-1)/\q2h ds i 1=none))) (fun _ m _=>(intOf m).toNat)
   case atStart=>exact⟨b1,p,hp,rfl,.inl ⟨i+1,by omega,by omega,by go_num,HS.out⟩⟩
   case round=>
    obtain⟨hbr,q,hq,rfl,⟨k,hk1,hk2,rfl,he⟩|⟨rfl,he⟩⟩:=hrel
    ·have HE:Hid (q2h ds i 1=q2h ds k q):=he;have HBR:Hid (Below w.heap.size w wr):=hbr;clear he hbr;by_cases h0:q=0
     ·subst h0;have HE':Hid (q2h ds i 1=some k):=HE.out.trans (z3x _ _);go_wp2;go_ret;exact⟨by rw[HE'.out];rfl,HBR.out⟩
     ·obtain⟨q',rfl⟩:∃q',q=q'+1:=⟨q-1,by omega⟩;have HA:Hid (q2h ds i 1=(q2h ds k 1).bind fun j=>q2h ds j q'):=HE.out.trans (by rw[Nat.add_comm q' 1,k9s]);clear h0;go_wp2_with fail;refine(IH.out k _ (HN.out.below HBR.out) (by omega) (by omega)).mono ?_;rintro e w2⟨rfl,b2⟩;have HB2:Hid (Below w.heap.size w w2):=q0g HBR.out (Nat.le_refl _) b2;clear b2;go_wp2
      go_roundw
      case rel=>
       refine⟨HB2.out,q',by omega,by go_num,?_⟩;cases hj:q2h ds k 1 with
       | none=>exact .inr ⟨rfl,by rw[HA.out,hj];rfl⟩
       | some j=>
        have hjb:=j5q hj;exact .inl ⟨j,by omega,by omega,rfl,by rw[HA.out,hj];rfl⟩
      case measure=>simp[intOf]
    ·have HE:Hid (q2h ds i 1=none):=he;have HBR:Hid (Below w.heap.size w wr):=hbr;clear he hbr;by_cases h0:q=0
     ·subst h0;go_wp2;go_ret;exact⟨by rw[HE.out];rfl,HBR.out⟩
     ·go_wp2;go_ret;exact⟨by rw[HE.out];rfl,HBR.out⟩
  ·have HE:Hid (q2h ds i 1=none):=q5i _ _ _ (by omega);have hge:(ds.length:Int)<=(i:Int):=by omega
   go_in;go_wp2;go_ret;exact⟨by rw[HE.out];rfl,Below.refl _ _⟩
end Go.Proofs.YthjapabokcajhaaGreatDoor
