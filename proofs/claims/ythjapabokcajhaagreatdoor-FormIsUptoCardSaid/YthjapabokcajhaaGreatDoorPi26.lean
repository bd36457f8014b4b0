/- Texts as one: NodApp, AppN, LayD, RLow, TreR, SynD, SynE, LayK. -/
import Derived.Test.YthjapabokcajhaaGreatDoorPi09
import Derived.Laws.Strings2
import Derived.Deep.RegionHeld3
open Go.Proofs.Tryz
namespace Go.Proofs.YthjapabokcajhaaGreatDoor
open Go Go.RowKit
def q1p(ds:List Nd):List Value:=ds.flatMap fun x=>[.int .i64 x.op,.string x.tx,.int .i64 x.n]
theorem q9o:∀ds:List Nd,(q1p ds).length=ds.length*3
 | []=>rfl
 | x::r=>by
  have:=q9o r
  unfold q1p at this⊢;rw[List.flatMap_cons,List.length_append,this,List.length_cons];simp;omega
theorem k4c(a b:List Nd):q1p (a++b)=q1p a++q1p b:=by simp[q1p,List.flatMap_append]
theorem z1z:∀(ds:List Nd)(i:Nat)(h:i<ds.length),(q1p ds)[i*3]?=some (.int .i64 ds[i].op)/\(q1p ds)[i*3+1]?=some (.string ds[i].tx)/\(q1p ds)[i*3+2]?=some (.int .i64 ds[i].n)
 | x::r,0,_=>by simp[q1p]
 | x::r,i+1,h=>by
  have h1:=z1z r i (by simpa using h);have e:q1p (x::r)=.int .i64 x.op::.string x.tx::.int .i64 x.n::q1p r:=by simp[q1p]
  rw[e,show(i+1)*3=i*3+1+1+1 by omega];exact h1
theorem k4f(ds:List Nd):∀u∈q1p ds,u.oneCell'=true:=by
 intro u hu;obtain⟨x,_,hx⟩:=List.mem_flatMap.1 hu;simp at hx;rcases hx with rfl|rfl|rfl<;>rfl
theorem k4e(ds:List Nd)(j:Nat)(u:Value)(h:(q1p ds)[j]?=some u):∃i,∃hi:i<ds.length,(j=i*3/\u=.int .i64 ds[i].op)\/(j=i*3+1/\u=.string ds[i].tx)\/(j=i*3+2/\u=.int .i64 ds[i].n):=by
 have hj:j<ds.length*3:=by rw[<-q9o];exact(List.getElem?_eq_some_iff.1 h).1
 have hi:j / 3<ds.length:=by omega
 obtain⟨h0,h1,h2⟩:=z1z ds (j / 3) hi;refine⟨j / 3,hi,?_⟩;have h3:j=j / 3*3\/j=j / 3*3+1\/j=j / 3*3+2:=by omega
 rcases h3 with e|e|e
 ·rw[<-e,h]at h0;exact .inl ⟨e,Option.some.inj h0⟩
 ·rw[<-e,h]at h1;exact .inr (.inl ⟨e,Option.some.inj h1⟩)
 ·rw[<-e,h]at h2;exact .inr (.inr ⟨e,Option.some.inj h2⟩)
theorem v7a:(prog.info? 107).map (fun i=>(i.zero,i.size,i.bytes))=some (some (.agg #[.int .i64 0,.string ⟨#[]⟩,.int .i64 0]),3,32):=by kernel_rfl
theorem k7h{B:Nat}{w:World}{a:Option Addr}{n cap:Nat}{ds:List Nd}(h:w.ownsRow B 107 3 (.slice a n cap) ds.length (q1p ds)):n=ds.length/\ds.length<=cap/\q1u w a ds:=by
 rcases h.2 with⟨hv,h0⟩|⟨g,c,cur,hv,_,hg,hnc,_,hsz,htake⟩
 ·simp only[Value.slice.injEq]at hv;obtain⟨rfl,rfl,rfl⟩:=hv;refine⟨h0.symm,by omega,fun i hi=>?_⟩;omega
 ·simp only[Value.slice.injEq]at hv;obtain⟨rfl,rfl,rfl⟩:=hv;refine⟨rfl,hnc,fun i hi=>?_⟩
  have hlt:g<w.heap.size:=by
   rcases Nat.lt_or_ge g w.heap.size with h'|h'
   ·exact h'
   ·simp[Array.getElem?_eq_none h']at hg
  have hcell:∀k u,(q1p ds)[k]?=some u->w.cell? ⟨g,k,none⟩=some u:=by
   intro k u hk;rw[<-htake]at hk
   have hk2:k<ds.length*3:=by
    have:=(List.getElem?_eq_some_iff.1 hk).1
    simp at this;omega
   rw[List.getElem?_take_of_lt hk2]at hk;simp only[World.cell?,hg];simpa using hk
  obtain⟨h0,h1,h2⟩:=z1z ds i hi;refine⟨g,0,rfl,hlt,?_,?_,?_⟩
  ·rw[Nat.zero_add];exact hcell _ _ h0
  ·rw[Nat.zero_add];exact hcell _ _ h1
  ·rw[Nat.zero_add];exact hcell _ _ h2
theorem j6z{w:World}{b o:Nat}{ds:List Nd}(h:q1u w (some ⟨b,o,none⟩) ds):∀j u,(q1p ds)[j]?=some u->w.cell? ((⟨b,o,none⟩:Addr).add j)=some u:=by
 intro j u hj;obtain⟨i,hi,hc⟩:=k4e ds j u hj;obtain⟨b',o',e,_,c1,c2,c3⟩:=h i hi;simp only[Option.some.injEq,Addr.mk.injEq,and_true]at e;obtain⟨rfl,rfl⟩:=e
 have ha:∀k,(⟨b,o,none⟩:Addr).add k=⟨b,o+k,none⟩:=by
  intro k;unfold Addr.add
  split
  ·rename_i h;subst h;rfl
  ·rfl
 rw[ha];rcases hc with⟨rfl,rfl⟩|⟨rfl,rfl⟩|⟨rfl,rfl⟩
 ·exact c1
 ·rw[show o+(i*3+1)=o+i*3+1 by omega];exact c2
 ·rw[show o+(i*3+2)=o+i*3+2 by omega];exact c3
set_option maxRecDepth 100000
def q7k(B:Nat)(v:Value)(xs:List Nd)(w:World):Prop:=w.ownsRow B 107 3 v xs.length (q1p xs)
theorem q7k.nods{B:Nat}{w:World}{A:Option Addr}{n c:Nat}{xs:List Nd}(h:q7k B (.slice A n c) xs w):q1u w A xs:=(k7h h).2.2
theorem q7k.none{B:Nat}{w:World}{A:Option Addr}{n c:Nat}{xs:List Nd}(h:q7k B (.slice A n c) xs w):n=xs.length/\(A=none->n=0/\c=0):=by
 rcases h.2 with⟨hv,h0⟩|⟨g,c',cur,hv,_⟩
 ·simp only[Value.slice.injEq]at hv;obtain⟨rfl,rfl,rfl⟩:=hv;exact⟨h0.symm,fun _=>⟨rfl,rfl⟩⟩
 ·simp only[Value.slice.injEq]at hv;obtain⟨rfl,rfl,rfl⟩:=hv;exact⟨rfl,fun e=>by cases e⟩
theorem z7w{w:World}{ops:Array Oper}{rest:List Oper}{o:Oper}{a:Act}{Q:Exit->Act->World->Prop}(hgd:o.guard=none)(s x:Operand)
  (ho:o.op=.call {callee:=.builtin .append,args:=#[s,x],argTypes:=#[49,49]})
  (base:Nat) (v:Value) (xs:List Nd) (hs:a.eval s=v) (hown:q7k base v xs w)
  (wa:Option Addr) (n:Nat) (ws:List Nd) (hn:ws.length=n) (wc:Nat) (hx:a.eval x=.slice wa n wc) (hW:q1u w wa ws) (hnil:wa=none->n=0/\wc=0)
  (m:Nat) (hm:xs.length+n=m) (hb:m<=1000000) (hbase:base<=w.heap.size)
  (h:∀A c w',q7k base (.slice A m c) (xs++ws) w'->w.grownBy w' v.ownBlock->wpList prog ops Q rest (a.put o.dst (.slice A m c)) w'):wpList prog ops Q (o::rest) a w:=by
 subst hn hm;obtain⟨i0,hi,hz0,hz1,hz2⟩:=info_parts v7a
 have h':∀v' w',q7k base v' (xs++ws) w'->w.grownBy w' v.ownBlock->wpList prog ops Q rest (a.put o.dst v') w':=by
  intro v' w' h1 h2
  obtain⟨A,c,rfl⟩:∃A c,v'=.slice A (xs.length+ws.length) c:=by
   rcases h1.2 with⟨hv,h0⟩|⟨g,c,cur,hv,_⟩
   ·rw[List.length_append]at h0;exact⟨.none,0,by rw[hv,h0]⟩
   ·rw[List.length_append]at hv;exact⟨_,c,hv⟩
  exact h A c w' h1 h2
 cases wa with
 | none=>
  obtain⟨h0,rfl⟩:=hnil rfl;obtain rfl:ws=[]:=List.eq_nil_of_length_eq_zero h0;refine wpList_append_own_none hgd s x 49 ho base 107 i0 3 Tryz.underlying49 hi v xs.length (q1p xs) hs hown hx ?_;refine h' v w ?_ ⟨rfl,rfl,rfl,Nat.le_refl _,fun _ _ _=>rfl⟩;rw[List.append_nil];exact hown
 | some ad=>
  have hsp:ws=[]\/∃b o,ad=⟨b,o,Option.none⟩:=by
   rcases Nat.eq_zero_or_pos ws.length with h0|h0
   ·exact .inl (List.eq_nil_of_length_eq_zero h0)
   ·obtain⟨b,o,e,_⟩:=hW 0 h0;exact .inr ⟨b,o,by simpa using e⟩
  refine wpList_append_own w hgd s x 49 ho base 107 i0 _ 3 32 Tryz.underlying49 hi hz0 hz1 hz2 rfl (by decide) v xs.length (q1p xs) hs hown ad ws.length wc (q1p ws) hx (q9o ws) ?_ (k4f ws) (by unfold maxLen;omega) (by omega) hbase ?_
  ·rcases hsp with rfl|⟨b,o,rfl⟩
   ·intro j u hj;simp[q1p]at hj
   ·exact j6z hW
  ·intro v' w' h1 h2 _;rw[<-k4c]at h1;refine h' v' w' ?_ h2;show w'.ownsRow _ _ _ _ _ _;rw[List.length_append];exact h1
theorem q7k.down{B B':Nat}{v:Value}{xs:List Nd}{w:World}(h:q7k B v xs w)(hB:B'<=B):q7k B' v xs w:=by
 refine⟨h.1,?_⟩;rcases h.2 with h0|⟨g,c,cur,hv,hg,rest⟩
 ·exact .inl h0
 ·exact .inr ⟨g,c,cur,hv,by omega,rest⟩
theorem q7k.kept{B:Nat}{v:Value}{xs:List Nd}{w w':World}(h:q7k B v xs w)(hk:∀g,B<=g->g<w.heap.size->w'.heap[g]?=w.heap[g]?):q7k B v xs w':=by
 refine⟨h.1,?_⟩;rcases h.2 with h0|⟨g,c,cur,hv,hB,hg,rest⟩
 ·exact .inl h0
 ·exact .inr ⟨g,c,cur,hv,hB,(hk g hB (Array.getElem?_eq_some_iff.1 hg).1).trans hg,rest⟩
theorem q7k.one(w:World)(x:Nd):q7k w.heap.size (.slice (some ⟨w.heap.size,0,Option.none⟩) 1 1) [x] (w.alloc (.cells #[.int .i64 x.op,.string x.tx,.int .i64 x.n] 107)):=by
 have h1:(w.alloc (.cells #[.int .i64 x.op,.string x.tx,.int .i64 x.n] 107)).heap[w.heap.size]?=some (.cells #[.int .i64 x.op,.string x.tx,.int .i64 x.n] 107 (0,0)):=by
  show(w.heap.push _)[w.heap.size]?=_
  simp
 exact⟨rfl,.inr ⟨w.heap.size,1,_,rfl,Nat.le_refl _,h1,Nat.le_refl _,by unfold maxLen;decide,rfl,rfl⟩⟩
set_option maxHeartbeats 1000000
def NdV(w:World)(v:Value)(xs:List Nd):Prop:=∃A c,v=.slice A xs.length c/\q1u w A xs/\(A=none->xs.length=0/\c=0)
theorem NdV.below{w w':World}{v:Value}{xs:List Nd}(h:NdV w v xs)(hb:Below w w w'):NdV w' v xs:=by
 obtain⟨A,c,e,h1,h2⟩:=h;exact⟨A,c,e,h1.below hb,h2⟩
theorem q7k.val{B:Nat}{w:World}{A:Option Addr}{c:Nat}{xs:List Nd}(h:q7k B (.slice A xs.length c) xs w):NdV w (.slice A xs.length c) xs:=⟨A,c,rfl,h.nods,h.none.2⟩
def NdR(w:World)(xs:List Nd)(e:Ending)(w':World):Prop:=∃A c,e=.returned (.slice A xs.length c)/\q7k w.heap.size (.slice A xs.length c) xs w'/\Below w w w'
theorem NdR.val{w:World}{xs:List Nd}{e:Ending}{w':World}(h:NdR w xs e w'):∃v,e=.returned v/\NdV w' v xs/\Below w w w':=by
 obtain⟨A,c,e,h1,h2⟩:=h;exact⟨_,e,h1.val,h2⟩
theorem NdR.from{w w0:World}{xs:List Nd}{e:Ending}{w':World}(h:NdR w xs e w')(hb:Below w0 w0 w):NdR w0 xs e w':=by
 obtain⟨A,c,e,h1,h2⟩:=h;exact⟨A,c,e,h1.down hb.size,q0d hb Zl h2⟩
theorem q1b(s:ByteArray)(w:World):Calls prog 57 #[.string s] w fun e w'=>NdR w [⟨1,s,0⟩] e w':=by
 have HO:=(show Hid (_)from q7k.one w ⟨1,s,0⟩);have HB:Hid (∀O:Obj,Below w w (w.alloc O)):=fun O=>(Below.refl _ w).alloc Zl O
 go_in;go_wp2;go_ret;exact⟨_,1,rfl,HO.o,HB.o _⟩
theorem q2g(x:Nd){xs:List Nd}{v:Value}(w:World)(hx:NdV w v xs)(hl:xs.length<=100000):Calls prog 60 #[.agg #[.int .i64 x.op,.string x.tx,.int .i64 x.n],v] w fun e w'=>NdR w (x::xs) e w':=by
 obtain⟨A,c,rfl,hN,hnil⟩:=hx;obtain⟨xo,xt,xn⟩:=x;have HN:Hid (q1u w A xs):=hN;have HNL:Hid (A=none->xs.length=0/\c=0):=hnil;clear hN hnil;generalize hn:xs.length=n at hl HNL⊢;have HLN:Hid (xs.length=n):=hn;clear hn
 have HO:Hid (q7k w.heap.size (.slice (some ⟨w.heap.size+1,0,none⟩) 1 1) [⟨xo,xt,xn⟩] ((w.alloc (.cells #[.int .i64 xo,.string xt,.int .i64 xn] 107)).alloc (.cells #[.int .i64 xo,.string xt,.int .i64 xn] 107))):=by
  have h:=(q7k.one (w.alloc (.cells #[.int .i64 xo,.string xt,.int .i64 xn] 107)) ⟨xo,xt,xn⟩).down (B':=w.heap.size) (by rw[World.size_alloc];omega);rw[World.size_alloc]at h;exact h
 have HB1:Hid (Below w w ((w.alloc (.cells #[.int .i64 xo,.string xt,.int .i64 xn] 107)).alloc (.cells #[.int .i64 xo,.string xt,.int .i64 xn] 107))):=((Below.refl _ w).alloc Zl _).alloc (by rw[World.size_alloc];omega) _;have HN1:Hid (q1u ((w.alloc (.cells #[.int .i64 xo,.string xt,.int .i64 xn] 107)).alloc (.cells #[.int .i64 xo,.string xt,.int .i64 xn] 107)) A xs):=HN.o.below HB1.o;simp only;go_in;go_wp2_with(at_builtin;refine z7w rfl _ _ rfl w.heap.size _ [⟨xo,xt,xn⟩] rfl HO.o A n xs HLN.o c rfl HN1.o HNL.o (1+n) rfl (by omega) (by simp only[World.size_alloc];omega) ?_);intro A2 c2 w2 hO2 hg2;have hb2:Below w w w2:=HB1.o.grown hg2 (by simp only[World.size_alloc];omega) (fun k hk=>(World.ownsRow.lt HO.o k hk).1);have HO2:Hid (q7k w.heap.size (.slice A2 (1+n) c2) (⟨xo,xt,xn⟩::xs) w2):=hO2;have HB2:Hid (Below w w w2):=hb2;clear hO2 hg2 hb2;go_wp2;go_ret;have e:(⟨xo,xt,xn⟩::xs:List Nd).length=1+n:=by rw[List.length_cons,HLN.o];omega
 exact⟨A2,c2,by rw[e];rfl,by rw[e];exact HO2.o,HB2.o⟩
theorem q0p{xs ys:List Nd}{v u:Value}(w:World)(hx:NdV w v xs)(hy:NdV w u ys)(hl:xs.length+ys.length<=100000):Calls prog 61 #[v,u] w fun e w'=>NdR w (⟨6,⟨#[]⟩,0⟩::(xs++ys)) e w':=by
 obtain⟨A,c,rfl,hN,hnil⟩:=hx;obtain⟨A',c',rfl,hM,hnil'⟩:=hy;have HN:Hid (q1u w A xs):=hN;have HM:Hid (q1u w A' ys):=hM;have HNL:Hid (A=none->xs.length=0/\c=0):=hnil;have HML:Hid (A'=none->ys.length=0/\c'=0):=hnil';clear hN hnil hM hnil';generalize hn:xs.length=n at hl HNL⊢;generalize hm:ys.length=m at hl HML⊢;have HLN:Hid (xs.length=n):=hn;have HLM:Hid (ys.length=m):=hm;clear hn hm;have HO:Hid (q7k w.heap.size (.slice (some ⟨w.heap.size,0,none⟩) 1 1) [⟨6,⟨#[]⟩,0⟩] (w.alloc (.cells #[.int .i64 6,.string ⟨#[]⟩,.int .i64 0] 107))):=q7k.one w ⟨6,⟨#[]⟩,0⟩;have HB1:Hid (Below w w (w.alloc (.cells #[.int .i64 6,.string ⟨#[]⟩,.int .i64 0] 107))):=(Below.refl _ w).alloc Zl _;have HN1:Hid (q1u (w.alloc (.cells #[.int .i64 6,.string ⟨#[]⟩,.int .i64 0] 107)) A xs):=HN.o.below HB1.o;go_in;go_wp2_with(at_builtin;refine z7w rfl _ _ rfl w.heap.size _ [⟨6,⟨#[]⟩,0⟩] rfl HO.o A n xs HLN.o c rfl HN1.o HNL.o (1+n) rfl (by omega) (by simp only[World.size_alloc];omega) ?_);intro A2 c2 w2 hO2 hg2;have hb2:Below w w w2:=HB1.o.grown hg2 (by simp only[World.size_alloc];omega) (fun k hk=>(World.ownsRow.lt HO.o k hk).1);have HO2:Hid (q7k w.heap.size (.slice A2 (1+n) c2) (⟨6,⟨#[]⟩,0⟩::xs) w2):=hO2;have HB2:Hid (Below w w w2):=hb2;have HM2:Hid (q1u w2 A' ys):=HM.o.below hb2;have hs2:=hb2.size
 have HL2:Hid ((⟨6,⟨#[]⟩,0⟩::xs:List Nd).length+m=1+n+m):=by
  show _=_;rw[List.length_cons,HLN.o];omega
 clear hO2 hg2 hb2 HO HB1 HN1;go_wp2_with(at_builtin;refine z7w rfl _ _ rfl w.heap.size _ (⟨6,⟨#[]⟩,0⟩::xs) rfl HO2.o A' m ys HLM.o c' rfl HM2.o HML.o (1+n+m) HL2.o (by omega) (by omega) ?_);intro A3 c3 w3 hO3 hg3;have hb3:Below w w w3:=HB2.o.grown hg3 (by omega) (fun k hk=>(World.ownsRow.lt HO2.o k hk).1);have HO3:Hid (q7k w.heap.size (.slice A3 (1+n+m) c3) (⟨6,⟨#[]⟩,0⟩::(xs++ys)) w3):=hO3;have HB3:Hid (Below w w w3):=hb3;clear hO3 hg3 hb3;go_wp2;go_ret;have e:(⟨6,⟨#[]⟩,0⟩::(xs++ys):List Nd).length=1+n+m:=by rw[List.length_cons,List.length_append,HLN.o,HLM.o];omega
 exact⟨A3,c3,by rw[e];rfl,by rw[e];exact HO3.o,HB3.o⟩
theorem q6e(c:UInt8)(w:World):Calls prog 53 #[.int .u8 (c.toNat:Int)] w fun e w'=>e=.returned (.bool (q2j c))/\w=w':=by
 by_cases h1:(97:Int)<=(c.toNat:Int)
 ·by_cases h2:(c.toNat:Int)<=122
  ·have HE:Hid (q2j c=true):=by show q2j c=true;simp[q2j];omega
   go_in;go_wp2;go_ret;exact⟨by rw[HE.o];rfl,rfl⟩
  ·have HE:Hid (q2j c=false):=by show q2j c=false;simp[q2j];omega
   go_in;go_wp2;go_ret;exact⟨by rw[HE.o];rfl,rfl⟩
 ·have HE:Hid (q2j c=false):=by show q2j c=false;simp[q2j];omega
  go_in;go_wp2;go_ret;exact⟨by rw[HE.o];rfl,rfl⟩
set_option maxHeartbeats 2000000
theorem k9u(x:Td)(w:World):Calls prog 54 #[tdV x] w fun e w'=>e=.returned (.int .i64 (kdZ x))/\Below w w w':=by
 obtain⟨op,tx,n⟩:=x;have hb:∀O:Obj,Below w w (w.alloc O):=fun O=>(Below.refl _ w).alloc Zl O
 by_cases h3:op=3
 ·subst h3;go_in;go_wp2;go_ret;exact⟨by simp[kdZ],hb _⟩
 by_cases h4:op=4
 ·subst h4;go_in;go_wp2;go_ret;exact⟨by simp[kdZ],hb _⟩
 by_cases h5:op=5
 ·subst h5;go_in;go_wp2;go_ret;exact⟨by simp[kdZ,kdT],hb _⟩
 by_cases h6:op=6
 ·subst h6;go_in;go_wp2;go_ret;exact⟨by simp[kdZ,kdT],hb _⟩
 by_cases h7:op=7
 ·subst h7;go_in;go_wp2;go_ret;exact⟨by simp[kdZ,kdT],hb _⟩
 by_cases h8:op=8
 ·subst h8;go_in;go_wp2;go_ret;exact⟨by simp[kdZ,kdT],hb _⟩
 have HE:Hid (kdZ ⟨op,tx,n⟩=0):=by show kdZ ⟨op,tx,n⟩=0;simp[kdZ,kdT,h3,h4,h5,h6,h7,h8]
 have g3:(op==3)=false:=by simp[h3]
 have g4:(op==4)=false:=by simp[h4]
 have g5:(op==5)=false:=by simp[h5]
 have g6:(op==6)=false:=by simp[h6]
 have g7:(op==7)=false:=by simp[h7]
 have g8:(op==8)=false:=by simp[h8]
 clear h3 h4 h5 h6 h7 h8;go_in;go_wp2;go_ret;exact⟨by rw[HE.o];rfl,hb _⟩
theorem z4r(ds:List Td)(a:Option Addr)(cap:Nat)(hl:ds.length<=400)(hk:∀x∈ds,q0t x=0):∀(f i:Nat)(w:World),Tds w a ds->ds.length-i<f->i<=1000->
  Calls prog 24 #[.slice a ds.length cap,.int .i64 i] w fun e w'=>e=.returned (.int .i64 (z8i (q3q ds i 1)))/\Below w w w':=by
 have HK:Hid (∀x∈ds,q0t x=0):=hk;clear hk;intro f
 induction f with
 | zero=>intro i w _ h;omega
 | succ f ih=>
  intro i w hN hf hi;have HN:Hid (Tds w a ds):=hN
  have IH:Hid (∀(i:Nat)(w:World),Tds w a ds->ds.length-i<f->i<=1000->
   Calls prog 24 #[.slice a ds.length cap,.int .i64 i] w fun e w'=>e=.returned (.int .i64 (z8i (q3q ds i 1)))/\Below w w w'):=ih
  clear hN ih;by_cases hlt:i<ds.length
  ·obtain⟨b,o,ea,hb,c1,c2,c3⟩:=HN.o i hlt;have HS:Hid (q3q ds i 1=q3q ds (i+1) (kdT ds[i])):=z3v _ _ 0 hlt;have hp:=v6w (HK.o _ (List.getElem_mem hlt));have HP:Hid (kdZ ds[i]=(kdT ds[i]:Int)):=v6x (HK.o _ (List.getElem_mem hlt));have hii:(i:Int)<(ds.length:Int):=by omega
   have hge:¬(ds.length:Int)<=(i:Int):=by omega
   subst ea;generalize ds[i]=x at c1 c2 c3 HS hp HP;generalize hpp:kdT x=p at HS hp HP;clear hpp;obtain⟨xo,xt,xn⟩:=x
   have HKD:Hid (∀W:World,Calls prog 54 #[.agg #[.int .i64 xo,.string xt,.int .i64 xn]] W fun e w'=>e=.returned (.int .i64 (p:Int))/\Below W W w'):=fun W=>by
    have:=k9u ⟨xo,xt,xn⟩ W
    rw[HP.o]at this;exact this
   clear HP;go_in;go_wp2_with fail;refine(HKD.o _).mono ?_;rintro e w1⟨rfl,b1⟩;go_wp2_with fail
   go_loopw [1,5] (fun z m wr=>Below w w wr/\∃q:Nat,q<=6/\m=.int .i64 q/\((∃k:Nat,i<k/\k<=ds.length/\z=.int .i64 k/\q3q ds i 1=q3q ds k q)\/(z=.int .i64 (-1)/\q3q ds i 1=none))) (fun _ m _=>(intOf m).toNat)
   case atStart=>exact⟨b1,p,hp,rfl,.inl ⟨i+1,by omega,by omega,by go_num,HS.o⟩⟩
   case round=>
    obtain⟨hbr,q,hq,rfl,⟨k,hk1,hk2,rfl,he⟩|⟨rfl,he⟩⟩:=hrel
    ·have HE:Hid (q3q ds i 1=q3q ds k q):=he;have HBR:Hid (Below w w wr):=hbr;clear he hbr;by_cases h0:q=0
     ·subst h0;have HE':Hid (q3q ds i 1=some k):=HE.o.trans (k0o _ _);go_wp2;go_ret;exact⟨by rw[HE'.o];rfl,HBR.o⟩
     ·obtain⟨q',rfl⟩:∃q',q=q'+1:=⟨q-1,by omega⟩;have HA:Hid (q3q ds i 1=(q3q ds k 1).bind fun j=>q3q ds j q'):=HE.o.trans (by rw[Nat.add_comm q' 1,v1v]);clear h0;go_wp2_with fail;refine(IH.o k _ (HN.o.below HBR.o) (by omega) (by omega)).mono ?_;rintro e w2⟨rfl,b2⟩;have HB2:Hid (Below w w w2):=q0d HBR.o Zl b2;clear b2;go_wp2
      go_roundw
      case rel=>
       refine⟨HB2.o,q',by omega,by go_num,?_⟩;cases hj:q3q ds k 1 with
       | none=>exact .inr ⟨rfl,by rw[HA.o,hj];rfl⟩
       | some j=>
        have hjb:=v9q hj;exact .inl ⟨j,by omega,by omega,rfl,by rw[HA.o,hj];rfl⟩
      case measure=>simp[intOf]
    ·have HE:Hid (q3q ds i 1=none):=he;have HBR:Hid (Below w w wr):=hbr;clear he hbr;by_cases h0:q=0
     ·subst h0;go_wp2;go_ret;exact⟨by rw[HE.o];rfl,HBR.o⟩
     ·go_wp2;go_ret;exact⟨by rw[HE.o];rfl,HBR.o⟩
  ·have HE:Hid (q3q ds i 1=none):=q8m _ _ _ (by omega);have hge:(ds.length:Int)<=(i:Int):=by omega
   go_in;go_wp2;go_ret;exact⟨by rw[HE.o];rfl,Below.refl _ _⟩
theorem v6n(d:Nat)(h:d<=9)(W:World):(Instr.slice 9 (.string ⟨#[48,49,50,51,52,53,54,55,56,57]⟩) (some (.int .i64 (d:Int))) (some (.int .i64 ((d:Int)+1))) none).run prog W=.ok (.string (wbS [UInt8.ofNat (48+d)])) W:=by
 rw[run_slice_string (P:=prog) (w:=W) 9 _ .i64 .i64 (d:Int) ((d:Int)+1) Tryz.underlying9 (by omega) (by omega) (by show(d:Int)+1<=10;omega)];have e:((d:Int)+1).toNat=d+1:=by omega
 rw[e,Int.toNat_natCast]
 match d,h with
 | 0,_=>rfl
 | 1,_=>rfl
 | 2,_=>rfl
 | 3,_=>rfl
 | 4,_=>rfl
 | 5,_=>rfl
 | 6,_=>rfl
 | 7,_=>rfl
 | 8,_=>rfl
 | 9,_=>rfl
theorem q1t(a b:List UInt8):wbS a++wbS b=wbS (a++b):=by
 apply ByteArray.ext;simp[wbS]
theorem k8m{n:Nat}(h:n<=9):q7l n=[UInt8.ofNat (48+n)]:=by rw[q7l,dif_pos h]
theorem v1s{n:Nat}(h:¬n<=9):q7l n=q7l (n / 10)++[UInt8.ofNat (48+n % 10)]:=by rw[q7l,dif_neg h]
theorem q2o(l:List UInt8):(wbS l).size=l.length:=by
 rw[<-q0c];rfl
theorem v4d(n:Nat)(hn:n<=999999)(w:World):Calls prog 58 #[.int .i64 (n:Int)] w fun e w'=>e=.returned (.string (wbS (q7l n)))/\w=w':=by
 have hl6:=z3a 5 n (by omega);go_in;go_wp2_with fail
 go_loopw [0,3] (fun x s wr=>wr=w/\∃(m:Nat)(t:List UInt8),x=.int .i64 (m:Int)/\s=.string (wbS t)/\m<=n/\q7l n=q7l m++t) (fun x _ _=>(intOf x).toNat)
 case atStart=>exact⟨rfl,n,[],rfl,rfl,Nat.le_refl _,by simp⟩
 case round=>
  obtain⟨rfl,m,t,rfl,rfl,hm,ht⟩:=hrel;have HT:Hid (q7l n=q7l m++t):=ht
  have htz:(wbS t).size<=100:=by
   have:=congrArg List.length ht
   rw[List.length_append]at this;rw[q2o];omega
  clear ht hl6;by_cases h9:m<=9
  ·have h9i:¬(9:Int)<(m:Int):=by omega
   have hr:=v6n m h9;have hdz:(wbS [UInt8.ofNat (48+m)]).size<=1:=by rw[q2o];exact Nat.le_refl _
   have HE:Hid (wbS [UInt8.ofNat (48+m)]++wbS t=wbS (q7l n)):=by
    show _=_;rw[HT.o,k8m h9,q1t]
   generalize wbS [UInt8.ofNat (48+m)]=dg at hr hdz HE;generalize wbS t=ts at htz HE;go_wp2;go_ret;exact⟨by rw[<-HE.o];rfl,rfl⟩
  ·have h9i:(9:Int)<(m:Int):=by omega
   have hr:=v6n (m % 10) (by omega);have e1:((m % 10:Nat):Int)=(m:Int) % 10:=by omega
   have e2:((m / 10:Nat):Int)=(m:Int) / 10:=by omega
   rw[e1]at hr;have hdz:(wbS [UInt8.ofNat (48+m % 10)]).size<=1:=by rw[q2o];exact Nat.le_refl _
   have HE:Hid (wbS [UInt8.ofNat (48+m % 10)]++wbS t=wbS ([UInt8.ofNat (48+m % 10)]++t)):=q1t _ _
   have HD:Hid (q7l n=q7l (m / 10)++([UInt8.ofNat (48+m % 10)]++t)):=by
    show _=_;rw[HT.o,v1s h9,List.append_assoc]
   have HQ:Hid (((m / 10:Nat):Int)=(m:Int) / 10):=e2;generalize wbS [UInt8.ofNat (48+m % 10)]=dg at hr hdz HE;generalize hts:wbS t=ts at htz HE;clear e1 e2 hts;go_wp2;exact⟨⟨by trivial,m / 10,_,by rw[HQ.o],by rw[HE.o],by omega,HD.o⟩,by simp[intOf];omega⟩
def y3m(p k:Int)(s:Bool):Bool:=(decide (p=6)&&decide (k=5))||(s&&(decide (p=5)||decide (p=6))&&decide (k=p))
theorem v8q(p x:Td)(s:Bool)(h:p.op=5\/p.op=6):y3m p.op x.op s=decide (prc x<(if p.op=5 then(if s then 1 else 0)else(if s then 2 else 1))):=by
 unfold y3m prc;rcases h with h|h<;>rw[h]<;>cases s<;>by_cases h5:x.op=5<;>by_cases h6:x.op=6<;>simp_all
theorem k9v(p x:Td)(s:Bool)(w:World):Calls prog 93 #[tdV p,tdV x,.bool s] w fun e w'=>e=.returned (.bool (y3m p.op x.op s))/\Below w w w':=by
 obtain⟨po,pt,pn⟩:=p;obtain⟨xo,xt,xn⟩:=x;unfold tdV;simp only;go_in;have HBW:Hid (∀o1 o2:Obj,Below w w ((w.alloc o1).alloc o2)):=fun o1 o2=>(Zb.alloc Zl _).alloc (by rw[World.size_alloc];omega) _
 go_wp2
 all_goals go_ret
 all_goals refine⟨?_,?_⟩
 all_goals first|exact HBW.o _ _|(simp_all[y3m];done)|(by_cases h5:xo=5<;>by_cases h6:xo=6<;>by_cases p5:po=5<;>by_cases p6:po=6<;>by_cases hx:xo=po<;>simp_all[y3m])
structure v8m(ds:List Td):Prop where
 l:ds.length<=40
 k:∀x∈ds,q0t x=0
def lvl(op:Int)(sec:Bool):Nat:=if op=5 then(if sec then 1 else 0)else(if sec then 2 else 1)
theorem k8v{ds:List Td}{p:Nat}{y:Td}{k n:Fo}{r:List Td}(h:ds.drop p=(Fo.cons y k n).nodes++r)(hok:(Fo.cons y k n).ok):
  ∃hp:p<ds.length,ds[p]=y/\ds.drop (p+1)=k.nodes++(n.nodes++r)/\q3q ds p 1=some (p+1+k.nodes.length)/\ds.drop (p+1+k.nodes.length)=n.nodes++r:=by
 have hp:p<ds.length:=by
  rcases Nat.lt_or_ge p ds.length with h'|h'
  ·exact h'
  ·rw[List.drop_eq_nil_of_le h',Fo.nodes]at h;cases h
 have h1:=h;rw[List.drop_eq_getElem_cons hp,Fo.nodes,List.cons_append,List.cons.injEq,List.append_assoc]at h1;refine⟨hp,h1.1,h1.2,?_,?_⟩
 ·have e:=j4d k hok.2.1 (n.nodes++r) 0;rw[q7q,Nat.add_zero,hok.1,<-h1.2]at e;rw[z3v ds p 0 hp,h1.1,q3q,Nat.add_zero (kdT y),e];rfl
 ·rw[<-List.drop_drop,h1.2,List.drop_left]
theorem k5y{ds:List Td}{a:Option Addr}{cap p:Nat}(hs:v8m ds){q:Nat}(h:q3q ds p 1=some q)(hp:p<ds.length)(W:World)(hN:Tds W a ds):
  Calls prog 24 #[.slice a ds.length cap,.int .i64 (p:Int)] W fun e w'=>e=.returned (.int .i64 (q:Int))/\Below W W w':=by
 have hl:=hs.l
 have:=z4r ds a cap (by omega) hs.k (ds.length+1) p W hN (by omega) (by omega)
 rw[h]at this;exact this
set_option maxHeartbeats 4000000
abbrev y2o(ds:List Td)(a:Option Addr)(cap i:Nat)(D:Tr)(W:World):Prop:=
 Calls prog 26 #[.slice a ds.length cap,.int .i64 (i:Int)] W fun e w'=>NdR W D.nodes e w'
theorem y4f{l:Nat}{x:Td}{D:Tr}(h:prc x<l):(inD l x D).nodes=⟨6,⟨#[]⟩,0⟩::([⟨1,⟨#[40]⟩,0⟩]++(⟨6,⟨#[]⟩,0⟩::(D.nodes++[⟨1,⟨#[41]⟩,0⟩]))):=by
 rw[inD,if_pos h];rfl
theorem y7q{l:Nat}{x:Td}{D:Tr}(h:¬prc x<l):(inD l x D).nodes=D.nodes:=by rw[inD,if_neg h]
theorem z6p{ds:List Td}{a:Option Addr}{cap p i:Nat}(W:World)(hN:Tds W a ds)(hp:p<ds.length)(hi:i<ds.length)(hop:ds[p].op=5\/ds[p].op=6)(sec:Bool)(D:Tr)(hz:D.nodes.length<=10000)(hT:y2o ds a cap i D W):
  Calls prog 59 #[.slice a ds.length cap,(p:Int),(i:Int),.bool sec] W fun e w'=>NdR W (inD (lvl ds[p].op sec) ds[i] D).nodes e w':=by
 have HN:=hid hN;have HT:=hid hT
 have HBD:Hid (∀W':World,Calls prog 93 #[tdV ds[p],tdV ds[i],.bool sec] W' fun e w'=>e=.returned (.bool (decide (prc ds[i]<lvl ds[p].op sec)))/\Below W' W' w'):=fun W'=>by
  have:=k9v ds[p] ds[i] sec W'
  rw[v8q _ _ _ hop]at this;exact this
 have hpi:(p:Int)<(ds.length:Int):=by omega
 have hii:(i:Int)<(ds.length:Int):=by omega
 have HY:Hid (prc ds[i]<lvl ds[p].op sec->(inD (lvl ds[p].op sec) ds[i] D).nodes=⟨6,⟨#[]⟩,0⟩::([⟨1,⟨#[40]⟩,0⟩]++(⟨6,⟨#[]⟩,0⟩::(D.nodes++[⟨1,⟨#[41]⟩,0⟩])))):=y4f;have HNO:Hid (¬prc ds[i]<lvl ds[p].op sec->(inD (lvl ds[p].op sec) ds[i] D).nodes=D.nodes):=y7q
 have HC:Hid (∀W',Below W W W'->∃b o,a=some ↑(b,o)/\b<W'.heap.size/\(W'.cell? ↑(b,o+p*3)=some (↑ds[p].op)/\W'.cell? ↑(b,o+p*3+1)=some (.string ds[p].tx)/\W'.cell? ↑(b,o+p*3+2)=some (↑ds[p].n))/\(W'.cell? ↑(b,o+i*3)=some (↑ds[i].op)/\W'.cell? ↑(b,o+i*3+1)=some (.string ds[i].tx)/\W'.cell? ↑(b,o+i*3+2)=some (↑ds[i].n))):=fun W' hb=>by
  obtain⟨bp,op,e1,hbp,p1,p2,p3⟩:=(HN.o.below hb) p hp;obtain⟨bi,oi,e2,hbi,i1,i2,i3⟩:=(HN.o.below hb) i hi;rw[e1]at e2;simp only[Option.some.injEq,Addr.mk.injEq,and_true]at e2;obtain⟨rfl,rfl⟩:=e2;exact⟨bp,op,e1,hbp,⟨p1,p2,p3⟩,⟨i1,i2,i3⟩⟩
 generalize(inD (lvl ds[p].op sec) ds[i] D).nodes=R at HY HNO⊢
 generalize hpl:lvl ds[p].op sec=l at HY HNO HBD;unfold y2o at HT;generalize D.nodes=xs at HY HNO HT hz;clear hN hT hop hpl HN;generalize ds[p]=xp at HC HBD;generalize ds[i]=xi at HC HBD HY HNO;generalize prc xi=pr at HY HNO HBD;obtain⟨po,pt,pn⟩:=xp;obtain⟨io,it,inn⟩:=xi;by_cases hb:pr<l
 ·have HR:=(show Hid (_=_)from HY.o hb);have HB1:=hid (decide_eq_true hb);clear hb HY HNO;go_in;go_wp2_with fail;refine HT.o.mono ?_;rintro e w1 hres;obtain⟨v1,rfl,hv1,b1⟩:=hres.val;have HV1:=hid hv1;obtain⟨bp,op,rfl,hlb,⟨p1,p2,p3⟩,i1,i2,i3⟩:=HC.o w1 b1;have HBD1:Hid (Calls prog 93 #[tdV ⟨po,pt,pn⟩,tdV ⟨io,it,inn⟩,.bool sec] w1.drew fun e w'=>e=.returned (.bool (decide (pr<l)))/\Below w1 w1 w'):=(HBD.o w1.drew).mono fun _ _ h=>⟨h.1,(Below.refl w1.heap.size w1).drew.trans h.2⟩
  have d1:w1.drew.cell? ↑(bp,op+p*3)=some ↑po:=p1;have d2:w1.drew.cell? ↑(bp,op+p*3+1)=some (.string pt):=p2;have d3:w1.drew.cell? ⟨bp,op+p*3+2,none⟩=some (.int .i64 pn):=p3;have d4:w1.drew.cell? ⟨bp,op+i*3,none⟩=some (.int .i64 io):=i1;have d5:w1.drew.cell? ⟨bp,op+i*3+1,none⟩=some (.string it):=i2;have d6:w1.drew.cell? ⟨bp,op+i*3+2,none⟩=some (.int .i64 inn):=i3;have HB1':=(show Hid (_)from b1);clear HC HBD HT b1 hv1 hres;go_wp2_with fail
  go_region_held3 (fun w'=>w'.cell? ⟨bp,op+p*3,none⟩=some (.int .i64 po)/\w'.cell? ⟨bp,op+p*3+1,none⟩=some (.string pt)/\w'.cell? ⟨bp,op+p*3+2,none⟩=some (.int .i64 pn)/\w'.cell? ⟨bp,op+i*3,none⟩=some (.int .i64 io)/\w'.cell? ⟨bp,op+i*3+1,none⟩=some (.string it)/\w'.cell? ⟨bp,op+i*3+2,none⟩=some (.int .i64 inn))
   (first|with_reducible exact⟨d1,d2,d3,d4,d5,d6⟩|with_reducible exact⟨p1,p2,p3,i1,i2,i3⟩|with_reducible exact⟨(hb2.cell (p:=⟨bp,_,none⟩) hlb).trans p1,(hb2.cell (p:=⟨bp,_,none⟩) hlb).trans p2,(hb2.cell (p:=⟨bp,_,none⟩) hlb).trans p3,(hb2.cell (p:=⟨bp,_,none⟩) hlb).trans i1,(hb2.cell (p:=⟨bp,_,none⟩) hlb).trans i2,(hb2.cell (p:=⟨bp,_,none⟩) hlb).trans i3⟩)
   ((go_at_call 93;refine HBD1.o.mono ?_;rintro e w2⟨rfl,hb2⟩;rw[HB1.o]))
  all_goals
   have HV2:=hid (HV1.o.below hb2);have HB2:=hid (q0d HB1'.o Zl hb2);clear hb2;go_wp2_with fail;refine(q1b _ _).mono ?_;rintro e w3 h3;obtain⟨v3,rfl,n3,b3⟩:=h3.val;have HB3:=hid (q0d HB2.o Zl b3);have HV3:=hid n3;have HD3:=hid (HV2.o.below b3);clear h3 n3 b3 HB2 HV2;go_wp2_with fail;refine(q1b _ _).mono ?_;rintro e w4 h4;obtain⟨v4,rfl,n4,b4⟩:=h4.val;have HB4:=hid (q0d HB3.o Zl b4);have HV4:=hid n4;have HD4:=hid (HD3.o.below b4);have HP4:=hid (HV3.o.below b4);clear h4 n4 b4 HB3 HV3 HD3;go_wp2_with fail;refine(q0p _ HD4.o HV4.o (by simp;omega)).mono ?_;rintro e w5 h5;obtain⟨v5,rfl,n5,b5⟩:=h5.val;have HB5:=hid (q0d HB4.o Zl b5);have HV5:=hid n5;have HP5:=hid (HP4.o.below b5);clear h5 n5 b5 HB4 HV4 HD4 HP4;go_wp2_with fail;refine(q0p _ HP5.o HV5.o (by simp;omega)).mono ?_;rintro e w6 h6
   have HR6:Hid (NdR W R e w6):=by
    show NdR W R e w6;rw[HR.o];exact h6.from HB5.o
   obtain⟨v6,rfl,_,_⟩:=h6.val;clear h6;go_wp2;go_ret;exact HR6.o
 ·have HR:=(show Hid (_=_)from HNO.o hb);have HB1:=hid (decide_eq_false hb);clear hb HY HNO;go_in;go_wp2_with fail;refine HT.o.mono ?_;rintro e w1 hres;have HRES:=hid hres;obtain⟨v1,rfl,hv1,b1⟩:=hres.val;have HV1:=hid hv1;obtain⟨bp,op,rfl,hlb,⟨p1,p2,p3⟩,i1,i2,i3⟩:=HC.o w1 b1;have HBD1:Hid (Calls prog 93 #[tdV ⟨po,pt,pn⟩,tdV ⟨io,it,inn⟩,.bool sec] w1.drew fun e w'=>e=.returned (.bool (decide (pr<l)))/\Below w1 w1 w'):=(HBD.o w1.drew).mono fun _ _ h=>⟨h.1,(Below.refl w1.heap.size w1).drew.trans h.2⟩
  have d1:w1.drew.cell? ↑(bp,op+p*3)=some ↑po:=p1;have d2:w1.drew.cell? ↑(bp,op+p*3+1)=some (.string pt):=p2;have d3:w1.drew.cell? ↑(bp,op+p*3+2)=some ↑pn:=p3;have d4:w1.drew.cell? ↑(bp,op+i*3)=some ↑io:=i1;have d5:w1.drew.cell? ↑(bp,op+i*3+1)=some (.string it):=i2;have d6:w1.drew.cell? ↑(bp,op+i*3+2)=some ↑inn:=i3;have HB1':=(show Hid (_)from b1);clear HC HBD HT b1 hv1 hres;go_wp2_with fail
  go_region_held3 (fun w'=>w'.cell? ⟨bp,op+p*3,none⟩=some (.int .i64 po)/\w'.cell? ⟨bp,op+p*3+1,none⟩=some (.string pt)/\w'.cell? ⟨bp,op+p*3+2,none⟩=some (.int .i64 pn)/\w'.cell? ⟨bp,op+i*3,none⟩=some (.int .i64 io)/\w'.cell? ⟨bp,op+i*3+1,none⟩=some (.string it)/\w'.cell? ⟨bp,op+i*3+2,none⟩=some (.int .i64 inn))
   (first|with_reducible exact⟨d1,d2,d3,d4,d5,d6⟩|with_reducible exact⟨p1,p2,p3,i1,i2,i3⟩|with_reducible exact⟨(hb2.cell (p:=⟨bp,_,none⟩) hlb).trans p1,(hb2.cell (p:=⟨bp,_,none⟩) hlb).trans p2,(hb2.cell (p:=⟨bp,_,none⟩) hlb).trans p3,(hb2.cell (p:=⟨bp,_,none⟩) hlb).trans i1,(hb2.cell (p:=⟨bp,_,none⟩) hlb).trans i2,(hb2.cell (p:=⟨bp,_,none⟩) hlb).trans i3⟩)
   ((go_at_call 93;refine HBD1.o.mono ?_;rintro e w2⟨rfl,hb2⟩;rw[HB1.o]))
  all_goals
   obtain⟨A9,c9,e9,o9,b9⟩:=HRES.o;have HRR:Hid (NdR W R (.returned v1) w2):=⟨A9,c9,by rw[HR.o];exact e9,by rw[HR.o];exact o9.kept fun g _ h=>hb2.block g h,q0d b9 Zl hb2⟩;clear hb2 o9 b9;go_wp2;go_ret;exact HRR.o
end Go.Proofs.YthjapabokcajhaaGreatDoor
