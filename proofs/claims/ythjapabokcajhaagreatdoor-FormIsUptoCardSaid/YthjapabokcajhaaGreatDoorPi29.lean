/- Texts as one: But, LyA, SyB, LexR. -/
import Derived.Test.YthjapabokcajhaaGreatDoorPi28
import Derived.Lib.AppendIntMem
import Derived.Lib.ItoaNum
open Go.Proofs.Tryz
namespace Go.Proofs.YthjapabokcajhaaGreatDoor
open Go Go.RowKit
structure But(B b:Nat)(w w':World):Prop where
 os:w'.os=w.os
 tape:w'.tape=w.tape
 output:w'.output=w.output
 size:w.heap.size<=w'.heap.size
 block:∀k,k<B->k≠b->w'.heap[k]?=w.heap[k]?
section
variable {B b:Nat} {w w' a:World}
theorem But.refl(B b:Nat)(w:World):But B b w w:=⟨rfl,rfl,rfl,Nat.le_refl _,fun _ _ _=>rfl⟩
theorem But.trans{c:World}(h:But B b a w)(k:But B b w c):But B b a c:=
 ⟨k.os.trans h.os,k.tape.trans h.tape,k.output.trans h.output,Nat.le_trans h.size k.size,fun i hi hb=>(k.block i hi hb).trans (h.block i hi hb)⟩
theorem But.drew(h:But B b a w):But B b a w.drew:=⟨h.os,h.tape,h.output,h.size,h.block⟩
theorem But.of(h:Below B w w'):But B b w w':=⟨h.os,h.tape,h.output,h.size,fun k hk _=>h.block k hk⟩
theorem But.below(h:But B b w w')(hB:B<=b):Below B w w':=⟨h.os,h.tape,h.output,h.size,fun k hk=>h.block k hk (by omega)⟩
theorem But.mono{B':Nat}(h:But B b w w')(hB:B'<=B):But B' b w w':=⟨h.os,h.tape,h.output,h.size,fun k hk=>h.block k (by omega)⟩
theorem But.alloc(h:But B b a w)(hB:B<=w.heap.size)(o:Obj):But B b a (w.alloc o):=
 h.trans (.of ((Below.refl B w).alloc hB o))
theorem But.setCell(h:But B b a w){p:Addr}(hp:p.block=b\/B<=p.block)(u:Value):But B b a (w.setCell p u):=
 h.trans ⟨rfl,rfl,rfl,by simp[World.setCell],fun k hk hb=>Below.heap_setCell _ _ _ _ (by omega)⟩
theorem But.grown{row:Option Nat}(h:But B b a w)(hg:w.grownBy w' row)(hB:B<=w.heap.size)(hr:∀k,row=some k->B<=k):But B b a w':=
 h.trans ⟨hg.os,hg.tape,hg.output,hg.size,fun k hk _=>hg.block k (by omega) (fun e=>by have:=hr k e.symm;omega)⟩
theorem But.cell(h:But B b w w'){p:Addr}(hp:p.block<B)(hb:p.block≠b):w'.cell? p=w.cell? p:=World.cell?_of_block (w:=w) (h.block p.block hp hb)
end
theorem But.low{B b:Nat}{w w':World}(h:But B b w w'){B':Nat}(hB:B'<=B)(hb:B'<=b):Below B' w w':=(h.mono hB).below hb
end Go.Proofs.YthjapabokcajhaaGreatDoor
namespace Go.Proofs.YthjapabokcajhaaGreatDoor
open Go Go.RowKit
set_option maxRecDepth 100000
set_option maxHeartbeats 2000000
theorem v0z(w:World)(o p:Obj):Below w w ((w.alloc o).alloc p):=((Below.refl _ w).alloc Zl o).alloc (by rw[World.size_alloc];omega) p
theorem z1t(w:World)(o p:Obj):((w.alloc o).alloc p).heap[w.heap.size]?=some o:=by
 have h1:((w.heap.push o).push p)[w.heap.size]?=some o:=by
  rw[Array.getElem?_push,if_neg (by simp),Array.getElem?_push,if_pos rfl]
 exact h1
theorem q9j(w:World)(o p:Obj):((w.alloc o).alloc p).heap[w.heap.size+1]?=some p:=by
 have h1:((w.heap.push o).push p)[w.heap.size+1]?=some p:=by
  rw[Array.getElem?_push,if_pos (by simp)]
 exact h1
abbrev ndO(x:Nd):Obj:=.cells #[.int .i64 x.op,.string x.tx,.int .i64 x.n] 107 (0,0)
theorem k7b{x:Nd}{W:World}{k:Nat}(h:W.heap[k]?=some (ndO x)):q1u W k [x]:=by
 intro i hi;have h0:i=0:=by simp at hi;exact hi
 subst h0;have hlt:k<W.heap.size:=(Array.getElem?_eq_some_iff.1 h).1;refine⟨k,0,rfl,hlt,?_,?_,?_⟩<;>rw[Lib.cell_of_heap h]<;>rfl
theorem v6m{x:Nd}{xs:List Nd}{A:Option Addr}{c:Nat}(w W:World)(hb:Below w w W)(h0:W.heap[w.heap.size]?=some (ndO x))(h1:W.heap[w.heap.size+1]?=some (.cells #[.slice w.heap.size 1 1,.slice A xs.length c] 49 (0,0)))
  (hN:q1u w A xs) (hnil:A=none->xs.length=0/\c=0) (hl:xs.length<=100000):
  Calls prog 182 #[.slice ↑(w.heap.size+1) 2 2] W fun e w'=>NdR w (x::xs) e w':=by
 have hlt:w.heap.size+1<W.heap.size:=(Array.getElem?_eq_some_iff.1 h1).1;have hcell:∀i,W.cell? ⟨w.heap.size+1,i,none⟩=#[Value.slice (some ⟨w.heap.size,0,none⟩) 1 1,.slice A xs.length c][i]?:=fun i=>by simp[World.cell?,h1]
 have hP:y2p W ↑(w.heap.size+1) [[x],xs]:=by
  intro i hi;have h3:i=0\/i=1:=by simp at hi;omega
  rcases h3 with rfl|rfl
  ·exact⟨w.heap.size+1,0,some ↑w.heap.size,1,rfl,hlt,hcell 0,k7b h0,fun e=>by cases e⟩
  ·exact⟨w.heap.size+1,0,A,c,rfl,hlt,hcell 1,hN.below hb,hnil⟩
 have hfl:[[x],xs].flatten=x::xs:=by simp
 have h9:=z4e [[x],xs] ↑(w.heap.size+1) 2 W hP (by rw[hfl];simp) (by rw[hfl,List.length_cons];omega) (by simp);rw[hfl]at h9;refine h9.mono ?_;rintro e w6⟨A6,c6,rfl,ho6,hb6⟩;exact⟨A6,c6,rfl,ho6.down hb.size,q0d hb Zl hb6⟩
theorem v1m{x:Nd}{xs ys:List Nd}{A A':Option Addr}{c c':Nat}(w W:World)(hb:Below w w W)(h0:W.heap[w.heap.size]?=some (ndO x))(h1:W.heap[w.heap.size+1]?=some (.cells #[.slice w.heap.size 1 1,.slice A xs.length c,.slice A' ys.length c'] 49 (0,0)))
  (hN:q1u w A xs) (hnil:A=none->xs.length=0/\c=0) (hM:q1u w A' ys) (hnil':A'=none->ys.length=0/\c'=0) (hl:xs.length+ys.length<=100000):
  Calls prog 182 #[.slice ↑(w.heap.size+1) 3 3] W fun e w'=>NdR w (x::(xs++ys)) e w':=by
 have hlt:w.heap.size+1<W.heap.size:=(Array.getElem?_eq_some_iff.1 h1).1;have hcell:∀i,W.cell? ⟨w.heap.size+1,i,none⟩=#[Value.slice (some ⟨w.heap.size,0,none⟩) 1 1,.slice A xs.length c,.slice A' ys.length c'][i]?:=fun i=>by simp[World.cell?,h1]
 have hP:y2p W ↑(w.heap.size+1) [[x],xs,ys]:=by
  intro i hi;have h3:i=0\/i=1\/i=2:=by simp at hi;omega
  rcases h3 with rfl|rfl|rfl
  ·exact⟨w.heap.size+1,0,some ↑w.heap.size,1,rfl,hlt,hcell 0,k7b h0,fun e=>by cases e⟩
  ·exact⟨w.heap.size+1,0,A,c,rfl,hlt,hcell 1,hN.below hb,hnil⟩
  ·exact⟨w.heap.size+1,0,A',c',rfl,hlt,hcell 2,hM.below hb,hnil'⟩
 have hfl:[[x],xs,ys].flatten=x::(xs++ys):=by simp
 have h9:=z4e [[x],xs,ys] ↑(w.heap.size+1) 3 W hP (by rw[hfl];simp) (by rw[hfl,List.length_cons,List.length_append];omega) (by simp);rw[hfl]at h9;refine h9.mono ?_;rintro e w6⟨A6,c6,rfl,ho6,hb6⟩;exact⟨A6,c6,rfl,ho6.down hb.size,q0d hb Zl hb6⟩
theorem q2e(s:ByteArray)(w:World):Calls prog 137 #[.string s] w fun e w'=>NdR w [⟨1,s,0⟩] e w':=by
 have HO:=(show Hid (_)from q7k.one w ⟨1,s,0⟩);have HB:Hid (∀O:Obj,Below w w (w.alloc O)):=fun O=>(Below.refl _ w).alloc Zl O
 go_in;go_wp2;go_ret;exact⟨_,1,rfl,HO.o,HB.o _⟩
theorem z1v(w:World):Calls prog 140 #[] w fun e w'=>NdR w [⟨2,⟨#[]⟩,0⟩] e w':=by
 have HO:=(show Hid (_)from q7k.one w ⟨2,⟨#[]⟩,0⟩);have HB:Hid (∀O:Obj,Below w w (w.alloc O)):=fun O=>(Below.refl _ w).alloc Zl O
 go_in;go_wp2;go_ret;exact⟨_,1,rfl,HO.o,HB.o _⟩
theorem k1n(w:World):Calls prog 208 #[] w fun e w'=>NdR w [⟨3,⟨#[]⟩,0⟩] e w':=by
 have HO:=(show Hid (_)from q7k.one w ⟨3,⟨#[]⟩,0⟩);have HB:Hid (∀O:Obj,Below w w (w.alloc O)):=fun O=>(Below.refl _ w).alloc Zl O
 go_in;go_wp2;go_ret;exact⟨_,1,rfl,HO.o,HB.o _⟩
theorem q9l{xs:List Nd}{v:Value}(w:World)(hx:NdV w v xs)(hl:xs.length<=100000):Calls prog 139 #[v] w fun e w'=>NdR w (⟨7,⟨#[]⟩,2⟩::xs) e w':=by
 obtain⟨A,c,rfl,hN,hnil⟩:=hx;have HC:=(show Hid (_)from fun W h1 h2 h3=>v6m (x:=⟨7,⟨#[]⟩,2⟩) (c:=c) w W h1 h2 h3 hN hnil hl);clear hN hnil hl;generalize xs.length=n at HC⊢;go_in;go_wp2_with fail;refine(HC.o _ (v0z w _ _) (z1t w _ _) (q9j w _ _)).mono ?_;rintro e w1 h1;have HR:=(show Hid (_)from h1);obtain⟨v1,rfl,_,_⟩:=h1.val;clear h1;go_wp2;go_ret;exact HR.o
theorem z1x{xs:List Nd}{v:Value}(w:World)(hx:NdV w v xs)(hl:xs.length<=100000):Calls prog 138 #[v] w fun e w'=>NdR w (⟨8,⟨#[]⟩,0⟩::xs) e w':=by
 obtain⟨A,c,rfl,hN,hnil⟩:=hx;have HC:=(show Hid (_)from fun W h1 h2 h3=>v6m (x:=⟨8,⟨#[]⟩,0⟩) (c:=c) w W h1 h2 h3 hN hnil hl);clear hN hnil hl;generalize xs.length=n at HC⊢;go_in;go_wp2_with fail;refine(HC.o _ (v0z w _ _) (z1t w _ _) (q9j w _ _)).mono ?_;rintro e w1 h1;have HR:=(show Hid (_)from h1);obtain⟨v1,rfl,_,_⟩:=h1.val;clear h1;go_wp2;go_ret;exact HR.o
theorem q1n{xs ys:List Nd}{v u:Value}(w:World)(hx:NdV w v xs)(hy:NdV w u ys)(hl:xs.length+ys.length<=100000):Calls prog 135 #[v,u] w fun e w'=>NdR w (⟨6,⟨#[]⟩,0⟩::(xs++ys)) e w':=by
 obtain⟨A,c,rfl,hN,hnil⟩:=hx;obtain⟨A',c',rfl,hM,hnil'⟩:=hy;have HC:=(show Hid (_)from fun W h1 h2 h3=>v1m (x:=⟨6,⟨#[]⟩,0⟩) (c:=c) (c':=c') w W h1 h2 h3 hN hnil hM hnil' hl);clear hN hnil hM hnil' hl;generalize xs.length=n at HC⊢;generalize ys.length=m at HC⊢;go_in;go_wp2_with fail;refine(HC.o _ (v0z w _ _) (z1t w _ _) (q9j w _ _)).mono ?_;rintro e w1 h1;have HR:=(show Hid (_)from h1);obtain⟨v1,rfl,_,_⟩:=h1.val;clear h1;go_wp2;go_ret;exact HR.o
structure Ly(w0:World)(b:Nat)(ds:List Td)(w:World)(A:Option Addr)(c:Nat):Prop where
 x:w.heap[b]?=some (.cells #[.slice A ds.length c] 144 (0,0))
 le:ds.length<=c
 td:Tds w0 A ds
 bl:Below w0 w0 w
 lt:w0.heap.size<=b
def LyE(w0:World)(b:Nat)(ds:List Td)(w:World):Prop:=∃A c,Ly w0 b ds w A c
theorem Ly.in{w0:World}{b:Nat}{ds:List Td}{w:World}{A:Option Addr}{c:Nat}(h:Ly w0 b ds w A c):b<w.heap.size:=(Array.getElem?_eq_some_iff.1 h.x).1
theorem LyE.grew{w0:World}{b:Nat}{ds:List Td}{w w':World}(h:LyE w0 b ds w)(hb:Below w w w'):LyE w0 b ds w':=by
 obtain⟨A,c,h⟩:=h;exact⟨A,c,(hb.block b h.in).trans h.x,h.le,h.td,q0d h.bl Zl hb,h.lt⟩
structure Lk(w0:World)(b:Nat)(w:World)(rest:List Td)(wk:World):Prop where
 bt:But w b w wk
 ly:LyE w0 b rest wk
 lt:b<w.heap.size
theorem Lk.step{w0:World}{b:Nat}{w:World}{rest:List Td}{wk w':World}(h:Lk w0 b w rest wk)(hb:Below wk wk w'):Lk w0 b w rest w':=
 ⟨h.bt.trans (But.of (hb.mono h.bt.size)),h.ly.grew hb,h.lt⟩
theorem Lk.in{w0:World}{b:Nat}{w:World}{rest:List Td}{wk:World}(h:Lk w0 b w rest wk):b<wk.heap.size:=Nat.lt_of_lt_of_le h.lt h.bt.size
def NdB(b:Nat)(w:World)(v:Value)(xs:List Nd):Prop:=∃A c B,v=.slice A xs.length c/\b<B/\q7k B (.slice A xs.length c) xs w
theorem NdB.but{b:Nat}{w w':World}{v:Value}{xs:List Nd}(h:NdB b w v xs)(hb:But w b w w'):NdB b w' v xs:=by
 obtain⟨A,c,B,e,hB,ho⟩:=h;exact⟨A,c,B,e,hB,ho.kept fun g h1 h2=>hb.block g h2 (by omega)⟩
theorem NdB.bel{b:Nat}{w w':World}{v:Value}{xs:List Nd}(h:NdB b w v xs)(hb:Below w w w'):NdB b w' v xs:=h.but (.of hb)
theorem NdB.val{b:Nat}{w:World}{v:Value}{xs:List Nd}(h:NdB b w v xs):NdV w v xs:=by
 obtain⟨A,c,B,rfl,hB,ho⟩:=h;exact ho.val
theorem NdR.valB{w:World}{xs:List Nd}{e:Ending}{w':World}{b:Nat}(h:NdR w xs e w')(hb:b<w.heap.size):∃v,e=.returned v/\NdB b w' v xs/\Below w w w':=by
 obtain⟨A,c,e,h1,h2⟩:=h;exact⟨_,e,⟨A,c,_,rfl,hb,h1⟩,h2⟩
def NdG(w0:World)(b:Nat)(w:World)(xs:List Nd)(rest:List Td)(e:Ending)(w':World):Prop:=∃A c,e=.returned (.slice A xs.length c)/\q7k w.heap.size (.slice A xs.length c) xs w'/\Lk w0 b w rest w'
theorem NdR.gof{w0:World}{b:Nat}{w wk:World}{xs:List Nd}{rest:List Td}{e:Ending}{w':World}(h:NdR wk xs e w')(hk:Lk w0 b w rest wk):NdG w0 b w xs rest e w':=by
 obtain⟨A,c,e,h1,h2⟩:=h;exact⟨A,c,e,h1.down hk.bt.size,hk.step h2⟩
theorem NdG.val{w0:World}{b:Nat}{w:World}{xs:List Nd}{rest:List Td}{e:Ending}{w':World}(h:NdG w0 b w xs rest e w'):∃v,e=.returned v/\NdB b w' v xs/\Lk w0 b w rest w':=by
 obtain⟨A,c,e,h1,h2⟩:=h;exact⟨_,e,⟨A,c,_,rfl,h2.lt,h1⟩,h2⟩
theorem Lk.then{w0:World}{b:Nat}{w wk w':World}{r1 r2:List Td}(h:Lk w0 b w r1 wk)(k:Lk w0 b wk r2 w'):Lk w0 b w r2 w':=⟨h.bt.trans (k.bt.mono h.bt.size),k.ly,h.lt⟩
theorem NdG.then{w0:World}{b:Nat}{w wk w':World}{r1 r2:List Td}{xs:List Nd}{e:Ending}(h:Lk w0 b w r1 wk)(k:NdG w0 b wk xs r2 e w'):NdG w0 b w xs r2 e w':=by
 obtain⟨A,c,e,h1,h2⟩:=k;exact⟨A,c,e,h1.down h.bt.size,h.then h2⟩
theorem v8r{w:World}{k:Nat}{a a':Value}{T:TypeId}(h:w.heap[k]?=some (.cells #[a] T (0,0))):(w.setCell k a').heap[k]?=some (.cells #[a'] T (0,0)):=by
 simp[World.setCell,Array.getElem?_modify,h]
theorem q4f{w0:World}{b:Nat}{x:Td}{ds:List Td}{w:World}(h:LyE w0 b (x::ds) w):
  Calls prog 134 #[.pointer b] w fun e w'=>e=.returned (tdV x)/\Lk w0 b w ds w':=by
 obtain⟨A,c,h⟩:=h;obtain⟨tb,tq,rfl,hlt,d0,d1,d2⟩:=h.td 0 (by simp);obtain⟨A',hsl,htd⟩:=y2a h.td h.le;simp only[List.getElem_cons_zero,Nat.zero_mul,Nat.add_zero]at d0 d1 d2;obtain⟨bc,_⟩:=q1v h.bl;have e0:w.cell? (tb,tq)=some ↑x.op:=(bc _ _ hlt).trans d0;have e1:w.cell? (tb,tq+1)=some (.string x.tx):=(bc _ _ hlt).trans d1;have e2:w.cell? (tb,tq+2)=some ↑x.n:=(bc _ _ hlt).trans d2;have hbw:b<w.heap.size:=h.in;have htw:tb<w.heap.size:=Nat.lt_of_lt_of_le hlt h.bl.size;have cR:w.cell? b=some (.slice (some ↑(tb,tq)) (x::ds).length c):=by rw[Lib.cell_of_heap h.x];rfl
 have fR:w.frozen? b=false:=Lib.frozen_of_heap h.x 0;have hne:¬tb=b:=by have:=h.lt;omega
 have H:=(show Hid (_)from h);have HT:Hid (Tds w0 A' ds):=htd;have hle:=h.le;generalize hn:(x::ds).length=n at cR hsl hle;have h1n:0<n:=by rw[<-hn];simp
 clear h htd d0 d1 d2 bc hn;generalize hm:ds.length=m at hsl;have HM:Hid (ds.length=m):=hm;clear hm;go_in;go_wp2;refine bodyPost_ret (v:=tdV x) (by simp[results,Tryz.results134,go_sem]) rfl ?_;have h:=H.o
 have hs:LyE w0 b ds (w.setCell b (.slice A' m (c-1))):=by
  refine⟨A',c-1,?_,?_,HT.o,h.bl.setCell (p:=b) h.lt _,h.lt⟩
  ·rw[HM.o];exact v8r h.x
  ·have:=h.le;simp only[List.length_cons]at this;omega
 have hk:Lk w0 b w ds (w.setCell b (.slice A' m (c-1))):=⟨(But.refl _ _ _).setCell (p:=b) (.inl rfl) _,hs,hbw⟩;exact⟨rfl,hk.step (v0z _ _ _)⟩
theorem v9k(n:Nat):Lib.decDigits n=q7l n:=by
 induction n using Nat.strongRecOn with
 | ind n ih=>
  rw[Lib.decDigits,q7l];by_cases h:n<10
  ·rw[dif_pos h,dif_pos (by omega)]
  ·rw[dif_neg h,dif_neg (by omega),ih (n / 10) (by omega)]
theorem v2s(n:Int)(h0:0<=n)(h1:n<=999999)(w:World)(ht:j1h w):Calls prog 131 #[.int .i64 n] w fun e w'=>e=.returned (.string (wbS (q7l n.toNat)))/\Below w w w':=by
 refine(itoa_sh n (by omega) (by omega) w ht).mono ?_;rintro e w'⟨rfl,k,os,rfl⟩;refine⟨?_,Lib.below_grow _ _ Zl _ _⟩;rw[Lib.itoa,if_neg (by omega),v9k];rfl
theorem q2c(c:UInt8)(w:World):Calls prog 73 #[.int .u8 (c.toNat:Int)] w fun e w'=>e=.returned (.bool (q1z c))/\w=w':=by
 by_cases h1:(48:Int)<=(c.toNat:Int)
 ·by_cases h2:(c.toNat:Int)<=57
  ·have HE:Hid (q1z c=true):=by show q1z c=true;simp[q1z];omega
   go_in;go_wp2;go_ret;exact⟨by rw[HE.o];rfl,rfl⟩
  ·have HE:Hid (q1z c=false):=by show q1z c=false;simp[q1z];omega
   go_in;go_wp2;go_ret;exact⟨by rw[HE.o];rfl,rfl⟩
 ·have HE:Hid (q1z c=false):=by show q1z c=false;simp[q1z];omega
  go_in;go_wp2;go_ret;exact⟨by rw[HE.o];rfl,rfl⟩
end Go.Proofs.YthjapabokcajhaaGreatDoor
