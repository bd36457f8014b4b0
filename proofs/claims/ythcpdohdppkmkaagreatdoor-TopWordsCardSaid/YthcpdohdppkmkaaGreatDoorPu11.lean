import Derived.Test.YthcpdohdppkmkaaGreatDoorPu10
open Go.Proofs.Tryz
namespace Go.Proofs.YthcpdohdppkmkaaGreatDoor
open Go Go.RowKit
def NdV(w:World)(v:Value)(xs:List Nd):Prop:=∃A c,v=.slice A xs.length c/\q3p w A xs/\(A=none->xs.length=0/\c=0)
theorem q9t.val{B:Nat}{w:World}{A:Option Addr}{c:Nat}{xs:List Nd}(h:q9t B (.slice A xs.length c) xs w):NdV w (.slice A xs.length c) xs:=⟨A,c,rfl,h.nods,h.none.2⟩
def NdR(w:World)(xs:List Nd)(e:Ending)(w':World):Prop:=∃A c,e=.returned (.slice A xs.length c)/\q9t w.heap.size (.slice A xs.length c) xs w'/\Below w w w'
theorem NdR.val{w:World}{xs:List Nd}{e:Ending}{w':World}(h:NdR w xs e w'):∃v,e=.returned v/\NdV w' v xs/\Below w w w':=by
 obtain⟨A,c,e,h1,h2⟩:=h;exact⟨_,e,h1.val,h2⟩
set_option maxRecDepth 100000
set_option maxHeartbeats 2000000
theorem j5p(w:World)(o p:Obj):Below w w ((w.alloc o).alloc p):=((Below.refl _ w).alloc Zl o).alloc (by rw[World.size_alloc];omega) p
theorem z2i(w:World)(o p:Obj):((w.alloc o).alloc p).heap[w.heap.size]?=some o:=by
 have h1:((w.heap.push o).push p)[w.heap.size]?=some o:=by
  rw[Array.getElem?_push,if_neg (by simp),Array.getElem?_push,if_pos rfl]
 exact h1
theorem q9i(w:World)(o p:Obj):((w.alloc o).alloc p).heap[w.heap.size+1]?=some p:=by
 have h1:((w.heap.push o).push p)[w.heap.size+1]?=some p:=by
  rw[Array.getElem?_push,if_pos (by simp)]
 exact h1
abbrev ndO(x:Nd):Obj:=.cells #[.int .i64 x.op,.string x.tx,.int .i64 x.n] 177 (0,0)
theorem j0v{x:Nd}{W:World}{k:Nat}(h:W.heap[k]?=some (ndO x)):q3p W (some ⟨k,0,none⟩) [x]:=by
 intro i hi;have h0:i=0:=by simp at hi;exact hi
 subst h0;have hlt:k<W.heap.size:=(Array.getElem?_eq_some_iff.1 h).1;refine⟨k,0,rfl,hlt,?_,?_,?_⟩<;>rw[Lib.cell_of_heap h]<;>rfl
theorem y1h{x:Nd}{xs:List Nd}{A:Option Addr}{c:Nat}(w W:World)(hb:Below w w W)(h0:W.heap[w.heap.size]?=some (ndO x))(h1:W.heap[w.heap.size+1]?=some (.cells #[.slice (some ⟨w,0,none⟩) 1 1,.slice A xs.length c] 53 (0,0)))
  (hN:q3p w A xs) (hnil:A=none->xs.length=0/\c=0) (hl:xs.length<=100000):
  Calls prog 213 #[.slice (some ⟨w.heap.size+1,0,none⟩) 2 2] W fun e w'=>NdR w (x::xs) e w':=by
 have hlt:w.heap.size+1<W.heap.size:=(Array.getElem?_eq_some_iff.1 h1).1;have hcell:∀i,W.cell? ⟨w.heap.size+1,i,none⟩=#[Value.slice (some ⟨w,0,none⟩) 1 1,.slice A xs.length c][i]?:=fun i=>by simp[World.cell?,h1]
 have hP:y3n W (some ⟨w.heap.size+1,0,none⟩) [[x],xs]:=by
  intro i hi;have h3:i=0\/i=1:=by simp at hi;omega
  rcases h3 with rfl|rfl
  ·exact⟨w.heap.size+1,0,some ⟨w,0,none⟩,1,rfl,hlt,hcell 0,j0v h0,fun e=>by cases e⟩
  ·exact⟨w.heap.size+1,0,A,c,rfl,hlt,hcell 1,hN.W hb,hnil⟩
 have hfl:[[x],xs].flatten=x::xs:=by simp
 have h9:=z5f [[x],xs] (some ⟨w.heap.size+1,0,none⟩) 2 W hP (by rw[hfl];simp) (by rw[hfl,List.length_cons];omega) (by simp);rw[hfl]at h9;refine h9.mono ?_;rintro e w6⟨A6,c6,rfl,ho6,hb6⟩;exact⟨A6,c6,rfl,ho6.down hb.size,q0c hb Zl hb6⟩
theorem v5r{x:Nd}{xs ys:List Nd}{A A':Option Addr}{c c':Nat}(w W:World)(hb:Below w w W)(h0:W.heap[w.heap.size]?=some (ndO x))(h1:W.heap[w.heap.size+1]?=some (.cells #[.slice (some ⟨w,0,none⟩) 1 1,.slice A xs.length c,.slice A' ys.length c'] 53 (0,0)))
  (hN:q3p w A xs) (hnil:A=none->xs.length=0/\c=0) (hM:q3p w A' ys) (hnil':A'=none->ys.length=0/\c'=0) (hl:xs.length+ys.length<=100000):
  Calls prog 213 #[.slice (some ⟨w.heap.size+1,0,none⟩) 3 3] W fun e w'=>NdR w (x::(xs++ys)) e w':=by
 have hlt:w.heap.size+1<W.heap.size:=(Array.getElem?_eq_some_iff.1 h1).1;have hcell:∀i,W.cell? ⟨w.heap.size+1,i,none⟩=#[Value.slice (some ⟨w,0,none⟩) 1 1,.slice A xs.length c,.slice A' ys.length c'][i]?:=fun i=>by simp[World.cell?,h1]
 have hP:y3n W (some ⟨w.heap.size+1,0,none⟩) [[x],xs,ys]:=by
  intro i hi;have h3:i=0\/i=1\/i=2:=by simp at hi;omega
  rcases h3 with rfl|rfl|rfl
  ·exact⟨w.heap.size+1,0,some ⟨w,0,none⟩,1,rfl,hlt,hcell 0,j0v h0,fun e=>by cases e⟩
  ·exact⟨w.heap.size+1,0,A,c,rfl,hlt,hcell 1,hN.W hb,hnil⟩
  ·exact⟨w.heap.size+1,0,A',c',rfl,hlt,hcell 2,hM.W hb,hnil'⟩
 have hfl:[[x],xs,ys].flatten=x::(xs++ys):=by simp
 have h9:=z5f [[x],xs,ys] (some ⟨w.heap.size+1,0,none⟩) 3 W hP (by rw[hfl];simp) (by rw[hfl,List.length_cons,List.length_append];omega) (by simp);rw[hfl]at h9;refine h9.mono ?_;rintro e w6⟨A6,c6,rfl,ho6,hb6⟩;exact⟨A6,c6,rfl,ho6.down hb.size,q0c hb Zl hb6⟩
theorem q1x(s:ByteArray)(w:World):Calls prog 172 #[.string s] w fun e w'=>NdR w [⟨1,s,0⟩] e w':=by
 have HO:=(show Hid (_)from q9t.one w ⟨1,s,0⟩);have HB:Hid (∀O:Obj,Below w w (w.alloc O)):=fun O=>(Below.refl _ w).alloc Zl O
 go_in;go_wp2;go_ret;exact⟨_,1,rfl,HO.o,HB.o _⟩
theorem z2l(w:World):Calls prog 175 #[] w fun e w'=>NdR w [⟨2,⟨#[]⟩,0⟩] e w':=by
 have HO:=(show Hid (_)from q9t.one w ⟨2,⟨#[]⟩,0⟩);have HB:Hid (∀O:Obj,Below w w (w.alloc O)):=fun O=>(Below.refl _ w).alloc Zl O
 go_in;go_wp2;go_ret;exact⟨_,1,rfl,HO.o,HB.o _⟩
theorem k3j(w:World):Calls prog 242 #[] w fun e w'=>NdR w [⟨3,⟨#[]⟩,0⟩] e w':=by
 have HO:=(show Hid (_)from q9t.one w ⟨3,⟨#[]⟩,0⟩);have HB:Hid (∀O:Obj,Below w w (w.alloc O)):=fun O=>(Below.refl _ w).alloc Zl O
 go_in;go_wp2;go_ret;exact⟨_,1,rfl,HO.o,HB.o _⟩
theorem q9k{xs:List Nd}{v:Value}(w:World)(hx:NdV w v xs)(hl:xs.length<=100000):Calls prog 174 #[v] w fun e w'=>NdR w (⟨7,⟨#[]⟩,2⟩::xs) e w':=by
 obtain⟨A,c,rfl,hN,hnil⟩:=hx;have HC:=(show Hid (_)from fun W h1 h2 h3=>y1h (x:=⟨7,⟨#[]⟩,2⟩) (c:=c) w W h1 h2 h3 hN hnil hl);clear hN hnil hl;generalize xs.length=n at HC⊢;go_in;go_wp2_with fail;refine(HC.o _ (j5p w _ _) (z2i w _ _) (q9i w _ _)).mono ?_;rintro e w1 h1;have HR:=(show Hid (_)from h1);obtain⟨v1,rfl,_,_⟩:=h1.val;clear h1;go_wp2;go_ret;exact HR.o
theorem z2m{xs:List Nd}{v:Value}(w:World)(hx:NdV w v xs)(hl:xs.length<=100000):Calls prog 173 #[v] w fun e w'=>NdR w (⟨8,⟨#[]⟩,0⟩::xs) e w':=by
 obtain⟨A,c,rfl,hN,hnil⟩:=hx;have HC:=(show Hid (_)from fun W h1 h2 h3=>y1h (x:=⟨8,⟨#[]⟩,0⟩) (c:=c) w W h1 h2 h3 hN hnil hl);clear hN hnil hl;generalize xs.length=n at HC⊢;go_in;go_wp2_with fail;refine(HC.o _ (j5p w _ _) (z2i w _ _) (q9i w _ _)).mono ?_;rintro e w1 h1;have HR:=(show Hid (_)from h1);obtain⟨v1,rfl,_,_⟩:=h1.val;clear h1;go_wp2;go_ret;exact HR.o
theorem q1e{xs ys:List Nd}{v u:Value}(w:World)(hx:NdV w v xs)(hy:NdV w u ys)(hl:xs.length+ys.length<=100000):Calls prog 170 #[v,u] w fun e w'=>NdR w (⟨6,⟨#[]⟩,0⟩::(xs++ys)) e w':=by
 obtain⟨A,c,rfl,hN,hnil⟩:=hx;obtain⟨A',c',rfl,hM,hnil'⟩:=hy;have HC:=(show Hid (_)from fun W h1 h2 h3=>v5r (x:=⟨6,⟨#[]⟩,0⟩) (c:=c) (c':=c') w W h1 h2 h3 hN hnil hM hnil' hl);clear hN hnil hM hnil' hl;generalize xs.length=n at HC⊢;generalize ys.length=m at HC⊢;go_in;go_wp2_with fail;refine(HC.o _ (j5p w _ _) (z2i w _ _) (q9i w _ _)).mono ?_;rintro e w1 h1;have HR:=(show Hid (_)from h1);obtain⟨v1,rfl,_,_⟩:=h1.val;clear h1;go_wp2;go_ret;exact HR.o
structure Ly(w0:World)(b:Nat)(ds:List Td)(w:World)(A:Option Addr)(c:Nat):Prop where
 x:w.heap[b]?=some (.cells #[.slice A ds.length c] 175 (0,0))
 le:ds.length<=c
 td:Tds w0 A ds
 bl:Below w0 w0 w
 lt:w0.heap.size<=b
def LyE(w0:World)(b:Nat)(ds:List Td)(w:World):Prop:=∃A c,Ly w0 b ds w A c
theorem Ly.in{w0:World}{b:Nat}{ds:List Td}{w:World}{A:Option Addr}{c:Nat}(h:Ly w0 b ds w A c):b<w.heap.size:=(Array.getElem?_eq_some_iff.1 h.x).1
theorem LyE.grew{w0:World}{b:Nat}{ds:List Td}{w w':World}(h:LyE w0 b ds w)(hb:Below w w w'):LyE w0 b ds w':=by
 obtain⟨A,c,h⟩:=h;exact⟨A,c,(hb.block b h.in).trans h.x,h.le,h.td,q0c h.bl Zl hb,h.lt⟩
structure Lk(w0:World)(b:Nat)(w:World)(rest:List Td)(wk:World):Prop where
 bt:But w b w wk
 ly:LyE w0 b rest wk
 lt:b<w.heap.size
theorem Lk.step{w0:World}{b:Nat}{w:World}{rest:List Td}{wk w':World}(h:Lk w0 b w rest wk)(hb:Below wk wk w'):Lk w0 b w rest w':=
 ⟨h.bt.trans (But.of (hb.mono h.bt.size)),h.ly.grew hb,h.lt⟩
theorem Lk.in{w0:World}{b:Nat}{w:World}{rest:List Td}{wk:World}(h:Lk w0 b w rest wk):b<wk.heap.size:=Nat.lt_of_lt_of_le h.lt h.bt.size
def NdB(b:Nat)(w:World)(v:Value)(xs:List Nd):Prop:=∃A c B,v=.slice A xs.length c/\b<B/\q9t B (.slice A xs.length c) xs w
theorem NdB.but{b:Nat}{w w':World}{v:Value}{xs:List Nd}(h:NdB b w v xs)(hb:But w b w w'):NdB b w' v xs:=by
 obtain⟨A,c,B,e,hB,ho⟩:=h;exact⟨A,c,B,e,hB,ho.kept fun g h1 h2=>hb.block g h2 (by omega)⟩
theorem NdB.bel{b:Nat}{w w':World}{v:Value}{xs:List Nd}(h:NdB b w v xs)(hb:Below w w w'):NdB b w' v xs:=h.but (.of hb)
theorem NdB.val{b:Nat}{w:World}{v:Value}{xs:List Nd}(h:NdB b w v xs):NdV w v xs:=by
 obtain⟨A,c,B,rfl,hB,ho⟩:=h;exact ho.val
theorem NdR.valB{w:World}{xs:List Nd}{e:Ending}{w':World}{b:Nat}(h:NdR w xs e w')(hb:b<w.heap.size):∃v,e=.returned v/\NdB b w' v xs/\Below w w w':=by
 obtain⟨A,c,e,h1,h2⟩:=h;exact⟨_,e,⟨A,c,_,rfl,hb,h1⟩,h2⟩
def NdG(w0:World)(b:Nat)(w:World)(xs:List Nd)(rest:List Td)(e:Ending)(w':World):Prop:=∃A c,e=.returned (.slice A xs.length c)/\q9t w.heap.size (.slice A xs.length c) xs w'/\Lk w0 b w rest w'
theorem NdR.gof{w0:World}{b:Nat}{w wk:World}{xs:List Nd}{rest:List Td}{e:Ending}{w':World}(h:NdR wk xs e w')(hk:Lk w0 b w rest wk):NdG w0 b w xs rest e w':=by
 obtain⟨A,c,e,h1,h2⟩:=h;exact⟨A,c,e,h1.down hk.bt.size,hk.step h2⟩
theorem NdG.val{w0:World}{b:Nat}{w:World}{xs:List Nd}{rest:List Td}{e:Ending}{w':World}(h:NdG w0 b w xs rest e w'):∃v,e=.returned v/\NdB b w' v xs/\Lk w0 b w rest w':=by
 obtain⟨A,c,e,h1,h2⟩:=h;exact⟨_,e,⟨A,c,_,rfl,h2.lt,h1⟩,h2⟩
theorem Lk.then{w0:World}{b:Nat}{w wk w':World}{r1 r2:List Td}(h:Lk w0 b w r1 wk)(k:Lk w0 b wk r2 w'):Lk w0 b w r2 w':=⟨h.bt.trans (k.bt.mono h.bt.size),k.ly,h.lt⟩
theorem NdG.then{w0:World}{b:Nat}{w wk w':World}{r1 r2:List Td}{xs:List Nd}{e:Ending}(h:Lk w0 b w r1 wk)(k:NdG w0 b wk xs r2 e w'):NdG w0 b w xs r2 e w':=by
 obtain⟨A,c,e,h1,h2⟩:=k;exact⟨A,c,e,h1.down h.bt.size,h.then h2⟩
theorem y3x{w:World}{k:Nat}{a a':Value}{T:TypeId}(h:w.heap[k]?=some (.cells #[a] T (0,0))):(w.setCell ⟨k,0,none⟩ a').heap[k]?=some (.cells #[a'] T (0,0)):=by
 simp[World.setCell,Array.getElem?_modify,h]
theorem q4e{w0:World}{b:Nat}{x:Td}{ds:List Td}{w:World}(h:LyE w0 b (x::ds) w):
  Calls prog 169 #[.pointer (some ⟨b,0,none⟩)] w fun e w'=>e=.returned (tdV x)/\Lk w0 b w ds w':=by
 obtain⟨A,c,h⟩:=h;obtain⟨tb,tq,rfl,hlt,d0,d1,d2⟩:=h.td 0 (by simp);obtain⟨A',hsl,htd⟩:=v2y h.td h.le;simp only[List.getElem_cons_zero,Nat.zero_mul,Nat.add_zero]at d0 d1 d2;obtain⟨bc,_⟩:=q1c h.bl;have e0:w.cell? ⟨tb,tq,none⟩=some (.int .i64 x.op):=(bc _ _ hlt).trans d0;have e1:w.cell? ⟨tb,tq+1,none⟩=some (.string x.tx):=(bc _ _ hlt).trans d1;have e2:w.cell? ⟨tb,tq+2,none⟩=some (.int .i64 x.n):=(bc _ _ hlt).trans d2;have hbw:b<w.heap.size:=h.in;have htw:tb<w.heap.size:=Nat.lt_of_lt_of_le hlt h.bl.size;have cR:w.cell? ⟨b,0,none⟩=some (.slice (some ⟨tb,tq,none⟩) (x::ds).length c):=by rw[Lib.cell_of_heap h.x];rfl
 have fR:w.frozen? ⟨b,0,none⟩=false:=Lib.frozen_of_heap h.x 0;have hne:¬tb=b:=by have:=h.lt;omega
 have H:=(show Hid (_)from h);have HT:Hid (Tds w0 A' ds):=htd;have hle:=h.le;generalize hn:(x::ds).length=n at cR hsl hle;have h1n:0<n:=by rw[<-hn];simp
 clear h htd d0 d1 d2 bc hn;generalize hm:ds.length=m at hsl;have HM:Hid (ds.length=m):=hm;clear hm;go_in;go_wp2;refine bodyPost_ret (v:=tdV x) (by simp[results,Tryz.results169,go_sem]) rfl ?_;have h:=H.o
 have hs:LyE w0 b ds (w.setCell ⟨b,0,none⟩ (.slice A' m (c-1))):=by
  refine⟨A',c-1,?_,?_,HT.o,h.bl.setCell (p:=⟨b,0,none⟩) h.lt _,h.lt⟩
  ·rw[HM.o];exact y3x h.x
  ·have:=h.le;simp only[List.length_cons]at this;omega
 have hk:Lk w0 b w ds (w.setCell ⟨b,0,none⟩ (.slice A' m (c-1))):=⟨(But.refl _ _ _).setCell (p:=⟨b,0,none⟩) (.inl rfl) _,hs,hbw⟩;exact⟨rfl,hk.step (j5p _ _ _)⟩
end Go.Proofs.YthcpdohdppkmkaaGreatDoor
