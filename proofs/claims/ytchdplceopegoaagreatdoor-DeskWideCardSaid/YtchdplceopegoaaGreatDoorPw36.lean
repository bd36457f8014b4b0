/- Texts as one: LayD, LyA, SyB, LexR, LexS, LexT. -/
import Derived.Test.YtchdplceopegoaaGreatDoorPw35
import Derived.Lib.AppendIntMem
import Derived.Lib.ItoaNum
import Derived.Deep.CutBlock
namespace Go.Proofs.YtchdplceopegoaaGreatDoor
open Go Go.RowKit
def NdV (w:World) (v:Value) (xs:List Nd):Prop:=∃ A c,v = .slice A xs.length c∧q2s w A xs∧(A=none→xs.length=0∧c=0)
theorem q7t.val {B:Nat} {w:World} {A:Option Addr} {c:Nat} {xs:List Nd} (h:q7t B (.slice A xs.length c) xs w):NdV w (.slice A xs.length c) xs:=⟨A,c,rfl,h.nods,h.none.2⟩
def NdR (w:World) (xs:List Nd) (e:Ending) (w':World):Prop:=∃ A c,e = .returned (.slice A xs.length c)∧q7t w.heap.size (.slice A xs.length c) xs w'∧Below w.heap.size w w'
theorem NdR.val {w:World} {xs:List Nd} {e:Ending} {w':World} (h:NdR w xs e w'):∃ v,e = .returned v∧NdV w' v xs∧Below w.heap.size w w':=by
 obtain ⟨A,c,e,h1,h2⟩:=h
 exact ⟨_,e,h1.val,h2⟩
set_option maxRecDepth 100000
set_option maxHeartbeats 2000000
theorem k7i (w:World) (o p:Obj):Below w.heap.size w ((w.alloc o).alloc p):=((Below.refl _ w).alloc (Nat.le_refl _) o).alloc (by rw [World.size_alloc];omega) p
theorem q9t (w:World) (o p:Obj):((w.alloc o).alloc p).heap[w.heap.size]? = some o:=by
 have h1:((w.heap.push o).push p)[w.heap.size]? = some o:=by
  rw [Array.getElem?_push,if_neg (by simp),Array.getElem?_push,if_pos rfl]
 exact h1
theorem q7j (w:World) (o p:Obj):((w.alloc o).alloc p).heap[w.heap.size+1]? = some p:=by
 have h1:((w.heap.push o).push p)[w.heap.size+1]? = some p:=by
  rw [Array.getElem?_push,if_pos (by simp)]
 exact h1
abbrev ndO (x:Nd):Obj:=.cells #[.int .i64 x.op,.string x.tx,.int .i64 x.n] 131 (0,0)
theorem k3i {x:Nd} {W:World} {k:Nat} (h:W.heap[k]? = some (ndO x)):q2s W (some ⟨k,0,none⟩) [x]:=by
 intro i hi
 have h0:i=0:=by simp at hi;exact hi
 subst h0
 have hlt:k<W.heap.size:=(Array.getElem?_eq_some_iff.1 h).1
 refine ⟨k,0,rfl,hlt,?_,?_,?_⟩<;>rw [Lib.cell_of_heap h]<;>rfl
theorem v0c {x:Nd} {xs:List Nd} {A:Option Addr} {c:Nat} (w W:World) (hb:Below w.heap.size w W) (h0:W.heap[w.heap.size]? = some (ndO x)) (h1:W.heap[w.heap.size+1]? = some (.cells #[.slice (some ⟨w.heap.size,0,none⟩) 1 1,.slice A xs.length c] 91 (0,0)))
  (hN:q2s w A xs) (hnil:A=none→xs.length=0∧c=0) (hl:xs.length≤100000) :
  Calls Tryz.prog 218 #[.slice (some ⟨w.heap.size+1,0,none⟩) 2 2] W fun e w'=>NdR w (x::xs) e w':=by
 have hlt:w.heap.size+1<W.heap.size:=(Array.getElem?_eq_some_iff.1 h1).1
 have hcell:∀ i,W.cell? ⟨w.heap.size+1,i,none⟩=#[Value.slice (some ⟨w.heap.size,0,none⟩) 1 1,.slice A xs.length c][i]?:=fun i=>by simp [World.cell?,h1]
 have hP:v1r W (some ⟨w.heap.size+1,0,none⟩) [[x],xs]:=by
  intro i hi
  have h3:i=0∨i=1:=by simp at hi;omega
  rcases h3 with rfl | rfl
  ·exact ⟨w.heap.size+1,0,some ⟨w.heap.size,0,none⟩,1,rfl,hlt,hcell 0,k3i h0,fun e=>by cases e⟩
  ·exact ⟨w.heap.size+1,0,A,c,rfl,hlt,hcell 1,hN.below hb,hnil⟩
 have hfl:[[x],xs].flatten=x::xs:=by simp
 have h9:=z2f [[x],xs] (some ⟨w.heap.size+1,0,none⟩) 2 W hP (by rw [hfl];simp) (by rw [hfl,List.length_cons];omega) (by simp)
 rw [hfl] at h9
 refine h9.mono ?_
 rintro e w6 ⟨A6,c6,rfl,ho6,hb6⟩
 exact ⟨A6,c6,rfl,ho6.down hb.size,q0h hb (Nat.le_refl _) hb6⟩
theorem j5t {x:Nd} {xs ys:List Nd} {A A':Option Addr} {c c':Nat} (w W:World) (hb:Below w.heap.size w W) (h0:W.heap[w.heap.size]? = some (ndO x)) (h1:W.heap[w.heap.size+1]? = some (.cells #[.slice (some ⟨w.heap.size,0,none⟩) 1 1,.slice A xs.length c,.slice A' ys.length c'] 91 (0,0)))
  (hN:q2s w A xs) (hnil:A=none→xs.length=0∧c=0) (hM:q2s w A' ys) (hnil':A'=none→ys.length=0∧c'=0) (hl:xs.length+ys.length≤100000) :
  Calls Tryz.prog 218 #[.slice (some ⟨w.heap.size+1,0,none⟩) 3 3] W fun e w'=>NdR w (x::(xs++ys)) e w':=by
 have hlt:w.heap.size+1<W.heap.size:=(Array.getElem?_eq_some_iff.1 h1).1
 have hcell:∀ i,W.cell? ⟨w.heap.size+1,i,none⟩=#[Value.slice (some ⟨w.heap.size,0,none⟩) 1 1,.slice A xs.length c,.slice A' ys.length c'][i]?:=fun i=>by simp [World.cell?,h1]
 have hP:v1r W (some ⟨w.heap.size+1,0,none⟩) [[x],xs,ys]:=by
  intro i hi
  have h3:i=0∨i=1∨i=2:=by simp at hi;omega
  rcases h3 with rfl | rfl | rfl
  ·exact ⟨w.heap.size+1,0,some ⟨w.heap.size,0,none⟩,1,rfl,hlt,hcell 0,k3i h0,fun e=>by cases e⟩
  ·exact ⟨w.heap.size+1,0,A,c,rfl,hlt,hcell 1,hN.below hb,hnil⟩
  ·exact ⟨w.heap.size+1,0,A',c',rfl,hlt,hcell 2,hM.below hb,hnil'⟩
 have hfl:[[x],xs,ys].flatten=x::(xs++ys):=by simp
 have h9:=z2f [[x],xs,ys] (some ⟨w.heap.size+1,0,none⟩) 3 W hP (by rw [hfl];simp) (by rw [hfl,List.length_cons,List.length_append];omega) (by simp)
 rw [hfl] at h9
 refine h9.mono ?_
 rintro e w6 ⟨A6,c6,rfl,ho6,hb6⟩
 exact ⟨A6,c6,rfl,ho6.down hb.size,q0h hb (Nat.le_refl _) hb6⟩
theorem q1p (s:ByteArray) (w:World):Calls Tryz.prog 186 #[.string s] w fun e w'=>NdR w [⟨1,s,0⟩] e w':=by
 have HO:=(show Hid (_) from q7t.one w ⟨1,s,0⟩)
 have HB:Hid (∀ O:Obj,Below w.heap.size w (w.alloc O)):=fun O=>(Below.refl _ w).alloc (Nat.le_refl _) O
 go_enter Tryz.func186,Tryz.ntmps186
 go_wp2
 go_ret
 exact ⟨_,1,rfl,HO.out,HB.out _⟩
theorem q9w (w:World):Calls Tryz.prog 189 #[] w fun e w'=>NdR w [⟨2,⟨#[]⟩,0⟩] e w':=by
 have HO:=(show Hid (_) from q7t.one w ⟨2,⟨#[]⟩,0⟩)
 have HB:Hid (∀ O:Obj,Below w.heap.size w (w.alloc O)):=fun O=>(Below.refl _ w).alloc (Nat.le_refl _) O
 go_enter Tryz.func189,Tryz.ntmps189
 go_wp2
 go_ret
 exact ⟨_,1,rfl,HO.out,HB.out _⟩
theorem z8i (w:World):Calls Tryz.prog 239 #[] w fun e w'=>NdR w [⟨3,⟨#[]⟩,0⟩] e w':=by
 have HO:=(show Hid (_) from q7t.one w ⟨3,⟨#[]⟩,0⟩)
 have HB:Hid (∀ O:Obj,Below w.heap.size w (w.alloc O)):=fun O=>(Below.refl _ w).alloc (Nat.le_refl _) O
 go_enter Tryz.func239,Tryz.ntmps239
 go_wp2
 go_ret
 exact ⟨_,1,rfl,HO.out,HB.out _⟩
theorem q7k {xs:List Nd} {v:Value} (w:World) (hx:NdV w v xs) (hl:xs.length≤100000):Calls Tryz.prog 188 #[v] w fun e w'=>NdR w (⟨7,⟨#[]⟩,2⟩::xs) e w':=by
 obtain ⟨A,c,rfl,hN,hnil⟩:=hx
 have HC:=(show Hid (_) from fun W h1 h2 h3=>v0c (x:=⟨7,⟨#[]⟩,2⟩) (c:=c) w W h1 h2 h3 hN hnil hl)
 clear hN hnil hl
 generalize xs.length=n at HC ⊢
 go_enter Tryz.func188,Tryz.ntmps188
 go_wp2_with fail
 refine (HC.out _ (k7i w _ _) (q9t w _ _) (q7j w _ _)).mono ?_
 rintro e w1 h1
 have HR:=(show Hid (_) from h1)
 obtain ⟨v1,rfl,_,_⟩:=h1.val
 clear h1
 go_wp2
 go_ret
 exact HR.out
theorem q9x {xs:List Nd} {v:Value} (w:World) (hx:NdV w v xs) (hl:xs.length≤100000):Calls Tryz.prog 187 #[v] w fun e w'=>NdR w (⟨8,⟨#[]⟩,0⟩::xs) e w':=by
 obtain ⟨A,c,rfl,hN,hnil⟩:=hx
 have HC:=(show Hid (_) from fun W h1 h2 h3=>v0c (x:=⟨8,⟨#[]⟩,0⟩) (c:=c) w W h1 h2 h3 hN hnil hl)
 clear hN hnil hl
 generalize xs.length=n at HC ⊢
 go_enter Tryz.func187,Tryz.ntmps187
 go_wp2_with fail
 refine (HC.out _ (k7i w _ _) (q9t w _ _) (q7j w _ _)).mono ?_
 rintro e w1 h1
 have HR:=(show Hid (_) from h1)
 obtain ⟨v1,rfl,_,_⟩:=h1.val
 clear h1
 go_wp2
 go_ret
 exact HR.out
theorem q0y {xs ys:List Nd} {v u:Value} (w:World) (hx:NdV w v xs) (hy:NdV w u ys) (hl:xs.length+ys.length≤100000):Calls Tryz.prog 184 #[v,u] w fun e w'=>NdR w (⟨6,⟨#[]⟩,0⟩::(xs++ys)) e w':=by
 obtain ⟨A,c,rfl,hN,hnil⟩:=hx
 obtain ⟨A',c',rfl,hM,hnil'⟩:=hy
 have HC:=(show Hid (_) from fun W h1 h2 h3=>j5t (x:=⟨6,⟨#[]⟩,0⟩) (c:=c) (c':=c') w W h1 h2 h3 hN hnil hM hnil' hl)
 clear hN hnil hM hnil' hl
 generalize xs.length=n at HC ⊢
 generalize ys.length=m at HC ⊢
 go_enter Tryz.func184,Tryz.ntmps184
 go_wp2_with fail
 refine (HC.out _ (k7i w _ _) (q9t w _ _) (q7j w _ _)).mono ?_
 rintro e w1 h1
 have HR:=(show Hid (_) from h1)
 obtain ⟨v1,rfl,_,_⟩:=h1.val
 clear h1
 go_wp2
 go_ret
 exact HR.out
structure Ly (w0:World) (b:Nat) (ds:List Td) (w:World) (A:Option Addr) (c:Nat):Prop where
 x:w.heap[b]? = some (.cells #[.slice A ds.length c] 243 (0,0))
 le:ds.length≤c
 td:Tds w0 A ds
 bl:Below w0.heap.size w0 w
 lt:w0.heap.size≤b
def LyE (w0:World) (b:Nat) (ds:List Td) (w:World):Prop:=∃ A c,Ly w0 b ds w A c
theorem Ly.in {w0:World} {b:Nat} {ds:List Td} {w:World} {A:Option Addr} {c:Nat} (h:Ly w0 b ds w A c):b<w.heap.size:=(Array.getElem?_eq_some_iff.1 h.x).1
theorem LyE.grew {w0:World} {b:Nat} {ds:List Td} {w w':World} (h:LyE w0 b ds w) (hb:Below w.heap.size w w'):LyE w0 b ds w':=by
 obtain ⟨A,c,h⟩:=h
 exact ⟨A,c,(hb.block b h.in).trans h.x,h.le,h.td,q0h h.bl (Nat.le_refl _) hb,h.lt⟩
structure Lk (w0:World) (b:Nat) (w:World) (rest:List Td) (wk:World):Prop where
 bt:But w.heap.size b w wk
 ly:LyE w0 b rest wk
 lt:b<w.heap.size
theorem Lk.step {w0:World} {b:Nat} {w:World} {rest:List Td} {wk w':World} (h:Lk w0 b w rest wk) (hb:Below wk.heap.size wk w'):Lk w0 b w rest w':=
 ⟨h.bt.trans (But.of (hb.mono h.bt.size)),h.ly.grew hb,h.lt⟩
theorem Lk.in {w0:World} {b:Nat} {w:World} {rest:List Td} {wk:World} (h:Lk w0 b w rest wk):b<wk.heap.size:=Nat.lt_of_lt_of_le h.lt h.bt.size
def NdB (b:Nat) (w:World) (v:Value) (xs:List Nd):Prop:=∃ A c B,v = .slice A xs.length c∧b<B∧q7t B (.slice A xs.length c) xs w
theorem NdB.but {b:Nat} {w w':World} {v:Value} {xs:List Nd} (h:NdB b w v xs) (hb:But w.heap.size b w w'):NdB b w' v xs:=by
 obtain ⟨A,c,B,e,hB,ho⟩:=h
 exact ⟨A,c,B,e,hB,ho.kept fun g h1 h2=>hb.block g h2 (by omega)⟩
theorem NdB.bel {b:Nat} {w w':World} {v:Value} {xs:List Nd} (h:NdB b w v xs) (hb:Below w.heap.size w w'):NdB b w' v xs:=h.but (.of hb)
theorem NdB.val {b:Nat} {w:World} {v:Value} {xs:List Nd} (h:NdB b w v xs):NdV w v xs:=by
 obtain ⟨A,c,B,rfl,hB,ho⟩:=h
 exact ho.val
theorem NdR.valB {w:World} {xs:List Nd} {e:Ending} {w':World} {b:Nat} (h:NdR w xs e w') (hb:b<w.heap.size):∃ v,e = .returned v∧NdB b w' v xs∧Below w.heap.size w w':=by
 obtain ⟨A,c,e,h1,h2⟩:=h
 exact ⟨_,e,⟨A,c,_,rfl,hb,h1⟩,h2⟩
def NdG (w0:World) (b:Nat) (w:World) (xs:List Nd) (rest:List Td) (e:Ending) (w':World):Prop:=∃ A c,e = .returned (.slice A xs.length c)∧q7t w.heap.size (.slice A xs.length c) xs w'∧Lk w0 b w rest w'
theorem NdR.gof {w0:World} {b:Nat} {w wk:World} {xs:List Nd} {rest:List Td} {e:Ending} {w':World} (h:NdR wk xs e w') (hk:Lk w0 b w rest wk):NdG w0 b w xs rest e w':=by
 obtain ⟨A,c,e,h1,h2⟩:=h
 exact ⟨A,c,e,h1.down hk.bt.size,hk.step h2⟩
theorem NdG.val {w0:World} {b:Nat} {w:World} {xs:List Nd} {rest:List Td} {e:Ending} {w':World} (h:NdG w0 b w xs rest e w'):∃ v,e = .returned v∧NdB b w' v xs∧Lk w0 b w rest w':=by
 obtain ⟨A,c,e,h1,h2⟩:=h
 exact ⟨_,e,⟨A,c,_,rfl,h2.lt,h1⟩,h2⟩
theorem Lk.then {w0:World} {b:Nat} {w wk w':World} {r1 r2:List Td} (h:Lk w0 b w r1 wk) (k:Lk w0 b wk r2 w'):Lk w0 b w r2 w':=⟨h.bt.trans (k.bt.mono h.bt.size),k.ly,h.lt⟩
theorem NdG.then {w0:World} {b:Nat} {w wk w':World} {r1 r2:List Td} {xs:List Nd} {e:Ending} (h:Lk w0 b w r1 wk) (k:NdG w0 b wk xs r2 e w'):NdG w0 b w xs r2 e w':=by
 obtain ⟨A,c,e,h1,h2⟩:=k
 exact ⟨A,c,e,h1.down h.bt.size,h.then h2⟩
theorem v2d {w:World} {k:Nat} {a a':Value} {T:TypeId} (h:w.heap[k]? = some (.cells #[a] T (0,0))):(w.setCell ⟨k,0,none⟩ a').heap[k]? = some (.cells #[a'] T (0,0)):=by
 simp [World.setCell,Array.getElem?_modify,h]
theorem q3d {w0:World} {b:Nat} {x:Td} {ds:List Td} {w:World} (h:LyE w0 b (x::ds) w) :
  Calls Tryz.prog 183 #[.pointer (some ⟨b,0,none⟩)] w fun e w'=>e = .returned (tdV x)∧Lk w0 b w ds w':=by
 obtain ⟨A,c,h⟩:=h
 obtain ⟨tb,tq,rfl,hlt,d0,d1,d2⟩:=h.td 0 (by simp)
 obtain ⟨A',hsl,htd⟩:=j3h h.td h.le
 simp only [List.getElem_cons_zero,Nat.zero_mul,Nat.add_zero] at d0 d1 d2
 obtain ⟨bc,_⟩:=q0v h.bl
 have e0:w.cell? ⟨tb,tq,none⟩=some (.int .i64 x.op):=(bc _ _ hlt).trans d0
 have e1:w.cell? ⟨tb,tq+1,none⟩=some (.string x.tx):=(bc _ _ hlt).trans d1
 have e2:w.cell? ⟨tb,tq+2,none⟩=some (.int .i64 x.n):=(bc _ _ hlt).trans d2
 have hbw:b<w.heap.size:=h.in
 have htw:tb<w.heap.size:=Nat.lt_of_lt_of_le hlt h.bl.size
 have cR:w.cell? ⟨b,0,none⟩=some (.slice (some ⟨tb,tq,none⟩) (x::ds).length c):=by rw [Lib.cell_of_heap h.x];rfl
 have fR:w.frozen? ⟨b,0,none⟩=false:=Lib.frozen_of_heap h.x 0
 have hne:¬ tb=b:=by have:=h.lt;omega
 have H:=(show Hid (_) from h)
 have HT:Hid (Tds w0 A' ds):=htd
 have hle:=h.le
 generalize hn:(x::ds).length=n at cR hsl hle
 have h1n:0<n:=by rw [←hn];simp
 clear h htd d0 d1 d2 bc hn
 generalize hm:ds.length=m at hsl
 have HM:Hid (ds.length=m):=hm
 clear hm
 go_enter Tryz.func183,Tryz.ntmps183
 go_wp2
 refine bodyPost_ret (v:=tdV x) (by simp [results,Tryz.results183,go_sem]) rfl ?_
 have h:=H.out
 have hs:LyE w0 b ds (w.setCell ⟨b,0,none⟩ (.slice A' m (c - 1))):=by
  refine ⟨A',c - 1,?_,?_,HT.out,h.bl.setCell (p:=⟨b,0,none⟩) h.lt _,h.lt⟩
  ·rw [HM.out];exact v2d h.x
  ·have:=h.le;simp only [List.length_cons] at this;omega
 have hk:Lk w0 b w ds (w.setCell ⟨b,0,none⟩ (.slice A' m (c - 1))):=⟨(But.refl _ _ _).setCell (p:=⟨b,0,none⟩) (.inl rfl) _,hs,hbw⟩
 exact ⟨rfl,hk.step (k7i _ _ _)⟩
theorem v2t (n:Nat):Lib.decDigits n=q4m n:=by
 induction n using Nat.strongRecOn with
 | ind n ih=>
  rw [Lib.decDigits,q4m]
  by_cases h:n<10
  ·rw [dif_pos h,dif_pos (by omega)]
  ·rw [dif_neg h,dif_neg (by omega),ih (n / 10) (by omega)]
theorem k2u (n:Int) (h0:0≤n) (h1:n≤999999) (w:World) (ht:z4r w):Calls Tryz.prog 168 #[.int .i64 n] w fun e w'=>e = .returned (.string (wbS (q4m n.toNat)))∧Below w.heap.size w w':=by
 refine (itoa_sh n (by omega) (by omega) w ht).mono ?_
 rintro e w' ⟨rfl,k,os,rfl⟩
 refine ⟨?_,Lib.below_grow _ _ (Nat.le_refl _) _ _⟩
 rw [Lib.itoa,if_neg (by omega),v2t];rfl
abbrev ExC (w0:World) (b:Nat) (x:Td) (k:Fo):Prop:=∀ (bs:List UInt8) (rest:List Td) (w:World),bs.length+(q2r x k.trs).length≤500000→WyE w0 b bs (x::(k.nodes++rest)) w→
 Calls Tryz.prog 136 #[.pointer (some ⟨b,0,none⟩)] w fun e w'=>e = .returned (.tuple #[])∧WyE w0 b (bs++q2r x k.trs) rest w'
def v1o (w0:World) (b:Nat):Fo→Prop
 | .nil=>True
 | .cons x k n=>ExC w0 b x k∧v1o w0 b n
theorem j9d {w0:World} {b:Nat} (ht:z4r w0) (n:Int) (h0:0≤n) (h9:n≤999999) (tx:ByteArray):ExC w0 b ⟨1,tx,n⟩ .nil:=by
 intro bs rest w hl hW
 obtain ⟨A,c,h⟩:=hW
 have HN:Hid (Calls Tryz.prog 134 #[.pointer (some ⟨b,0,none⟩)] w fun e w'=>e = .returned (tdV ⟨1,tx,n⟩)∧WyE w0 b bs rest w'):=q4a h
 have HL:Hid (q2r ⟨1,tx,n⟩ Fo.nil.trs=q4m n.toNat):=rfl
 rw [HL.out] at hl ⊢
 have HT:Hid (z4r w0):=ht
 clear h ht
 go_enter Tryz.func136,Tryz.ntmps136
 go_wp2_with fail
 refine HN.out.mono ?_
 rintro e w1 ⟨rfl,A1,c1,h1⟩
 have HI:Hid (∀ W:World,Below w1.heap.size w1 W→Calls Tryz.prog 168 #[.int .i64 n] W fun e w'=>e = .returned (.string (wbS (q4m n.toNat)))∧Below W.heap.size W w'):=fun W hb=>k2u n h0 h9 W ((HT.out.below h1.bl).below hb)
 have HS:Hid (∀ W:World,Below w1.heap.size w1 W→Calls Tryz.prog 33 #[.pointer (some ⟨b,0,none⟩),.string (wbS (q4m n.toNat))] W fun e w'=>(∃ z,e = .returned (.tuple #[z,.nilIface]))∧WyE w0 b (bs++q4m n.toNat) rest w'):=fun W hb=>by
  refine (q4b (h1.grew hb) (wbS (q4m n.toNat)) (by omega) (by rw [←q0b,y1c];omega)).mono ?_
  rintro e w' ⟨rfl,h,_⟩
  exact ⟨⟨_,rfl⟩,_,_,h⟩
 generalize wbS (q4m n.toNat)=S at HI HS
 clear h1 HN
 go_wp2_with fail
 go_region_with (first | (go_at_call 168;refine (HI.out _ (z0r w1 _)).mono ?_;rintro e w2 ⟨rfl,b2⟩) | (go_at_call 33;refine (HS.out _ (q0h (z0r w1 _) (Nat.le_refl _) b2)).mono ?_;rintro e w3 ⟨⟨z,rfl⟩,h3⟩))
 all_goals
  go_wp2
  go_end0
  exact ⟨rfl,h3⟩
theorem j4b {w0:World} {b:Nat} (tx:ByteArray) (n:Int):ExC w0 b ⟨2,tx,n⟩ .nil:=by
 intro bs rest w hl hW
 obtain ⟨A,c,h⟩:=hW
 have HN:Hid (Calls Tryz.prog 134 #[.pointer (some ⟨b,0,none⟩)] w fun e w'=>e = .returned (tdV ⟨2,tx,n⟩)∧WyE w0 b bs rest w'):=q4a h
 have HL:Hid (q2r ⟨2,tx,n⟩ Fo.nil.trs=btL tx):=rfl
 rw [HL.out] at hl ⊢
 clear h
 go_enter Tryz.func136,Tryz.ntmps136
 go_wp2_with fail
 refine HN.out.mono ?_
 rintro e w1 ⟨rfl,A1,c1,h1⟩
 have HS:Hid (∀ W:World,Below w1.heap.size w1 W→Calls Tryz.prog 33 #[.pointer (some ⟨b,0,none⟩),.string tx] W fun e w'=>(∃ z,e = .returned (.tuple #[z,.nilIface]))∧WyE w0 b (bs++btL tx) rest w'):=fun W hb=>by
  refine (q4b (h1.grew hb) tx (by omega) (by rw [←q0b];omega)).mono ?_
  rintro e w' ⟨rfl,h,_⟩
  exact ⟨⟨_,rfl⟩,_,_,h⟩
 clear h1 HN
 go_wp2_with fail
 go_region_with (go_at_call 33;refine (HS.out _ (z0r w1 _)).mono ?_;rintro e w3 ⟨⟨z,rfl⟩,h3⟩)
 all_goals
  go_wp2
  go_end0
  exact ⟨rfl,h3⟩
abbrev KdC (w0:World) (b:Nat) (F:Fo) (o z:UInt8):Prop:=∀ (bs:List UInt8) (rest:List Td) (w:World),bs.length+(cmx F.trs).length+2≤500000→WyE w0 b bs (F.nodes++rest) w→
 Calls Tryz.prog 169 #[.pointer (some ⟨b,0,none⟩),.int .i64 (F.len:Int),.int .u8 (o.toNat:Int),.int .u8 (z.toNat:Int)] w fun e w'=>e = .returned (.tuple #[])∧WyE w0 b (bs++o::(cmx F.trs++[z])) rest w'
theorem j4a {w0:World} {b:Nat} {F:Fo} (tx:ByteArray) (hK:KdC w0 b F 91 93):ExC w0 b ⟨4,tx,(F.len:Int)⟩ F:=by
 intro bs rest w hl hW
 obtain ⟨A,c,h⟩:=hW
 have HN:Hid (Calls Tryz.prog 134 #[.pointer (some ⟨b,0,none⟩)] w fun e w'=>e = .returned (tdV ⟨4,tx,(F.len:Int)⟩)∧WyE w0 b bs (F.nodes++rest) w'):=q4a h
 have HL:Hid (q2r ⟨4,tx,(F.len:Int)⟩ F.trs=91::(cmx F.trs++[93])):=rfl
 rw [HL.out] at hl ⊢
 have HK:Hid (KdC w0 b F 91 93):=hK
 clear h hK
 simp only [List.length_cons,List.length_append,List.length_nil] at hl
 go_enter Tryz.func136,Tryz.ntmps136
 go_wp2_with fail
 refine HN.out.mono ?_
 rintro e w1 ⟨rfl,A1,c1,h1⟩
 have HS:Hid (∀ W:World,Below w1.heap.size w1 W→Calls Tryz.prog 169 #[.pointer (some ⟨b,0,none⟩),.int .i64 (F.len:Int),.int .u8 91,.int .u8 93] W fun e w'=>e = .returned (.tuple #[])∧WyE w0 b (bs++91::(cmx F.trs++[93])) rest w'):=fun W hb=>HK.out bs rest W (by omega) ⟨_,_,h1.grew hb⟩
 clear h1 HN HK
 go_wp2_with fail
 refine (HS.out _ (q1j w1 _)).mono ?_
 rintro e w3 ⟨rfl,h3⟩
 go_wp2
 go_end0
 exact ⟨rfl,h3⟩
theorem j3z {w0:World} {b:Nat} {F:Fo} (tx:ByteArray) (hK:KdC w0 b F 40 41):ExC w0 b ⟨3,tx,(F.len:Int)⟩ F:=by
 intro bs rest w hl hW
 obtain ⟨A,c,h⟩:=hW
 have HN:Hid (Calls Tryz.prog 134 #[.pointer (some ⟨b,0,none⟩)] w fun e w'=>e = .returned (tdV ⟨3,tx,(F.len:Int)⟩)∧WyE w0 b bs (F.nodes++rest) w'):=q4a h
 have HL:Hid (q2r ⟨3,tx,(F.len:Int)⟩ F.trs=btL tx++40::(cmx F.trs++[41])):=rfl
 rw [HL.out] at hl ⊢
 have HK:Hid (KdC w0 b F 40 41):=hK
 clear h hK
 simp only [List.length_cons,List.length_append,List.length_nil] at hl
 go_enter Tryz.func136,Tryz.ntmps136
 go_wp2_with fail
 refine HN.out.mono ?_
 rintro e w1 ⟨rfl,A1,c1,h1⟩
 have HS:Hid (∀ W:World,Below w1.heap.size w1 W→Calls Tryz.prog 33 #[.pointer (some ⟨b,0,none⟩),.string tx] W fun e w'=>(∃ z,e = .returned (.tuple #[z,.nilIface]))∧WyE w0 b (bs++btL tx) (F.nodes++rest) w'∧Lib.OthersKept 5 (some b) W w'):=fun W hb=>by
  refine (q4b (h1.grew hb) tx (by omega) (by rw [←q0b];omega)).mono ?_
  rintro e w' ⟨rfl,h,hk⟩
  exact ⟨⟨_,rfl⟩,⟨_,_,h⟩,hk⟩
 have HS2:Hid (∀ W:World,WyE w0 b (bs++btL tx) (F.nodes++rest) W→Calls Tryz.prog 169 #[.pointer (some ⟨b,0,none⟩),.int .i64 (F.len:Int),.int .u8 40,.int .u8 41] W fun e w'=>e = .returned (.tuple #[])∧WyE w0 b ((bs++btL tx)++40::(cmx F.trs++[41])) rest w'):=fun W hW=>HK.out _ rest W (by rw [List.length_append];omega) hW
 have hbw:b<w1.heap.size:=h1.x.lt
 clear h1 HN HK
 generalize F.len=fn at HS2 HL ⊢
 go_wp2_with fail
 go_region_with (go_at_call 33;refine (HS.out _ (z0r w1 _)).mono ?_;rintro e w3 ⟨⟨z,rfl⟩,h3,hk3⟩)
 all_goals
  have hbox:w3.heap[w1.heap.size]? = some (.cells #[.int .i64 3,.string tx,.int .i64 (fn:Int)] 71 (0,0)):=hk3 _ _ (heap_alloc_new w1 _) (by simp;omega) (fun c fz e=>by cases e)
  have hn2:w3.cell? ⟨w1.heap.size,2,none⟩=some (.int .i64 (fn:Int)):=by rw [Lib.cell_of_heap hbox];rfl
  clear hbox hk3
  go_wp2_with fail
  refine (HS2.out _ h3).mono ?_
  rintro e w4 ⟨rfl,h4⟩
  go_wp2
  go_end0
  rw [List.append_assoc] at h4
  exact ⟨rfl,h4⟩
structure q3n (s:ByteArray) (w:World) (i:Nat) (dn:List (Nat × List UInt8)) (A P:Option Addr) (ac pc:Nat) (wr:World):Prop where
 b:Below w.heap.size w wr
 le:i≤s.size
 ln:dn.length≤i
 eq:lx (btL s) 0=(dn++lxW ((btL s).drop i) i,lxF ((btL s).drop i) i)
 ws:wr.ownsRow w.heap.size 9 1 (.slice A dn.length ac) dn.length (strCells (dn.map fun x=>wbS x.2))
 ps:wr.ownsRow w.heap.size 3 1 (.slice P dn.length pc) dn.length (q1u (dn.map (·.1)))
theorem q3n.space {s:ByteArray} {w:World} {i:Nat} {dn:List (Nat × List UInt8)} {A P:Option Addr} {ac pc:Nat} {wr:World} (h:q3n s w i dn A P ac pc wr) (hi:i<s.size) (hs:spB s[i]=true):q3n s w (i+1) dn A P ac pc wr:=by
 have e:=h.eq
 rw [q1s hi,lxW,lxF,z8k _ _ hs] at e
 exact { b:=h.b,le:=hi,ln:=by have:=h.ln;omega,eq:=e,ws:=h.ws,ps:=h.ps }
theorem j0n {s:ByteArray} {w:World} {i:Nat} {dn:List (Nat × List UInt8)} {A P:Option Addr} {ac pc:Nat} {wr:World} (h:q3n s w i dn A P ac pc wr) (hi:i<s.size) (hs:spB s[i]=false) (ho:tOk s i=false):lxF (btL s) 0=some i:=by
 have e:=h.eq
 rw [tOk,q1s hi] at ho
 rw [q1s hi,lxW,lxF,k3b _ hs ho] at e
 rw [lxF,e]
theorem q3n.word {s:ByteArray} {w:World} {i:Nat} {dn:List (Nat × List UInt8)} {A P:Option Addr} {ac pc:Nat} {wr:World} (h:q3n s w i dn A P ac pc wr) (hi:i<s.size) (hs:spB s[i]=false) (ho:tOk s i=true) {A' P':Option Addr} {ac' pc':Nat} {w':World} (hb:Below w.heap.size w w')
  (h1:w'.ownsRow w.heap.size 9 1 (.slice A' (dn.length+1) ac') (dn.length+1) (strCells (dn.map fun x=>wbS x.2)++[.string (wbS (tkW ((btL s).drop i)))])) (h2:w'.ownsRow w.heap.size 3 1 (.slice P' (dn.length+1) pc') (dn.length+1) (q1u (dn.map (·.1))++[.int .i64 (i:Int)])) :
  q3n s w (i+j3c s i) (dn++[(i,tkW ((btL s).drop i))]) A' P' ac' pc' w':=by
 have e:=h.eq
 have hle:=y2u hi
 have hd:((btL s).drop i).drop (j3c s i)=(btL s).drop (i+j3c s i):=by rw [List.drop_drop]
 have ho':q4g (s[i]::(btL s).drop (i+1))=true:=by rw [←q1s hi];exact ho
 have e2:lx ((btL s).drop i) i=((i,tkW ((btL s).drop i))::lxW ((btL s).drop (i+j3c s i)) (i+j3c s i),lxF ((btL s).drop (i+j3c s i)) (i+j3c s i)):=by
  rw [←hd,j3c,q1s hi]
  exact z4b i hs ho'
 rw [lxW,lxF,e2] at e
 refine { b:=hb,le:=hle.2,ln:=by have:=h.ln;simp;omega,eq:=by rw [e];simp,ws:=?_,ps:=?_ }
 ·rw [List.length_append,List.map_append,q3e]
  exact h1
 ·rw [List.length_append,List.map_append,z0l]
  exact h2
theorem j6w {L:List UInt8} {k:Nat} (h:L.length≤60000) (hf:lxF L 0=some k):q6t L=5∧z8b L=k:=by
 have e:q6t L=5:=by rw [q6t,if_neg (by omega),hf];rfl
 exact ⟨e,by rw [z8b,if_pos e,hf];rfl⟩
theorem j0l {L:List UInt8} (h:L.length≤60000) (hf:lxF L 0=none) (hm:300<many (q2u L)):q6t L=3∧z8b L=0:=by
 have e:q6t L=3:=by rw [q6t,if_neg (by omega),hf,if_neg (by simp),if_pos hm]
 exact ⟨e,by rw [z8b,e];rfl⟩
theorem j0m {L:List UInt8} (h:L.length≤60000) (hf:lxF L 0=none) (hm:¬ 300<many (q2u L)):q6t L=0∧z8b L=0:=by
 have e:q6t L=0:=by rw [q6t,if_neg (by omega),hf,if_neg (by simp),if_neg hm]
 exact ⟨e,by rw [z8b,e];rfl⟩
theorem j0k {L:List UInt8} (h:60000<L.length):q6t L=3∧z8b L=0:=by
 have e:q6t L=3:=by rw [q6t,if_pos h]
 exact ⟨e,by rw [z8b,e];rfl⟩
theorem j0o {s:ByteArray} {w:World} {i:Nat} {dn:List (Nat × List UInt8)} {A P:Option Addr} {ac pc:Nat} {wr:World} (h:q3n s w i dn A P ac pc wr) (hi:¬ i<s.size):lxF (btL s) 0=none∧lxW (btL s) 0=dn:=by
 have e:=h.eq
 rw [List.drop_eq_nil_of_le (by rw [q0b];omega),lxW,lxF,z0k,List.append_nil] at e
 rw [lxF,lxW,e]
 exact ⟨rfl,rfl⟩
theorem j7f {s:ByteArray} {k:Nat} (h:k<s.size) (hs:spB s[k]=false):many [tkW ((btL s).drop k)]=if s[k] != 35 then 1 else 0:=by
 have h1:∃ z,tkW ((btL s).drop k)=s[k]::z:=by
  rw [tkW,q1s h]
  have hp:=q3z s[k] ((btL s).drop (k+1))
  obtain ⟨m,hm⟩:∃ m,q0o (s[k]::(btL s).drop (k+1))=m+1:=⟨_,(Nat.sub_add_cancel hp).symm⟩
  rw [hm,List.take_succ_cons]
  exact z0d (k5y hs) _
 obtain ⟨z,hz⟩:=h1
 rw [hz]
 have hn:y2j (s[k]::z)=(s[k] != 35):=rfl
 cases hh:(s[k] != 35) with
 | true=>rw [many,List.filter_cons_of_pos (by rw [hn];exact hh)];rfl
 | false=>rw [many,List.filter_cons_of_neg (by rw [hn,hh];decide)];rfl
theorem v3q {L:List UInt8} (h:q6t L=0):(q2u L).length≤60000:=Nat.le_trans (j3x L) (z8a h).1
end Go.Proofs.YtchdplceopegoaaGreatDoor
