/- Texts as one: LyA, SyB, LexR, LexS, LexT. -/
import Derived.Test.YtchdplceopegoaaGreatDoorPs35
import Derived.Lib.AppendIntMem
import Derived.Lib.ItoaNum
import Derived.Deep.CutBlock
namespace Go.Proofs.YtchdplceopegoaaGreatDoor
open Go Go.RowKit
set_option maxRecDepth 100000
set_option maxHeartbeats 2000000
theorem k8r (w:World) (o p:Obj):Below w.heap.size w ((w.alloc o).alloc p):=((Below.refl _ w).alloc (Nat.le_refl _) o).alloc (by rw [World.size_alloc];omega) p
theorem z0t (w:World) (o p:Obj):((w.alloc o).alloc p).heap[w.heap.size]? = some o:=by
 have h1:((w.heap.push o).push p)[w.heap.size]? = some o:=by
  rw [Array.getElem?_push,if_neg (by simp),Array.getElem?_push,if_pos rfl]
 exact h1
theorem q8f (w:World) (o p:Obj):((w.alloc o).alloc p).heap[w.heap.size+1]? = some p:=by
 have h1:((w.heap.push o).push p)[w.heap.size+1]? = some p:=by
  rw [Array.getElem?_push,if_pos (by simp)]
 exact h1
abbrev ndO (x:Nd):Obj:=.cells #[.int .i64 x.op,.string x.tx,.int .i64 x.n] 131 (0,0)
theorem k4p {x:Nd} {W:World} {k:Nat} (h:W.heap[k]? = some (ndO x)):q2y W (some ⟨k,0,none⟩) [x]:=by
 intro i hi
 have h0:i=0:=by simp at hi;exact hi
 subst h0
 have hlt:k<W.heap.size:=(Array.getElem?_eq_some_iff.1 h).1
 refine ⟨k,0,rfl,hlt,?_,?_,?_⟩<;>rw [Lib.cell_of_heap h]<;>rfl
theorem v2n {x:Nd} {xs:List Nd} {A:Option Addr} {c:Nat} (w W:World) (hb:Below w.heap.size w W) (h0:W.heap[w.heap.size]? = some (ndO x)) (h1:W.heap[w.heap.size+1]? = some (.cells #[.slice (some ⟨w.heap.size,0,none⟩) 1 1,.slice A xs.length c] 91 (0,0)))
  (hN:q2y w A xs) (hnil:A=none→xs.length=0∧c=0) (hl:xs.length≤100000) :
  Calls Tryz.prog 218 #[.slice (some ⟨w.heap.size+1,0,none⟩) 2 2] W fun e w'=>NdR w (x::xs) e w':=by
 have hlt:w.heap.size+1<W.heap.size:=(Array.getElem?_eq_some_iff.1 h1).1
 have hcell:∀ i,W.cell? ⟨w.heap.size+1,i,none⟩=#[Value.slice (some ⟨w.heap.size,0,none⟩) 1 1,.slice A xs.length c][i]?:=fun i=>by simp [World.cell?,h1]
 have hP:v4m W (some ⟨w.heap.size+1,0,none⟩) [[x],xs]:=by
  intro i hi
  have h3:i=0∨i=1:=by simp at hi;omega
  rcases h3 with rfl | rfl
  ·exact ⟨w.heap.size+1,0,some ⟨w.heap.size,0,none⟩,1,rfl,hlt,hcell 0,k4p h0,fun e=>by cases e⟩
  ·exact ⟨w.heap.size+1,0,A,c,rfl,hlt,hcell 1,hN.below hb,hnil⟩
 have hfl:[[x],xs].flatten=x::xs:=by simp
 have h9:=z3g [[x],xs] (some ⟨w.heap.size+1,0,none⟩) 2 W hP (by rw [hfl];simp) (by rw [hfl,List.length_cons];omega) (by simp)
 rw [hfl] at h9
 refine h9.mono ?_
 rintro e w6 ⟨A6,c6,rfl,ho6,hb6⟩
 exact ⟨A6,c6,rfl,ho6.down hb.size,q0j hb (Nat.le_refl _) hb6⟩
theorem j7w {x:Nd} {xs ys:List Nd} {A A':Option Addr} {c c':Nat} (w W:World) (hb:Below w.heap.size w W) (h0:W.heap[w.heap.size]? = some (ndO x)) (h1:W.heap[w.heap.size+1]? = some (.cells #[.slice (some ⟨w.heap.size,0,none⟩) 1 1,.slice A xs.length c,.slice A' ys.length c'] 91 (0,0)))
  (hN:q2y w A xs) (hnil:A=none→xs.length=0∧c=0) (hM:q2y w A' ys) (hnil':A'=none→ys.length=0∧c'=0) (hl:xs.length+ys.length≤100000) :
  Calls Tryz.prog 218 #[.slice (some ⟨w.heap.size+1,0,none⟩) 3 3] W fun e w'=>NdR w (x::(xs++ys)) e w':=by
 have hlt:w.heap.size+1<W.heap.size:=(Array.getElem?_eq_some_iff.1 h1).1
 have hcell:∀ i,W.cell? ⟨w.heap.size+1,i,none⟩=#[Value.slice (some ⟨w.heap.size,0,none⟩) 1 1,.slice A xs.length c,.slice A' ys.length c'][i]?:=fun i=>by simp [World.cell?,h1]
 have hP:v4m W (some ⟨w.heap.size+1,0,none⟩) [[x],xs,ys]:=by
  intro i hi
  have h3:i=0∨i=1∨i=2:=by simp at hi;omega
  rcases h3 with rfl | rfl | rfl
  ·exact ⟨w.heap.size+1,0,some ⟨w.heap.size,0,none⟩,1,rfl,hlt,hcell 0,k4p h0,fun e=>by cases e⟩
  ·exact ⟨w.heap.size+1,0,A,c,rfl,hlt,hcell 1,hN.below hb,hnil⟩
  ·exact ⟨w.heap.size+1,0,A',c',rfl,hlt,hcell 2,hM.below hb,hnil'⟩
 have hfl:[[x],xs,ys].flatten=x::(xs++ys):=by simp
 have h9:=z3g [[x],xs,ys] (some ⟨w.heap.size+1,0,none⟩) 3 W hP (by rw [hfl];simp) (by rw [hfl,List.length_cons,List.length_append];omega) (by simp)
 rw [hfl] at h9
 refine h9.mono ?_
 rintro e w6 ⟨A6,c6,rfl,ho6,hb6⟩
 exact ⟨A6,c6,rfl,ho6.down hb.size,q0j hb (Nat.le_refl _) hb6⟩
theorem q1p (s:ByteArray) (w:World):Calls Tryz.prog 186 #[.string s] w fun e w'=>NdR w [⟨1,s,0⟩] e w':=by
 have HO:=(show Hid (_) from q8p.one w ⟨1,s,0⟩)
 have HB:Hid (∀ O:Obj,Below w.heap.size w (w.alloc O)):=fun O=>(Below.refl _ w).alloc (Nat.le_refl _) O
 go_enter Tryz.func186,Tryz.ntmps186
 go_wp2
 go_ret
 exact ⟨_,1,rfl,HO.out,HB.out _⟩
theorem z0w (w:World):Calls Tryz.prog 189 #[] w fun e w'=>NdR w [⟨2,⟨#[]⟩,0⟩] e w':=by
 have HO:=(show Hid (_) from q8p.one w ⟨2,⟨#[]⟩,0⟩)
 have HB:Hid (∀ O:Obj,Below w.heap.size w (w.alloc O)):=fun O=>(Below.refl _ w).alloc (Nat.le_refl _) O
 go_enter Tryz.func189,Tryz.ntmps189
 go_wp2
 go_ret
 exact ⟨_,1,rfl,HO.out,HB.out _⟩
theorem z9i (w:World):Calls Tryz.prog 239 #[] w fun e w'=>NdR w [⟨3,⟨#[]⟩,0⟩] e w':=by
 have HO:=(show Hid (_) from q8p.one w ⟨3,⟨#[]⟩,0⟩)
 have HB:Hid (∀ O:Obj,Below w.heap.size w (w.alloc O)):=fun O=>(Below.refl _ w).alloc (Nat.le_refl _) O
 go_enter Tryz.func239,Tryz.ntmps239
 go_wp2
 go_ret
 exact ⟨_,1,rfl,HO.out,HB.out _⟩
theorem q8g {xs:List Nd} {v:Value} (w:World) (hx:NdV w v xs) (hl:xs.length≤100000):Calls Tryz.prog 188 #[v] w fun e w'=>NdR w (⟨7,⟨#[]⟩,2⟩::xs) e w':=by
 obtain ⟨A,c,rfl,hN,hnil⟩:=hx
 have HC:=(show Hid (_) from fun W h1 h2 h3=>v2n (x:=⟨7,⟨#[]⟩,2⟩) (c:=c) w W h1 h2 h3 hN hnil hl)
 clear hN hnil hl
 generalize xs.length=n at HC ⊢
 go_enter Tryz.func188,Tryz.ntmps188
 go_wp2_with fail
 refine (HC.out _ (k8r w _ _) (z0t w _ _) (q8f w _ _)).mono ?_
 rintro e w1 h1
 have HR:=(show Hid (_) from h1)
 obtain ⟨v1,rfl,_,_⟩:=h1.val
 clear h1
 go_wp2
 go_ret
 exact HR.out
theorem z0y {xs:List Nd} {v:Value} (w:World) (hx:NdV w v xs) (hl:xs.length≤100000):Calls Tryz.prog 187 #[v] w fun e w'=>NdR w (⟨8,⟨#[]⟩,0⟩::xs) e w':=by
 obtain ⟨A,c,rfl,hN,hnil⟩:=hx
 have HC:=(show Hid (_) from fun W h1 h2 h3=>v2n (x:=⟨8,⟨#[]⟩,0⟩) (c:=c) w W h1 h2 h3 hN hnil hl)
 clear hN hnil hl
 generalize xs.length=n at HC ⊢
 go_enter Tryz.func187,Tryz.ntmps187
 go_wp2_with fail
 refine (HC.out _ (k8r w _ _) (z0t w _ _) (q8f w _ _)).mono ?_
 rintro e w1 h1
 have HR:=(show Hid (_) from h1)
 obtain ⟨v1,rfl,_,_⟩:=h1.val
 clear h1
 go_wp2
 go_ret
 exact HR.out
theorem q1a {xs ys:List Nd} {v u:Value} (w:World) (hx:NdV w v xs) (hy:NdV w u ys) (hl:xs.length+ys.length≤100000):Calls Tryz.prog 184 #[v,u] w fun e w'=>NdR w (⟨6,⟨#[]⟩,0⟩::(xs++ys)) e w':=by
 obtain ⟨A,c,rfl,hN,hnil⟩:=hx
 obtain ⟨A',c',rfl,hM,hnil'⟩:=hy
 have HC:=(show Hid (_) from fun W h1 h2 h3=>j7w (x:=⟨6,⟨#[]⟩,0⟩) (c:=c) (c':=c') w W h1 h2 h3 hN hnil hM hnil' hl)
 clear hN hnil hM hnil' hl
 generalize xs.length=n at HC ⊢
 generalize ys.length=m at HC ⊢
 go_enter Tryz.func184,Tryz.ntmps184
 go_wp2_with fail
 refine (HC.out _ (k8r w _ _) (z0t w _ _) (q8f w _ _)).mono ?_
 rintro e w1 h1
 have HR:=(show Hid (_) from h1)
 obtain ⟨v1,rfl,_,_⟩:=h1.val
 clear h1
 go_wp2
 go_ret
 exact HR.out
structure Ly (w0:World) (b:Nat) (ds:List Td) (w:World) (A:Option Addr) (c:Nat):Prop where
 x:w.heap[b]? = some (.cells #[.slice A ds.length c] 243 (0,0))
 le:ds.length≤c
 td:Tds w0 A ds
 bl:Below w0.heap.size w0 w
 lt:w0.heap.size≤b
def LyE (w0:World) (b:Nat) (ds:List Td) (w:World):Prop:=∃ A c,Ly w0 b ds w A c
theorem Ly.in {w0:World} {b:Nat} {ds:List Td} {w:World} {A:Option Addr} {c:Nat} (h:Ly w0 b ds w A c):b<w.heap.size:=(Array.getElem?_eq_some_iff.1 h.x).1
theorem LyE.grew {w0:World} {b:Nat} {ds:List Td} {w w':World} (h:LyE w0 b ds w) (hb:Below w.heap.size w w'):LyE w0 b ds w':=by
 obtain ⟨A,c,h⟩:=h
 exact ⟨A,c,(hb.block b h.in).trans h.x,h.le,h.td,q0j h.bl (Nat.le_refl _) hb,h.lt⟩
structure Lk (w0:World) (b:Nat) (w:World) (rest:List Td) (wk:World):Prop where
 bt:But w.heap.size b w wk
 ly:LyE w0 b rest wk
 lt:b<w.heap.size
theorem Lk.step {w0:World} {b:Nat} {w:World} {rest:List Td} {wk w':World} (h:Lk w0 b w rest wk) (hb:Below wk.heap.size wk w'):Lk w0 b w rest w':=
 ⟨h.bt.trans (But.of (hb.mono h.bt.size)),h.ly.grew hb,h.lt⟩
theorem Lk.in {w0:World} {b:Nat} {w:World} {rest:List Td} {wk:World} (h:Lk w0 b w rest wk):b<wk.heap.size:=Nat.lt_of_lt_of_le h.lt h.bt.size
def NdB (b:Nat) (w:World) (v:Value) (xs:List Nd):Prop:=∃ A c B,v = .slice A xs.length c∧b<B∧q8p B (.slice A xs.length c) xs w
theorem NdB.but {b:Nat} {w w':World} {v:Value} {xs:List Nd} (h:NdB b w v xs) (hb:But w.heap.size b w w'):NdB b w' v xs:=by
 obtain ⟨A,c,B,e,hB,ho⟩:=h
 exact ⟨A,c,B,e,hB,ho.kept fun g h1 h2=>hb.block g h2 (by omega)⟩
theorem NdB.bel {b:Nat} {w w':World} {v:Value} {xs:List Nd} (h:NdB b w v xs) (hb:Below w.heap.size w w'):NdB b w' v xs:=h.but (.of hb)
theorem NdB.val {b:Nat} {w:World} {v:Value} {xs:List Nd} (h:NdB b w v xs):NdV w v xs:=by
 obtain ⟨A,c,B,rfl,hB,ho⟩:=h
 exact ho.val
theorem NdR.valB {w:World} {xs:List Nd} {e:Ending} {w':World} {b:Nat} (h:NdR w xs e w') (hb:b<w.heap.size):∃ v,e = .returned v∧NdB b w' v xs∧Below w.heap.size w w':=by
 obtain ⟨A,c,e,h1,h2⟩:=h
 exact ⟨_,e,⟨A,c,_,rfl,hb,h1⟩,h2⟩
def NdG (w0:World) (b:Nat) (w:World) (xs:List Nd) (rest:List Td) (e:Ending) (w':World):Prop:=∃ A c,e = .returned (.slice A xs.length c)∧q8p w.heap.size (.slice A xs.length c) xs w'∧Lk w0 b w rest w'
theorem NdR.gof {w0:World} {b:Nat} {w wk:World} {xs:List Nd} {rest:List Td} {e:Ending} {w':World} (h:NdR wk xs e w') (hk:Lk w0 b w rest wk):NdG w0 b w xs rest e w':=by
 obtain ⟨A,c,e,h1,h2⟩:=h
 exact ⟨A,c,e,h1.down hk.bt.size,hk.step h2⟩
theorem NdG.val {w0:World} {b:Nat} {w:World} {xs:List Nd} {rest:List Td} {e:Ending} {w':World} (h:NdG w0 b w xs rest e w'):∃ v,e = .returned v∧NdB b w' v xs∧Lk w0 b w rest w':=by
 obtain ⟨A,c,e,h1,h2⟩:=h
 exact ⟨_,e,⟨A,c,_,rfl,h2.lt,h1⟩,h2⟩
theorem Lk.then {w0:World} {b:Nat} {w wk w':World} {r1 r2:List Td} (h:Lk w0 b w r1 wk) (k:Lk w0 b wk r2 w'):Lk w0 b w r2 w':=⟨h.bt.trans (k.bt.mono h.bt.size),k.ly,h.lt⟩
theorem NdG.then {w0:World} {b:Nat} {w wk w':World} {r1 r2:List Td} {xs:List Nd} {e:Ending} (h:Lk w0 b w r1 wk) (k:NdG w0 b wk xs r2 e w'):NdG w0 b w xs r2 e w':=by
 obtain ⟨A,c,e,h1,h2⟩:=k
 exact ⟨A,c,e,h1.down h.bt.size,h.then h2⟩
theorem v4x {w:World} {k:Nat} {a a':Value} {T:TypeId} (h:w.heap[k]? = some (.cells #[a] T (0,0))):(w.setCell ⟨k,0,none⟩ a').heap[k]? = some (.cells #[a'] T (0,0)):=by
 simp [World.setCell,Array.getElem?_modify,h]
theorem q3i {w0:World} {b:Nat} {x:Td} {ds:List Td} {w:World} (h:LyE w0 b (x::ds) w) :
  Calls Tryz.prog 183 #[.pointer (some ⟨b,0,none⟩)] w fun e w'=>e = .returned (tdV x)∧Lk w0 b w ds w':=by
 obtain ⟨A,c,h⟩:=h
 obtain ⟨tb,tq,rfl,hlt,d0,d1,d2⟩:=h.td 0 (by simp)
 obtain ⟨A',hsl,htd⟩:=j5e h.td h.le
 simp only [List.getElem_cons_zero,Nat.zero_mul,Nat.add_zero] at d0 d1 d2
 obtain ⟨bc,_⟩:=q0w h.bl
 have e0:w.cell? ⟨tb,tq,none⟩=some (.int .i64 x.op):=(bc _ _ hlt).trans d0
 have e1:w.cell? ⟨tb,tq+1,none⟩=some (.string x.tx):=(bc _ _ hlt).trans d1
 have e2:w.cell? ⟨tb,tq+2,none⟩=some (.int .i64 x.n):=(bc _ _ hlt).trans d2
 have hbw:b<w.heap.size:=h.in
 have htw:tb<w.heap.size:=Nat.lt_of_lt_of_le hlt h.bl.size
 have cR:w.cell? ⟨b,0,none⟩=some (.slice (some ⟨tb,tq,none⟩) (x::ds).length c):=by rw [Lib.cell_of_heap h.x];rfl
 have fR:w.frozen? ⟨b,0,none⟩=false:=Lib.frozen_of_heap h.x 0
 have hne:¬ tb=b:=by have:=h.lt;omega
 have H:=(show Hid (_) from h)
 have HT:Hid (Tds w0 A' ds):=htd
 have hle:=h.le
 generalize hn:(x::ds).length=n at cR hsl hle
 have h1n:0<n:=by rw [←hn];simp
 clear h htd d0 d1 d2 bc hn
 generalize hm:ds.length=m at hsl
 have HM:Hid (ds.length=m):=hm
 clear hm
 go_enter Tryz.func183,Tryz.ntmps183
 go_wp2
 refine bodyPost_ret (v:=tdV x) (by simp [results,Tryz.results183,go_sem]) rfl ?_
 have h:=H.out
 have hs:LyE w0 b ds (w.setCell ⟨b,0,none⟩ (.slice A' m (c - 1))):=by
  refine ⟨A',c - 1,?_,?_,HT.out,h.bl.setCell (p:=⟨b,0,none⟩) h.lt _,h.lt⟩
  ·rw [HM.out];exact v4x h.x
  ·have:=h.le;simp only [List.length_cons] at this;omega
 have hk:Lk w0 b w ds (w.setCell ⟨b,0,none⟩ (.slice A' m (c - 1))):=⟨(But.refl _ _ _).setCell (p:=⟨b,0,none⟩) (.inl rfl) _,hs,hbw⟩
 exact ⟨rfl,hk.step (k8r _ _ _)⟩
theorem v5r (n:Nat):Lib.decDigits n=q3y n:=by
 induction n using Nat.strongRecOn with
 | ind n ih=>
  rw [Lib.decDigits,q3y]
  by_cases h:n<10
  ·rw [dif_pos h,dif_pos (by omega)]
  ·rw [dif_neg h,dif_neg (by omega),ih (n / 10) (by omega)]
theorem k3z (n:Int) (h0:0≤n) (h1:n≤999999) (w:World) (ht:z5s w):Calls Tryz.prog 168 #[.int .i64 n] w fun e w'=>e = .returned (.string (wbS (q3y n.toNat)))∧Below w.heap.size w w':=by
 refine (itoa_sh n (by omega) (by omega) w ht).mono ?_
 rintro e w' ⟨rfl,k,os,rfl⟩
 refine ⟨?_,Lib.below_grow _ _ (Nat.le_refl _) _ _⟩
 rw [Lib.itoa,if_neg (by omega),v5r];rfl
abbrev ExC (w0:World) (b:Nat) (x:Td) (k:Fo):Prop:=∀ (bs:List UInt8) (rest:List Td) (w:World),bs.length+(q2w x k.trs).length≤500000→WyE w0 b bs (x::(k.nodes++rest)) w→
 Calls Tryz.prog 136 #[.pointer (some ⟨b,0,none⟩)] w fun e w'=>e = .returned (.tuple #[])∧WyE w0 b (bs++q2w x k.trs) rest w'
def v4j (w0:World) (b:Nat):Fo→Prop
 | .nil=>True
 | .cons x k n=>ExC w0 b x k∧v4j w0 b n
theorem v1n {w0:World} {b:Nat} (ht:z5s w0) (n:Int) (h0:0≤n) (h9:n≤999999) (tx:ByteArray):ExC w0 b ⟨1,tx,n⟩ .nil:=by
 intro bs rest w hl hW
 obtain ⟨A,c,h⟩:=hW
 have HN:Hid (Calls Tryz.prog 134 #[.pointer (some ⟨b,0,none⟩)] w fun e w'=>e = .returned (tdV ⟨1,tx,n⟩)∧WyE w0 b bs rest w'):=q4h h
 have HL:Hid (q2w ⟨1,tx,n⟩ Fo.nil.trs=q3y n.toNat):=rfl
 rw [HL.out] at hl ⊢
 have HT:Hid (z5s w0):=ht
 clear h ht
 go_enter Tryz.func136,Tryz.ntmps136
 go_wp2_with fail
 refine HN.out.mono ?_
 rintro e w1 ⟨rfl,A1,c1,h1⟩
 have HI:Hid (∀ W:World,Below w1.heap.size w1 W→Calls Tryz.prog 168 #[.int .i64 n] W fun e w'=>e = .returned (.string (wbS (q3y n.toNat)))∧Below W.heap.size W w'):=fun W hb=>k3z n h0 h9 W ((HT.out.below h1.bl).below hb)
 have HS:Hid (∀ W:World,Below w1.heap.size w1 W→Calls Tryz.prog 33 #[.pointer (some ⟨b,0,none⟩),.string (wbS (q3y n.toNat))] W fun e w'=>(∃ z,e = .returned (.tuple #[z,.nilIface]))∧WyE w0 b (bs++q3y n.toNat) rest w'):=fun W hb=>by
  refine (q4i (h1.grew hb) (wbS (q3y n.toNat)) (by omega) (by rw [←q0b,y4v];omega)).mono ?_
  rintro e w' ⟨rfl,h,_⟩
  exact ⟨⟨_,rfl⟩,_,_,h⟩
 generalize wbS (q3y n.toNat)=S at HI HS
 clear h1 HN
 go_wp2_with fail
 go_region_with (first | (go_at_call 168;refine (HI.out _ (z1u w1 _)).mono ?_;rintro e w2 ⟨rfl,b2⟩) | (go_at_call 33;refine (HS.out _ (q0j (z1u w1 _) (Nat.le_refl _) b2)).mono ?_;rintro e w3 ⟨⟨z,rfl⟩,h3⟩))
 all_goals
  go_wp2
  go_end0
  exact ⟨rfl,h3⟩
theorem j6b {w0:World} {b:Nat} (tx:ByteArray) (n:Int):ExC w0 b ⟨2,tx,n⟩ .nil:=by
 intro bs rest w hl hW
 obtain ⟨A,c,h⟩:=hW
 have HN:Hid (Calls Tryz.prog 134 #[.pointer (some ⟨b,0,none⟩)] w fun e w'=>e = .returned (tdV ⟨2,tx,n⟩)∧WyE w0 b bs rest w'):=q4h h
 have HL:Hid (q2w ⟨2,tx,n⟩ Fo.nil.trs=btL tx):=rfl
 rw [HL.out] at hl ⊢
 clear h
 go_enter Tryz.func136,Tryz.ntmps136
 go_wp2_with fail
 refine HN.out.mono ?_
 rintro e w1 ⟨rfl,A1,c1,h1⟩
 have HS:Hid (∀ W:World,Below w1.heap.size w1 W→Calls Tryz.prog 33 #[.pointer (some ⟨b,0,none⟩),.string tx] W fun e w'=>(∃ z,e = .returned (.tuple #[z,.nilIface]))∧WyE w0 b (bs++btL tx) rest w'):=fun W hb=>by
  refine (q4i (h1.grew hb) tx (by omega) (by rw [←q0b];omega)).mono ?_
  rintro e w' ⟨rfl,h,_⟩
  exact ⟨⟨_,rfl⟩,_,_,h⟩
 clear h1 HN
 go_wp2_with fail
 go_region_with (go_at_call 33;refine (HS.out _ (z1u w1 _)).mono ?_;rintro e w3 ⟨⟨z,rfl⟩,h3⟩)
 all_goals
  go_wp2
  go_end0
  exact ⟨rfl,h3⟩
abbrev KdC (w0:World) (b:Nat) (F:Fo) (o z:UInt8):Prop:=∀ (bs:List UInt8) (rest:List Td) (w:World),bs.length+(cmx F.trs).length+2≤500000→WyE w0 b bs (F.nodes++rest) w→
 Calls Tryz.prog 169 #[.pointer (some ⟨b,0,none⟩),.int .i64 (F.len:Int),.int .u8 (o.toNat:Int),.int .u8 (z.toNat:Int)] w fun e w'=>e = .returned (.tuple #[])∧WyE w0 b (bs++o::(cmx F.trs++[z])) rest w'
theorem j6a {w0:World} {b:Nat} {F:Fo} (tx:ByteArray) (hK:KdC w0 b F 91 93):ExC w0 b ⟨4,tx,(F.len:Int)⟩ F:=by
 intro bs rest w hl hW
 obtain ⟨A,c,h⟩:=hW
 have HN:Hid (Calls Tryz.prog 134 #[.pointer (some ⟨b,0,none⟩)] w fun e w'=>e = .returned (tdV ⟨4,tx,(F.len:Int)⟩)∧WyE w0 b bs (F.nodes++rest) w'):=q4h h
 have HL:Hid (q2w ⟨4,tx,(F.len:Int)⟩ F.trs=91::(cmx F.trs++[93])):=rfl
 rw [HL.out] at hl ⊢
 have HK:Hid (KdC w0 b F 91 93):=hK
 clear h hK
 simp only [List.length_cons,List.length_append,List.length_nil] at hl
 go_enter Tryz.func136,Tryz.ntmps136
 go_wp2_with fail
 refine HN.out.mono ?_
 rintro e w1 ⟨rfl,A1,c1,h1⟩
 have HS:Hid (∀ W:World,Below w1.heap.size w1 W→Calls Tryz.prog 169 #[.pointer (some ⟨b,0,none⟩),.int .i64 (F.len:Int),.int .u8 91,.int .u8 93] W fun e w'=>e = .returned (.tuple #[])∧WyE w0 b (bs++91::(cmx F.trs++[93])) rest w'):=fun W hb=>HK.out bs rest W (by omega) ⟨_,_,h1.grew hb⟩
 clear h1 HN HK
 go_wp2_with fail
 refine (HS.out _ (q1j w1 _)).mono ?_
 rintro e w3 ⟨rfl,h3⟩
 go_wp2
 go_end0
 exact ⟨rfl,h3⟩
theorem j5z {w0:World} {b:Nat} {F:Fo} (tx:ByteArray) (hK:KdC w0 b F 40 41):ExC w0 b ⟨3,tx,(F.len:Int)⟩ F:=by
 intro bs rest w hl hW
 obtain ⟨A,c,h⟩:=hW
 have HN:Hid (Calls Tryz.prog 134 #[.pointer (some ⟨b,0,none⟩)] w fun e w'=>e = .returned (tdV ⟨3,tx,(F.len:Int)⟩)∧WyE w0 b bs (F.nodes++rest) w'):=q4h h
 have HL:Hid (q2w ⟨3,tx,(F.len:Int)⟩ F.trs=btL tx++40::(cmx F.trs++[41])):=rfl
 rw [HL.out] at hl ⊢
 have HK:Hid (KdC w0 b F 40 41):=hK
 clear h hK
 simp only [List.length_cons,List.length_append,List.length_nil] at hl
 go_enter Tryz.func136,Tryz.ntmps136
 go_wp2_with fail
 refine HN.out.mono ?_
 rintro e w1 ⟨rfl,A1,c1,h1⟩
 have HS:Hid (∀ W:World,Below w1.heap.size w1 W→Calls Tryz.prog 33 #[.pointer (some ⟨b,0,none⟩),.string tx] W fun e w'=>(∃ z,e = .returned (.tuple #[z,.nilIface]))∧WyE w0 b (bs++btL tx) (F.nodes++rest) w'∧Lib.OthersKept 5 (some b) W w'):=fun W hb=>by
  refine (q4i (h1.grew hb) tx (by omega) (by rw [←q0b];omega)).mono ?_
  rintro e w' ⟨rfl,h,hk⟩
  exact ⟨⟨_,rfl⟩,⟨_,_,h⟩,hk⟩
 have HS2:Hid (∀ W:World,WyE w0 b (bs++btL tx) (F.nodes++rest) W→Calls Tryz.prog 169 #[.pointer (some ⟨b,0,none⟩),.int .i64 (F.len:Int),.int .u8 40,.int .u8 41] W fun e w'=>e = .returned (.tuple #[])∧WyE w0 b ((bs++btL tx)++40::(cmx F.trs++[41])) rest w'):=fun W hW=>HK.out _ rest W (by rw [List.length_append];omega) hW
 have hbw:b<w1.heap.size:=h1.x.lt
 clear h1 HN HK
 generalize F.len=fn at HS2 HL ⊢
 go_wp2_with fail
 go_region_with (go_at_call 33;refine (HS.out _ (z1u w1 _)).mono ?_;rintro e w3 ⟨⟨z,rfl⟩,h3,hk3⟩)
 all_goals
  have hbox:w3.heap[w1.heap.size]? = some (.cells #[.int .i64 3,.string tx,.int .i64 (fn:Int)] 71 (0,0)):=hk3 _ _ (heap_alloc_new w1 _) (by simp;omega) (fun c fz e=>by cases e)
  have hn2:w3.cell? ⟨w1.heap.size,2,none⟩=some (.int .i64 (fn:Int)):=by rw [Lib.cell_of_heap hbox];rfl
  clear hbox hk3
  go_wp2_with fail
  refine (HS2.out _ h3).mono ?_
  rintro e w4 ⟨rfl,h4⟩
  go_wp2
  go_end0
  rw [List.append_assoc] at h4
  exact ⟨rfl,h4⟩
structure q3t (s:ByteArray) (w:World) (i:Nat) (dn:List (Nat × List UInt8)) (A P:Option Addr) (ac pc:Nat) (wr:World):Prop where
 b:Below w.heap.size w wr
 le:i≤s.size
 ln:dn.length≤i
 eq:lx (btL s) 0=(dn++lxW ((btL s).drop i) i,lxF ((btL s).drop i) i)
 ws:wr.ownsRow w.heap.size 9 1 (.slice A dn.length ac) dn.length (strCells (dn.map fun x=>wbS x.2))
 ps:wr.ownsRow w.heap.size 3 1 (.slice P dn.length pc) dn.length (q1v (dn.map (·.1)))
theorem q3t.space {s:ByteArray} {w:World} {i:Nat} {dn:List (Nat × List UInt8)} {A P:Option Addr} {ac pc:Nat} {wr:World} (h:q3t s w i dn A P ac pc wr) (hi:i<s.size) (hs:spB s[i]=true):q3t s w (i+1) dn A P ac pc wr:=by
 have e:=h.eq
 rw [q1s hi,lxW,lxF,z9k _ _ hs] at e
 exact { b:=h.b,le:=hi,ln:=by have:=h.ln;omega,eq:=e,ws:=h.ws,ps:=h.ps }
theorem j2c {s:ByteArray} {w:World} {i:Nat} {dn:List (Nat × List UInt8)} {A P:Option Addr} {ac pc:Nat} {wr:World} (h:q3t s w i dn A P ac pc wr) (hi:i<s.size) (hs:spB s[i]=false) (ho:tOk s i=false):lxF (btL s) 0=some i:=by
 have e:=h.eq
 rw [tOk,q1s hi] at ho
 rw [q1s hi,lxW,lxF,k4i _ hs ho] at e
 rw [lxF,e]
theorem q3t.word {s:ByteArray} {w:World} {i:Nat} {dn:List (Nat × List UInt8)} {A P:Option Addr} {ac pc:Nat} {wr:World} (h:q3t s w i dn A P ac pc wr) (hi:i<s.size) (hs:spB s[i]=false) (ho:tOk s i=true) {A' P':Option Addr} {ac' pc':Nat} {w':World} (hb:Below w.heap.size w w')
  (h1:w'.ownsRow w.heap.size 9 1 (.slice A' (dn.length+1) ac') (dn.length+1) (strCells (dn.map fun x=>wbS x.2)++[.string (wbS (tkW ((btL s).drop i)))])) (h2:w'.ownsRow w.heap.size 3 1 (.slice P' (dn.length+1) pc') (dn.length+1) (q1v (dn.map (·.1))++[.int .i64 (i:Int)])) :
  q3t s w (i+j4z s i) (dn++[(i,tkW ((btL s).drop i))]) A' P' ac' pc' w':=by
 have e:=h.eq
 have hle:=y6p hi
 have hd:((btL s).drop i).drop (j4z s i)=(btL s).drop (i+j4z s i):=by rw [List.drop_drop]
 have ho':q4p (s[i]::(btL s).drop (i+1))=true:=by rw [←q1s hi];exact ho
 have e2:lx ((btL s).drop i) i=((i,tkW ((btL s).drop i))::lxW ((btL s).drop (i+j4z s i)) (i+j4z s i),lxF ((btL s).drop (i+j4z s i)) (i+j4z s i)):=by
  rw [←hd,j4z,q1s hi]
  exact z5b i hs ho'
 rw [lxW,lxF,e2] at e
 refine { b:=hb,le:=hle.2,ln:=by have:=h.ln;simp;omega,eq:=by rw [e];simp,ws:=?_,ps:=?_ }
 ·rw [List.length_append,List.map_append,q3k]
  exact h1
 ·rw [List.length_append,List.map_append,z1m]
  exact h2
theorem j9e {L:List UInt8} {k:Nat} (h:L.length≤60000) (hf:lxF L 0=some k):q6d L=5∧z9b L=k:=by
 have e:q6d L=5:=by rw [q6d,if_neg (by omega),hf];rfl
 exact ⟨e,by rw [z9b,if_pos e,hf];rfl⟩
theorem j2a {L:List UInt8} (h:L.length≤60000) (hf:lxF L 0=none) (hm:300<many (q2x L)):q6d L=3∧z9b L=0:=by
 have e:q6d L=3:=by rw [q6d,if_neg (by omega),hf,if_neg (by simp),if_pos hm]
 exact ⟨e,by rw [z9b,e];rfl⟩
theorem j2b {L:List UInt8} (h:L.length≤60000) (hf:lxF L 0=none) (hm:¬ 300<many (q2x L)):q6d L=0∧z9b L=0:=by
 have e:q6d L=0:=by rw [q6d,if_neg (by omega),hf,if_neg (by simp),if_neg hm]
 exact ⟨e,by rw [z9b,e];rfl⟩
theorem j1z {L:List UInt8} (h:60000<L.length):q6d L=3∧z9b L=0:=by
 have e:q6d L=3:=by rw [q6d,if_pos h]
 exact ⟨e,by rw [z9b,e];rfl⟩
theorem j2d {s:ByteArray} {w:World} {i:Nat} {dn:List (Nat × List UInt8)} {A P:Option Addr} {ac pc:Nat} {wr:World} (h:q3t s w i dn A P ac pc wr) (hi:¬ i<s.size):lxF (btL s) 0=none∧lxW (btL s) 0=dn:=by
 have e:=h.eq
 rw [List.drop_eq_nil_of_le (by rw [q0b];omega),lxW,lxF,q9k,List.append_nil] at e
 rw [lxF,lxW,e]
 exact ⟨rfl,rfl⟩
theorem j9r {s:ByteArray} {k:Nat} (h:k<s.size) (hs:spB s[k]=false):many [tkW ((btL s).drop k)]=if s[k] != 35 then 1 else 0:=by
 have h1:∃ z,tkW ((btL s).drop k)=s[k]::z:=by
  rw [tkW,q1s h]
  have hp:=q4g s[k] ((btL s).drop (k+1))
  obtain ⟨m,hm⟩:∃ m,q0o (s[k]::(btL s).drop (k+1))=m+1:=⟨_,(Nat.sub_add_cancel hp).symm⟩
  rw [hm,List.take_succ_cons]
  exact z1g (k7g hs) _
 obtain ⟨z,hz⟩:=h1
 rw [hz]
 have hn:z1w (s[k]::z)=(s[k] != 35):=rfl
 cases hh:(s[k] != 35) with
 | true=>rw [many,List.filter_cons_of_pos (by rw [hn];exact hh)];rfl
 | false=>rw [many,List.filter_cons_of_neg (by rw [hn,hh];decide)];rfl
theorem v6q {L:List UInt8} (h:q6d L=0):(q2x L).length≤60000:=Nat.le_trans (j5x L) (z3h h).1
end Go.Proofs.YtchdplceopegoaaGreatDoor
