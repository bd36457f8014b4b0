/- Texts as one: LyA, SyB, LexR, LexS, LexT, LexV, CutA, LexX, LexY, LexW. -/
import Derived.Test.YthjapabokcajhaaGreatDoorPf36
import Derived.Test.YthjapabokcajhaaGreatDoorPf32
import Derived.Test.YthjapabokcajhaaGreatDoorPf09
import Derived.Lib.AppendIntMem
import Derived.Lib.ItoaNum
import Derived.Test.YthjapabokcajhaaGreatDoorPf00
import Derived.Test.YthjapabokcajhaaGreatDoorPf05
import Derived.Test.YthjapabokcajhaaGreatDoorPf06
import Derived.Deep.CutBlock
import Derived.Deep.DeepCutAuto
import Derived.Lib.Bytealg
import Derived.Lib.IndexLaws
import Derived.Deep.RegionHeld3
import Derived.Test.YthjapabokcajhaaGreatDoorShf
namespace Go.Proofs.YthjapabokcajhaaGreatDoor
open Go Go.RowKit
set_option maxRecDepth 100000
set_option maxHeartbeats 2000000
theorem k8u(w:World)(o p:Obj):Below w.heap.size w ((w.alloc o).alloc p):=((Below.refl _ w).alloc (Nat.le_refl _) o).alloc (by rw[World.size_alloc];omega) p
theorem q7x(w:World)(o p:Obj):((w.alloc o).alloc p).heap[w.heap.size]?=some o:=by
 have h1:((w.heap.push o).push p)[w.heap.size]?=some o:=by
  rw[Array.getElem?_push,if_neg (by simp),Array.getElem?_push,if_pos rfl]
 exact h1
theorem q6a(w:World)(o p:Obj):((w.alloc o).alloc p).heap[w.heap.size+1]?=some p:=by
 have h1:((w.heap.push o).push p)[w.heap.size+1]?=some p:=by
  rw[Array.getElem?_push,if_pos (by simp)]
 exact h1
abbrev ndO(x:Nd):Obj:=.cells #[.int .i64 x.op,.string x.tx,.int .i64 x.n] 107 (0,0)
theorem z8x{x:Nd}{W:World}{k:Nat}(h:W.heap[k]?=some (ndO x)):q1u W (some ⟨k,0,none⟩) [x]:=by
 intro i hi;have h0:i=0:=by simp at hi;exact hi
 subst h0;have hlt:k<W.heap.size:=(Array.getElem?_eq_some_iff.1 h).1;refine⟨k,0,rfl,hlt,?_,?_,?_⟩<;>rw[Lib.cell_of_heap h]<;>rfl
theorem j2p{x:Nd}{xs:List Nd}{A:Option Addr}{c:Nat}(w W:World)(hb:Below w.heap.size w W)(h0:W.heap[w.heap.size]?=some (ndO x))(h1:W.heap[w.heap.size+1]?=some (.cells #[.slice (some ⟨w.heap.size,0,none⟩) 1 1,.slice A xs.length c] 49 (0,0)))
  (hN:q1u w A xs) (hnil:A=none->xs.length=0/\c=0) (hl:xs.length<=100000):
  Calls Tryz.prog 182 #[.slice (some ⟨w.heap.size+1,0,none⟩) 2 2] W fun e w'=>NdR w (x::xs) e w':=by
 have hlt:w.heap.size+1<W.heap.size:=(Array.getElem?_eq_some_iff.1 h1).1;have hcell:∀i,W.cell? ⟨w.heap.size+1,i,none⟩=#[Value.slice (some ⟨w.heap.size,0,none⟩) 1 1,.slice A xs.length c][i]?:=fun i=>by simp[World.cell?,h1]
 have hP:j4h W (some ⟨w.heap.size+1,0,none⟩) [[x],xs]:=by
  intro i hi;have h3:i=0\/i=1:=by simp at hi;omega
  rcases h3 with rfl|rfl
  ·exact⟨w.heap.size+1,0,some ⟨w.heap.size,0,none⟩,1,rfl,hlt,hcell 0,z8x h0,fun e=>by cases e⟩
  ·exact⟨w.heap.size+1,0,A,c,rfl,hlt,hcell 1,hN.below hb,hnil⟩
 have hfl:[[x],xs].flatten=x::xs:=by simp
 have h9:=q9n [[x],xs] (some ⟨w.heap.size+1,0,none⟩) 2 W hP (by rw[hfl];simp) (by rw[hfl,List.length_cons];omega) (by simp);rw[hfl]at h9;refine h9.mono ?_;rintro e w6⟨A6,c6,rfl,ho6,hb6⟩;exact⟨A6,c6,rfl,ho6.down hb.size,q0g hb (Nat.le_refl _) hb6⟩
theorem k9h{x:Nd}{xs ys:List Nd}{A A':Option Addr}{c c':Nat}(w W:World)(hb:Below w.heap.size w W)(h0:W.heap[w.heap.size]?=some (ndO x))(h1:W.heap[w.heap.size+1]?=some (.cells #[.slice (some ⟨w.heap.size,0,none⟩) 1 1,.slice A xs.length c,.slice A' ys.length c'] 49 (0,0)))
  (hN:q1u w A xs) (hnil:A=none->xs.length=0/\c=0) (hM:q1u w A' ys) (hnil':A'=none->ys.length=0/\c'=0) (hl:xs.length+ys.length<=100000):
  Calls Tryz.prog 182 #[.slice (some ⟨w.heap.size+1,0,none⟩) 3 3] W fun e w'=>NdR w (x::(xs++ys)) e w':=by
 have hlt:w.heap.size+1<W.heap.size:=(Array.getElem?_eq_some_iff.1 h1).1;have hcell:∀i,W.cell? ⟨w.heap.size+1,i,none⟩=#[Value.slice (some ⟨w.heap.size,0,none⟩) 1 1,.slice A xs.length c,.slice A' ys.length c'][i]?:=fun i=>by simp[World.cell?,h1]
 have hP:j4h W (some ⟨w.heap.size+1,0,none⟩) [[x],xs,ys]:=by
  intro i hi;have h3:i=0\/i=1\/i=2:=by simp at hi;omega
  rcases h3 with rfl|rfl|rfl
  ·exact⟨w.heap.size+1,0,some ⟨w.heap.size,0,none⟩,1,rfl,hlt,hcell 0,z8x h0,fun e=>by cases e⟩
  ·exact⟨w.heap.size+1,0,A,c,rfl,hlt,hcell 1,hN.below hb,hnil⟩
  ·exact⟨w.heap.size+1,0,A',c',rfl,hlt,hcell 2,hM.below hb,hnil'⟩
 have hfl:[[x],xs,ys].flatten=x::(xs++ys):=by simp
 have h9:=q9n [[x],xs,ys] (some ⟨w.heap.size+1,0,none⟩) 3 W hP (by rw[hfl];simp) (by rw[hfl,List.length_cons,List.length_append];omega) (by simp);rw[hfl]at h9;refine h9.mono ?_;rintro e w6⟨A6,c6,rfl,ho6,hb6⟩;exact⟨A6,c6,rfl,ho6.down hb.size,q0g hb (Nat.le_refl _) hb6⟩
theorem q1h(s:ByteArray)(w:World):Calls Tryz.prog 137 #[.string s] w fun e w'=>NdR w [⟨1,s,0⟩] e w':=by
 have HO:=(show Hid (_)from q3m.one w ⟨1,s,0⟩);have HB:Hid (∀O:Obj,Below w.heap.size w (w.alloc O)):=fun O=>(Below.refl _ w).alloc (Nat.le_refl _) O
 go_in;go_wp2;go_ret;exact⟨_,1,rfl,HO.out,HB.out _⟩
theorem q7z(w:World):Calls Tryz.prog 140 #[] w fun e w'=>NdR w [⟨2,⟨#[]⟩,0⟩] e w':=by
 have HO:=(show Hid (_)from q3m.one w ⟨2,⟨#[]⟩,0⟩);have HB:Hid (∀O:Obj,Below w.heap.size w (w.alloc O)):=fun O=>(Below.refl _ w).alloc (Nat.le_refl _) O
 go_in;go_wp2;go_ret;exact⟨_,1,rfl,HO.out,HB.out _⟩
theorem z4r(w:World):Calls Tryz.prog 208 #[] w fun e w'=>NdR w [⟨3,⟨#[]⟩,0⟩] e w':=by
 have HO:=(show Hid (_)from q3m.one w ⟨3,⟨#[]⟩,0⟩);have HB:Hid (∀O:Obj,Below w.heap.size w (w.alloc O)):=fun O=>(Below.refl _ w).alloc (Nat.le_refl _) O
 go_in;go_wp2;go_ret;exact⟨_,1,rfl,HO.out,HB.out _⟩
theorem q6c{xs:List Nd}{v:Value}(w:World)(hx:NdV w v xs)(hl:xs.length<=100000):Calls Tryz.prog 139 #[v] w fun e w'=>NdR w (⟨7,⟨#[]⟩,2⟩::xs) e w':=by
 obtain⟨A,c,rfl,hN,hnil⟩:=hx;have HC:=(show Hid (_)from fun W h1 h2 h3=>j2p (x:=⟨7,⟨#[]⟩,2⟩) (c:=c) w W h1 h2 h3 hN hnil hl);clear hN hnil hl;generalize xs.length=n at HC⊢;go_in;go_wp2_with fail;refine(HC.out _ (k8u w _ _) (q7x w _ _) (q6a w _ _)).mono ?_;rintro e w1 h1;have HR:=(show Hid (_)from h1);obtain⟨v1,rfl,_,_⟩:=h1.val;clear h1;go_wp2;go_ret;exact HR.out
theorem q8a{xs:List Nd}{v:Value}(w:World)(hx:NdV w v xs)(hl:xs.length<=100000):Calls Tryz.prog 138 #[v] w fun e w'=>NdR w (⟨8,⟨#[]⟩,0⟩::xs) e w':=by
 obtain⟨A,c,rfl,hN,hnil⟩:=hx;have HC:=(show Hid (_)from fun W h1 h2 h3=>j2p (x:=⟨8,⟨#[]⟩,0⟩) (c:=c) w W h1 h2 h3 hN hnil hl);clear hN hnil hl;generalize xs.length=n at HC⊢;go_in;go_wp2_with fail;refine(HC.out _ (k8u w _ _) (q7x w _ _) (q6a w _ _)).mono ?_;rintro e w1 h1;have HR:=(show Hid (_)from h1);obtain⟨v1,rfl,_,_⟩:=h1.val;clear h1;go_wp2;go_ret;exact HR.out
theorem q0z{xs ys:List Nd}{v u:Value}(w:World)(hx:NdV w v xs)(hy:NdV w u ys)(hl:xs.length+ys.length<=100000):Calls Tryz.prog 135 #[v,u] w fun e w'=>NdR w (⟨6,⟨#[]⟩,0⟩::(xs++ys)) e w':=by
 obtain⟨A,c,rfl,hN,hnil⟩:=hx;obtain⟨A',c',rfl,hM,hnil'⟩:=hy;have HC:=(show Hid (_)from fun W h1 h2 h3=>k9h (x:=⟨6,⟨#[]⟩,0⟩) (c:=c) (c':=c') w W h1 h2 h3 hN hnil hM hnil' hl);clear hN hnil hM hnil' hl;generalize xs.length=n at HC⊢;generalize ys.length=m at HC⊢;go_in;go_wp2_with fail;refine(HC.out _ (k8u w _ _) (q7x w _ _) (q6a w _ _)).mono ?_;rintro e w1 h1;have HR:=(show Hid (_)from h1);obtain⟨v1,rfl,_,_⟩:=h1.val;clear h1;go_wp2;go_ret;exact HR.out
structure Ly(w0:World)(b:Nat)(ds:List Td)(w:World)(A:Option Addr)(c:Nat):Prop where
 x:w.heap[b]?=some (.cells #[.slice A ds.length c] 144 (0,0))
 le:ds.length<=c
 td:Tds w0 A ds
 bl:Below w0.heap.size w0 w
 lt:w0.heap.size<=b
def LyE(w0:World)(b:Nat)(ds:List Td)(w:World):Prop:=∃A c,Ly w0 b ds w A c
theorem Ly.in{w0:World}{b:Nat}{ds:List Td}{w:World}{A:Option Addr}{c:Nat}(h:Ly w0 b ds w A c):b<w.heap.size:=(Array.getElem?_eq_some_iff.1 h.x).1
theorem LyE.grew{w0:World}{b:Nat}{ds:List Td}{w w':World}(h:LyE w0 b ds w)(hb:Below w.heap.size w w'):LyE w0 b ds w':=by
 obtain⟨A,c,h⟩:=h;exact⟨A,c,(hb.block b h.in).trans h.x,h.le,h.td,q0g h.bl (Nat.le_refl _) hb,h.lt⟩
structure Lk(w0:World)(b:Nat)(w:World)(rest:List Td)(wk:World):Prop where
 bt:But w.heap.size b w wk
 ly:LyE w0 b rest wk
 lt:b<w.heap.size
theorem Lk.step{w0:World}{b:Nat}{w:World}{rest:List Td}{wk w':World}(h:Lk w0 b w rest wk)(hb:Below wk.heap.size wk w'):Lk w0 b w rest w':=
 ⟨h.bt.trans (But.of (hb.mono h.bt.size)),h.ly.grew hb,h.lt⟩
theorem Lk.in{w0:World}{b:Nat}{w:World}{rest:List Td}{wk:World}(h:Lk w0 b w rest wk):b<wk.heap.size:=Nat.lt_of_lt_of_le h.lt h.bt.size
def NdB(b:Nat)(w:World)(v:Value)(xs:List Nd):Prop:=∃A c B,v=.slice A xs.length c/\b<B/\q3m B (.slice A xs.length c) xs w
theorem NdB.but{b:Nat}{w w':World}{v:Value}{xs:List Nd}(h:NdB b w v xs)(hb:But w.heap.size b w w'):NdB b w' v xs:=by
 obtain⟨A,c,B,e,hB,ho⟩:=h;exact⟨A,c,B,e,hB,ho.kept fun g h1 h2=>hb.block g h2 (by omega)⟩
theorem NdB.bel{b:Nat}{w w':World}{v:Value}{xs:List Nd}(h:NdB b w v xs)(hb:Below w.heap.size w w'):NdB b w' v xs:=h.but (.of hb)
theorem NdB.val{b:Nat}{w:World}{v:Value}{xs:List Nd}(h:NdB b w v xs):NdV w v xs:=by
 obtain⟨A,c,B,rfl,hB,ho⟩:=h;exact ho.val
theorem NdR.valB{w:World}{xs:List Nd}{e:Ending}{w':World}{b:Nat}(h:NdR w xs e w')(hb:b<w.heap.size):∃v,e=.returned v/\NdB b w' v xs/\Below w.heap.size w w':=by
 obtain⟨A,c,e,h1,h2⟩:=h;exact⟨_,e,⟨A,c,_,rfl,hb,h1⟩,h2⟩
def NdG(w0:World)(b:Nat)(w:World)(xs:List Nd)(rest:List Td)(e:Ending)(w':World):Prop:=∃A c,e=.returned (.slice A xs.length c)/\q3m w.heap.size (.slice A xs.length c) xs w'/\Lk w0 b w rest w'
theorem NdR.gof{w0:World}{b:Nat}{w wk:World}{xs:List Nd}{rest:List Td}{e:Ending}{w':World}(h:NdR wk xs e w')(hk:Lk w0 b w rest wk):NdG w0 b w xs rest e w':=by
 obtain⟨A,c,e,h1,h2⟩:=h;exact⟨A,c,e,h1.down hk.bt.size,hk.step h2⟩
theorem NdG.val{w0:World}{b:Nat}{w:World}{xs:List Nd}{rest:List Td}{e:Ending}{w':World}(h:NdG w0 b w xs rest e w'):∃v,e=.returned v/\NdB b w' v xs/\Lk w0 b w rest w':=by
 obtain⟨A,c,e,h1,h2⟩:=h;exact⟨_,e,⟨A,c,_,rfl,h2.lt,h1⟩,h2⟩
theorem Lk.then{w0:World}{b:Nat}{w wk w':World}{r1 r2:List Td}(h:Lk w0 b w r1 wk)(k:Lk w0 b wk r2 w'):Lk w0 b w r2 w':=⟨h.bt.trans (k.bt.mono h.bt.size),k.ly,h.lt⟩
theorem NdG.then{w0:World}{b:Nat}{w wk w':World}{r1 r2:List Td}{xs:List Nd}{e:Ending}(h:Lk w0 b w r1 wk)(k:NdG w0 b wk xs r2 e w'):NdG w0 b w xs r2 e w':=by
 obtain⟨A,c,e,h1,h2⟩:=k;exact⟨A,c,e,h1.down h.bt.size,h.then h2⟩
theorem j4p{w:World}{k:Nat}{a a':Value}{T:TypeId}(h:w.heap[k]?=some (.cells #[a] T (0,0))):(w.setCell ⟨k,0,none⟩ a').heap[k]?=some (.cells #[a'] T (0,0)):=by
 simp[World.setCell,Array.getElem?_modify,h]
theorem q2k{w0:World}{b:Nat}{x:Td}{ds:List Td}{w:World}(h:LyE w0 b (x::ds) w):
  Calls Tryz.prog 134 #[.pointer (some ⟨b,0,none⟩)] w fun e w'=>e=.returned (tdV x)/\Lk w0 b w ds w':=by
 obtain⟨A,c,h⟩:=h;obtain⟨tb,tq,rfl,hlt,d0,d1,d2⟩:=h.td 0 (by simp);obtain⟨A',hsl,htd⟩:=k7p h.td h.le;simp only[List.getElem_cons_zero,Nat.zero_mul,Nat.add_zero]at d0 d1 d2;obtain⟨bc,_⟩:=q1g h.bl;have e0:w.cell? ⟨tb,tq,none⟩=some (.int .i64 x.op):=(bc _ _ hlt).trans d0;have e1:w.cell? ⟨tb,tq+1,none⟩=some (.string x.tx):=(bc _ _ hlt).trans d1;have e2:w.cell? ⟨tb,tq+2,none⟩=some (.int .i64 x.n):=(bc _ _ hlt).trans d2;have hbw:b<w.heap.size:=h.in;have htw:tb<w.heap.size:=Nat.lt_of_lt_of_le hlt h.bl.size;have cR:w.cell? ⟨b,0,none⟩=some (.slice (some ⟨tb,tq,none⟩) (x::ds).length c):=by rw[Lib.cell_of_heap h.x];rfl
 have fR:w.frozen? ⟨b,0,none⟩=false:=Lib.frozen_of_heap h.x 0;have hne:¬tb=b:=by have:=h.lt;omega
 have H:=(show Hid (_)from h);have HT:Hid (Tds w0 A' ds):=htd;have hle:=h.le;generalize hn:(x::ds).length=n at cR hsl hle;have h1n:0<n:=by rw[<-hn];simp
 clear h htd d0 d1 d2 bc hn;generalize hm:ds.length=m at hsl;have HM:Hid (ds.length=m):=hm;clear hm;go_in;go_wp2;refine bodyPost_ret (v:=tdV x) (by simp[results,Tryz.results134,go_sem]) rfl ?_;have h:=H.out
 have hs:LyE w0 b ds (w.setCell ⟨b,0,none⟩ (.slice A' m (c-1))):=by
  refine⟨A',c-1,?_,?_,HT.out,h.bl.setCell (p:=⟨b,0,none⟩) h.lt _,h.lt⟩
  ·rw[HM.out];exact j4p h.x
  ·have:=h.le;simp only[List.length_cons]at this;omega
 have hk:Lk w0 b w ds (w.setCell ⟨b,0,none⟩ (.slice A' m (c-1))):=⟨(But.refl _ _ _).setCell (p:=⟨b,0,none⟩) (.inl rfl) _,hs,hbw⟩;exact⟨rfl,hk.step (k8u _ _ _)⟩
end Go.Proofs.YthjapabokcajhaaGreatDoor
namespace Go.Proofs.YthjapabokcajhaaGreatDoor
open Go Go.RowKit
set_option maxRecDepth 100000
set_option maxHeartbeats 2000000
theorem j5k(n:Nat):Lib.decDigits n=q3c n:=by
 induction n using Nat.strongRecOn with
 | ind n ih=>
  rw[Lib.decDigits,q3c];by_cases h:n<10
  ·rw[dif_pos h,dif_pos (by omega)]
  ·rw[dif_neg h,dif_neg (by omega),ih (n / 10) (by omega)]
theorem z8g(n:Int)(h0:0<=n)(h1:n<=999999)(w:World)(ht:z1v w):Calls Tryz.prog 131 #[.int .i64 n] w fun e w'=>e=.returned (.string (wbS (q3c n.toNat)))/\Below w.heap.size w w':=by
 refine(itoa_sh n (by omega) (by omega) w ht).mono ?_;rintro e w'⟨rfl,k,os,rfl⟩;refine⟨?_,Lib.below_grow _ _ (Nat.le_refl _) _ _⟩;rw[Lib.itoa,if_neg (by omega),j5k];rfl
abbrev ExC(w0:World)(b:Nat)(x:Td)(k:Fo):Prop:=∀(bs:List UInt8)(rest:List Td)(w:World),bs.length+(q2l x k.trs).length<=500000->WyE w0 b bs (x::(k.nodes++rest)) w->
 Calls Tryz.prog 85 #[.pointer (some ⟨b,0,none⟩)] w fun e w'=>e=.returned (.tuple #[])/\WyE w0 b (bs++q2l x k.trs) rest w'
def j4d(w0:World)(b:Nat):Fo->Prop
 | .nil=>True
 | .cons x k n=>ExC w0 b x k/\j4d w0 b n
theorem j1w{w0:World}{b:Nat}(ht:z1v w0)(n:Int)(h0:0<=n)(h9:n<=999999)(tx:ByteArray):ExC w0 b ⟨1,tx,n⟩ .nil:=by
 intro bs rest w hl hW;obtain⟨A,c,h⟩:=hW;have HN:Hid (Calls Tryz.prog 83 #[.pointer (some ⟨b,0,none⟩)] w fun e w'=>e=.returned (tdV ⟨1,tx,n⟩)/\WyE w0 b bs rest w'):=q3a h;have HL:Hid (q2l ⟨1,tx,n⟩ Fo.nil.trs=q3c n.toNat):=rfl;rw[HL.out]at hl⊢;have HT:Hid (z1v w0):=ht;clear h ht;go_in;go_wp2_with fail;refine HN.out.mono ?_;rintro e w1⟨rfl,A1,c1,h1⟩;have HI:Hid (∀W:World,Below w1.heap.size w1 W->Calls Tryz.prog 131 #[.int .i64 n] W fun e w'=>e=.returned (.string (wbS (q3c n.toNat)))/\Below W.heap.size W w'):=fun W hb=>z8g n h0 h9 W ((HT.out.below h1.bl).below hb)
 have HS:Hid (∀W:World,Below w1.heap.size w1 W->Calls Tryz.prog 38 #[.pointer (some ⟨b,0,none⟩),.string (wbS (q3c n.toNat))] W fun e w'=>(∃z,e=.returned (.tuple #[z,.nilIface]))/\WyE w0 b (bs++q3c n.toNat) rest w'):=fun W hb=>by
  refine(q3b (h1.grew hb) (wbS (q3c n.toNat)) (by omega) (by rw[<-q0h,v1s];omega)).mono ?_;rintro e w'⟨rfl,h,_⟩;exact⟨⟨_,rfl⟩,_,_,h⟩
 generalize wbS (q3c n.toNat)=S at HI HS;clear h1 HN;go_wp2_with fail
 go_region_with (first|(go_at_call 131;refine(HI.out _ (k1w w1 _)).mono ?_;rintro e w2⟨rfl,b2⟩)|(go_at_call 38;refine(HS.out _ (q0g (k1w w1 _) (Nat.le_refl _) b2)).mono ?_;rintro e w3⟨⟨z,rfl⟩,h3⟩))
 all_goals
  go_wp2
  go_end0
  exact⟨rfl,h3⟩
theorem k8c{w0:World}{b:Nat}(tx:ByteArray)(n:Int):ExC w0 b ⟨2,tx,n⟩ .nil:=by
 intro bs rest w hl hW;obtain⟨A,c,h⟩:=hW;have HN:Hid (Calls Tryz.prog 83 #[.pointer (some ⟨b,0,none⟩)] w fun e w'=>e=.returned (tdV ⟨2,tx,n⟩)/\WyE w0 b bs rest w'):=q3a h;have HL:Hid (q2l ⟨2,tx,n⟩ Fo.nil.trs=btL tx):=rfl;rw[HL.out]at hl⊢;clear h;go_in;go_wp2_with fail;refine HN.out.mono ?_;rintro e w1⟨rfl,A1,c1,h1⟩
 have HS:Hid (∀W:World,Below w1.heap.size w1 W->Calls Tryz.prog 38 #[.pointer (some ⟨b,0,none⟩),.string tx] W fun e w'=>(∃z,e=.returned (.tuple #[z,.nilIface]))/\WyE w0 b (bs++btL tx) rest w'):=fun W hb=>by
  refine(q3b (h1.grew hb) tx (by omega) (by rw[<-q0h];omega)).mono ?_;rintro e w'⟨rfl,h,_⟩;exact⟨⟨_,rfl⟩,_,_,h⟩
 clear h1 HN;go_wp2_with fail
 go_region_with (go_at_call 38;refine(HS.out _ (k1w w1 _)).mono ?_;rintro e w3⟨⟨z,rfl⟩,h3⟩)
 all_goals
  go_wp2
  go_end0
  exact⟨rfl,h3⟩
abbrev KdC(w0:World)(b:Nat)(F:Fo)(o z:UInt8):Prop:=∀(bs:List UInt8)(rest:List Td)(w:World),bs.length+(cmx F.trs).length+2<=500000->WyE w0 b bs (F.nodes++rest) w->
 Calls Tryz.prog 132 #[.pointer (some ⟨b,0,none⟩),.int .i64 (F.len:Int),.int .u8 (o.toNat:Int),.int .u8 (z.toNat:Int)] w fun e w'=>e=.returned (.tuple #[])/\WyE w0 b (bs++o::(cmx F.trs++[z])) rest w'
theorem k8b{w0:World}{b:Nat}{F:Fo}(tx:ByteArray)(hK:KdC w0 b F 91 93):ExC w0 b ⟨4,tx,(F.len:Int)⟩ F:=by
 intro bs rest w hl hW;obtain⟨A,c,h⟩:=hW;have HN:Hid (Calls Tryz.prog 83 #[.pointer (some ⟨b,0,none⟩)] w fun e w'=>e=.returned (tdV ⟨4,tx,(F.len:Int)⟩)/\WyE w0 b bs (F.nodes++rest) w'):=q3a h;have HL:Hid (q2l ⟨4,tx,(F.len:Int)⟩ F.trs=91::(cmx F.trs++[93])):=rfl;rw[HL.out]at hl⊢;have HK:Hid (KdC w0 b F 91 93):=hK;clear h hK;simp only[List.length_cons,List.length_append,List.length_nil]at hl;go_in;go_wp2_with fail;refine HN.out.mono ?_;rintro e w1⟨rfl,A1,c1,h1⟩;have HS:Hid (∀W:World,Below w1.heap.size w1 W->Calls Tryz.prog 132 #[.pointer (some ⟨b,0,none⟩),.int .i64 (F.len:Int),.int .u8 91,.int .u8 93] W fun e w'=>e=.returned (.tuple #[])/\WyE w0 b (bs++91::(cmx F.trs++[93])) rest w'):=fun W hb=>HK.out bs rest W (by omega) ⟨_,_,h1.grew hb⟩
 clear h1 HN HK;go_wp2_with fail;refine(HS.out _ (q7o w1 _)).mono ?_;rintro e w3⟨rfl,h3⟩;go_wp2
 go_end0
 exact⟨rfl,h3⟩
theorem k8a{w0:World}{b:Nat}{F:Fo}(tx:ByteArray)(hK:KdC w0 b F 40 41):ExC w0 b ⟨3,tx,(F.len:Int)⟩ F:=by
 intro bs rest w hl hW;obtain⟨A,c,h⟩:=hW;have HN:Hid (Calls Tryz.prog 83 #[.pointer (some ⟨b,0,none⟩)] w fun e w'=>e=.returned (tdV ⟨3,tx,(F.len:Int)⟩)/\WyE w0 b bs (F.nodes++rest) w'):=q3a h;have HL:Hid (q2l ⟨3,tx,(F.len:Int)⟩ F.trs=btL tx++40::(cmx F.trs++[41])):=rfl;rw[HL.out]at hl⊢;have HK:Hid (KdC w0 b F 40 41):=hK;clear h hK;simp only[List.length_cons,List.length_append,List.length_nil]at hl;go_in;go_wp2_with fail;refine HN.out.mono ?_;rintro e w1⟨rfl,A1,c1,h1⟩
 have HS:Hid (∀W:World,Below w1.heap.size w1 W->Calls Tryz.prog 38 #[.pointer (some ⟨b,0,none⟩),.string tx] W fun e w'=>(∃z,e=.returned (.tuple #[z,.nilIface]))/\WyE w0 b (bs++btL tx) (F.nodes++rest) w'/\Lib.OthersKept 5 (some b) W w'):=fun W hb=>by
  refine(q3b (h1.grew hb) tx (by omega) (by rw[<-q0h];omega)).mono ?_;rintro e w'⟨rfl,h,hk⟩;exact⟨⟨_,rfl⟩,⟨_,_,h⟩,hk⟩
 have HS2:Hid (∀W:World,WyE w0 b (bs++btL tx) (F.nodes++rest) W->Calls Tryz.prog 132 #[.pointer (some ⟨b,0,none⟩),.int .i64 (F.len:Int),.int .u8 40,.int .u8 41] W fun e w'=>e=.returned (.tuple #[])/\WyE w0 b ((bs++btL tx)++40::(cmx F.trs++[41])) rest w'):=fun W hW=>HK.out _ rest W (by rw[List.length_append];omega) hW
 have hbw:b<w1.heap.size:=h1.x.lt;clear h1 HN HK;generalize F.len=fn at HS2 HL⊢;go_wp2_with fail
 go_region_with (go_at_call 38;refine(HS.out _ (k1w w1 _)).mono ?_;rintro e w3⟨⟨z,rfl⟩,h3,hk3⟩)
 all_goals
  have hbox:w3.heap[w1.heap.size]?=some (.cells #[.int .i64 3,.string tx,.int .i64 (fn:Int)] 47 (0,0)):=hk3 _ _ (heap_alloc_new w1 _) (by simp;omega) (fun c fz e=>by cases e);have hn2:w3.cell? ⟨w1.heap.size,2,none⟩=some (.int .i64 (fn:Int)):=by rw[Lib.cell_of_heap hbox];rfl
  clear hbox hk3;go_wp2_with fail;refine(HS2.out _ h3).mono ?_;rintro e w4⟨rfl,h4⟩;go_wp2
  go_end0
  rw[List.append_assoc]at h4;exact⟨rfl,h4⟩
end Go.Proofs.YthjapabokcajhaaGreatDoor
namespace Go.Proofs.YthjapabokcajhaaGreatDoor
open Go Go.RowKit
set_option maxRecDepth 100000
theorem z1a(s:ByteArray)(w:World)(h:s.size<=281474976710656):
  Calls Tryz.prog 78 #[.string s] w fun e w'=>e=.returned (.string s)/\Below w.heap.size w w':=by
 go_in;go_wp2_with fail;refine(clone_sh s _ h).mono ?_;rintro e w2⟨rfl,hb⟩;go_wp2;go_ret;exact⟨rfl,hb⟩
end Go.Proofs.YthjapabokcajhaaGreatDoor
