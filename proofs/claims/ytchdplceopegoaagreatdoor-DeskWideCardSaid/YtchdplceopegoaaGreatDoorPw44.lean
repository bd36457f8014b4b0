/- Texts as one: SyL. -/
import Derived.Test.YtchdplceopegoaaGreatDoorPw42
namespace Go.Proofs.YtchdplceopegoaaGreatDoor
open Go Go.RowKit
set_option maxRecDepth 100000
set_option maxHeartbeats 8000000
def plE (ps:List Nat) (k:Nat) (i:Nat):Nat:=(ps[i]?).getD k
theorem j1r {B:Nat} {v:Value} {ks:List Nat} {w:World} (h:z1j B v ks w):z6y B v (ks.map fun (k:Nat)=>(k:Int)) w:=by
 have e:q3g (ks.map fun (k:Nat)=>(k:Int))=q1u ks:=by simp [q3g,q1u]
 show w.ownsRow _ _ _ _ _ _
 rw [List.length_map,e]
 exact h
theorem k3m {w w':World} {B B' e e' size size' n n':Nat} {v v':Value} {xs xs':List Value} (h:w.ownsRow B e size v n xs) (h':w.ownsRow B' e' size' v' n' xs') (hne:e≠e') (hg:w.grownBy w' v'.ownBlock):w'.ownsRow B e size v n xs:=by
 refine ⟨h.1,?_⟩
 rcases h.2 with h0 | ⟨g,c,cur,hv,hB,hk,rest⟩
 ·exact .inl h0
 ·refine .inr ⟨g,c,cur,hv,hB,(hg.block g (Array.getElem?_eq_some_iff.1 hk).1 fun e1=>?_).trans hk,rest⟩
  rcases h'.2 with ⟨rfl,_⟩ | ⟨g',c',cur',rfl,_,hk',_⟩
  ·cases e1
  ·have:g=g':=by simpa [Value.ownBlock] using e1
   subst this
   rw [hk] at hk'
   simp only [Option.some.injEq,Obj.cells.injEq] at hk'
   exact hne hk'.2.1
theorem k3k {w:World} {B e n m c:Nat} {A:Option Addr} {xs:List Value} (h:w.ownsRow B e 1 (.slice A m c) n xs) (h0:0<n):∃ g,A=some ⟨g,0,none⟩∧B≤g∧g<w.heap.size∧n≤c∧∀ i u,xs[i]? = some u→w.cell? ⟨g,i,none⟩=some u:=by
 rcases h.2 with ⟨_,h1⟩ | ⟨g,c',cur,hv,hB,hk,hnc,_,hsz,htake⟩
 ·omega
 ·simp only [Value.slice.injEq] at hv
  obtain ⟨rfl,rfl,rfl⟩:=hv
  refine ⟨g,rfl,hB,(Array.getElem?_eq_some_iff.1 hk).1,hnc,fun i u hu=>?_⟩
  rw [←htake] at hu
  have hi:i<m*1:=by
   have:=(List.getElem?_eq_some_iff.1 hu).1
   rw [List.length_take] at this
   omega
  rw [List.getElem?_take_of_lt hi] at hu
  simp only [World.cell?,hk]
  simpa using hu
theorem j8d {B n:Nat} {A P:Option Addr} {ac pc:Nat} {ws:List Wd} {ps:List Nat} {k:Nat} {w:World} (hn:ws.length=n) (hfew:n≤60000) (hpl:ps.length=ws.length) (h1:q1w B (.slice A (n+1) ac) (ws.map wbS++[⟨#[]⟩]) w) (h2:z6y B (.slice P (n+1) pc) ((ps.map fun (k:Nat)=>(k:Int))++[(k:Int)]) w) :
  ∃ gw ga,A=some ⟨gw,0,none⟩∧P=some ⟨ga,0,none⟩∧B≤gw∧B≤ga∧gw<w.heap.size∧ga<w.heap.size∧Ry ⟨gw,ac,ga,pc⟩ ws (plE ps k) w.heap.size 0 (w.alloc (.cells #[.slice (some ⟨gw,0,none⟩) (n+1) ac,.slice (some ⟨ga,0,none⟩) (n+1) pc] 159)):=by
 subst hn
 have hl1:(ws.map wbS++[(⟨#[]⟩:ByteArray)]).length=ws.length+1:=by simp
 have hl2:((ps.map fun (k:Nat)=>(k:Int))++[(k:Int)]).length=ws.length+1:=by simp [hpl]
 obtain ⟨gw,rfl,b1,l1,c1,r1⟩:=k3k h1 (by rw [hl1];omega)
 obtain ⟨ga,rfl,b2,l2,c2,r2⟩:=k3k h2 (by rw [hl2];omega)
 rw [hl1] at c1
 rw [hl2] at c2
 have hk:=heap_alloc_new w (.cells #[.slice (some ⟨gw,0,none⟩) (ws.length+1) ac,.slice (some ⟨ga,0,none⟩) (ws.length+1) pc] 159)
 obtain ⟨bc,_⟩:=q0v (q1j w (.cells #[.slice (some ⟨gw,0,none⟩) (ws.length+1) ac,.slice (some ⟨ga,0,none⟩) (ws.length+1) pc] 159))
 refine ⟨gw,ga,rfl,rfl,b1,b2,l1,l2,Nat.zero_le _,by rw [Lib.cell_of_heap hk];rfl,by rw [Lib.cell_of_heap hk];rfl,⟨_,_,hk,rfl⟩,fun i hi=>?_,fun i hi=>?_,by show gw≠w.heap.size;omega,by show ga≠w.heap.size;omega,by show ws.length<ac;omega,by show ws.length<pc;omega,hfew⟩
 ·refine (bc _ _ l1).trans (r1 i _ ?_)
  by_cases e:i<ws.length
  ·rw [q2w e,q3e,List.getElem?_append_left (by simp [strCells];omega)]
   simp [strCells,e]
  ·have:i=ws.length:=by omega
   subst this
   rw [q5e (Nat.le_refl _),q3e,List.getElem?_append_right (by simp [strCells])]
   simp [strCells];rfl
 ·refine (bc _ _ l2).trans (r2 i _ ?_)
  unfold plE
  by_cases e:i<ps.length
  ·rw [z0g,List.getElem?_append_left (by simp [q3g];omega)]
   simp [q3g,e]
  ·have:i=ps.length:=by omega
   subst this
   rw [z0g,List.getElem?_append_right (by simp [q3g])]
   simp [q3g]
structure y0h (K:LwK) (ws:List Wd) (pl:Nat→Nat) (B H rb:Nat) (w:World) (q:Nat) (pv:Bool) (acc:List (List Td)) (v:Value) (wr:World):Prop where
 rd:Ry K ws pl rb q wr
 o:z0h (rb+1) v acc wr
 b0:wr.heap[H]? = some (.cells #[v] 31 (0,0))
 b1:wr.heap[H+1]? = some (.cells #[.int .i64 0] 3 (0,0))
 b2:wr.heap[H+2]? = some (.cells #[.nilIface] 27 (0,0))
 bl:Below B w wr
 pg:∀ r,PG pv acc (ws.drop q) r→PG false [] ws r
 nx:pv=true→∀ x,ws[q]? = some x→x.headD 0≠35
 nl:acc.length≤q
 sz:rb<wr.heap.size
theorem v6v (w:World) (a b c d:Obj):((((w.alloc a).alloc b).alloc c).alloc d).heap[w.heap.size]? = some a∧((((w.alloc a).alloc b).alloc c).alloc d).heap[w.heap.size+1]? = some b∧((((w.alloc a).alloc b).alloc c).alloc d).heap[w.heap.size+2]? = some c:=by
 have s1:(w.alloc a).heap.size=w.heap.size+1:=World.size_alloc ..
 have s2:((w.alloc a).alloc b).heap.size=w.heap.size+2:=by rw [World.size_alloc,s1]
 have s3:(((w.alloc a).alloc b).alloc c).heap.size=w.heap.size+3:=by rw [World.size_alloc,s2]
 have e1:=heap_alloc_new (w.alloc a) b
 have e2:=heap_alloc_new ((w.alloc a).alloc b) c
 rw [s1] at e1
 rw [s2] at e2
 exact ⟨(Lib.alloc_old _ _ _ (by omega)).trans ((Lib.alloc_old _ _ _ (by omega)).trans ((Lib.alloc_old _ _ _ (by omega)).trans (heap_alloc_new w a))),(Lib.alloc_old _ _ _ (by omega)).trans ((Lib.alloc_old _ _ _ (by omega)).trans e1),(Lib.alloc_old _ _ _ (by omega)).trans e2⟩
theorem But.undrew {B b:Nat} {w w':World} (h:But B b w.drew w'):But B b w w':=⟨h.os,h.tape,h.output,h.size,h.block⟩
section
variable {K:LwK} {ws:List Wd} {pl:Nat→Nat} {B H rb:Nat} {w wr:World} {q:Nat} {pv:Bool} {acc:List (List Td)} {A:Option Addr} {n c:Nat}
structure y0g (K:LwK) (ws:List Wd) (pl:Nat→Nat) (B H rb:Nat) (w:World) (q:Nat) (pv:Bool) (acc:List (List Td)) (v:Value) (t:List Td) (g c4:Nat) (w4:World):Prop where
 rd:Ry K ws pl rb q w4
 o:z0h (rb+1) v acc w4
 tt:q1o (rb+1) (.slice (some ⟨g,0,none⟩) t.length c4) t w4
 b0:w4.heap[H]? = some (.cells #[v] 31 (0,0))
 b1:w4.heap[H+1]? = some (.cells #[.int .i64 0] 3 (0,0))
 b2:w4.heap[H+2]? = some (.cells #[.nilIface] 27 (0,0))
 bl:Below B w w4
 pg:∀ r,PG pv (acc++[t]) (ws.drop q) r→PG false [] ws r
 nx:pv=true→∀ x,ws[q]? = some x→x.headD 0≠35
 nl:acc.length+1≤q
 sz:rb<w4.heap.size
theorem v8v {n':Bool} {q':Nat} {t:List Td} {g c4:Nat} {w4:World} (h:y0h K ws pl B H rb w q pv acc (.slice A n c) wr) (hH:H+4≤rb) (hBr:B≤rb) (hG:v6m K ws pl rb q wr.drew q' n' t (.slice (some ⟨g,0,none⟩) t.length c4) w4):y0g K ws pl B H rb w q' n' acc (.slice A n c) t g c4 w4:=by
 have hs:=h.sz
 have hs4:wr.heap.size≤w4.heap.size:=hG.bt.size
 have hbt:But wr.heap.size rb wr w4:=hG.bt.undrew
 have hlt:=hG.lt
 have hnl:=h.nl
 refine ⟨hG.rd,h.o.but hbt (by omega),hG.o.down (by show rb+1≤wr.heap.size;omega),(hbt.block _ (by omega) (by omega)).trans h.b0,(hbt.block _ (by omega) (by omega)).trans h.b1,(hbt.block _ (by omega) (by omega)).trans h.b2,h.bl.trans (hbt.low (by omega) hBr),fun r hr=>h.pg r (hG.pg pv acc r h.nx hr),hG.nx,by omega,by omega⟩
theorem v5l {t:List Td} {g c4:Nat} {w4 w6:World} {A6:Option Addr} {c6:Nat} {O:Obj} (h:y0g K ws pl B H rb w q pv acc (.slice A n c) t g c4 w4) (hH:H+4≤rb) (hBr:B≤rb) (hBH:B≤H) (hgw:K.gw<rb) (hga:K.ga<rb) (ho:z0h (rb+1) (.slice A6 (n+1) c6) (acc++[t]) w6) (hg:(w4.alloc O).grownBy w6 (Value.slice A n c).ownBlock):y0h K ws pl B H rb w q pv (acc++[t]) (.slice A6 (n+1) c6) (w6.setCell ⟨H,0,none⟩ (.slice A6 (n+1) c6)):=by
 have hs:=h.sz
 have hsa:(w4.alloc O).heap.size=w4.heap.size+1:=World.size_alloc ..
 have hbel:Below (rb+1) w4 w6:=((q1j w4 O).mono (by omega)).grown hg (by omega) (fun k hk=>h.o.own_le hk)
 have hset:∀ j,j≠H→(w6.setCell ⟨H,0,none⟩ (.slice A6 (n+1) c6)).heap[j]? = w6.heap[j]?:=fun j hj=>Below.heap_setCell _ _ _ _ hj
 have hb0:w6.heap[H]? = some (.cells #[.slice A n c] 31 (0,0)):=(hbel.block _ (by omega)).trans h.b0
 have hs6:=hg.size
 have hcH:w4.cell? ⟨H,0,none⟩=some (.slice A n c):=by rw [Lib.cell_of_heap h.b0];rfl
 have hn1:H≠K.gw:=fun e=>by
  have:=h.rd.wd 0 (Nat.zero_le _)
  rw [←e,hcH] at this
  cases this
 have hn2:H≠K.ga:=fun e=>by
  have:=h.rd.pt 0 (Nat.zero_le _)
  rw [←e,hcH] at this
  cases this
 refine ⟨(h.rd.keepB hbel (by omega) (by omega) (by omega)).far (by omega) hn1 hn2,ho.kept fun j h1 _=>hset j (by omega),?_,(hset _ (by omega)).trans ((hbel.block _ (by omega)).trans h.b1),(hset _ (by omega)).trans ((hbel.block _ (by omega)).trans h.b2),(h.bl.trans (hbel.mono (by omega))).setCell (p:=⟨H,0,none⟩) hBH _,h.pg,h.nx,by rw [List.length_append];exact h.nl,by rw [World.size_setCell];omega⟩
 simp [World.setCell,Array.getElem?_modify,hb0]
end
inductive z6z (ws:List Wd) (pl:Nat→Nat) (B:Nat) (w:World):Ending→World→Prop where
 | ok {qs A c w'} (pg:PG false [] ws (.ok qs)) (hp:Prg w' A qs) (hc:qs.length≤c) (hb:Below B w w'):z6z ws pl B w (.returned (.tuple #[.slice A qs.length c,.int .i64 0,.nilIface])) w'
 | bad {u w'} (pg:PG false [] ws (.bad u)) (hb:Below B w w'):z6z ws pl B w (.returned (.tuple #[.slice none 0 0,.int .i64 (pl (ws.length - u.length):Int),.iface 24 (.int .i64 5)])) w'
theorem j4u {B:Nat} {A P:Option Addr} {ac pc:Nat} {ws:List Wd} {ps:List Nat} {k:Nat} {w:World} (htk:∀ x∈ws,q3i x) (htot:(ws.map List.length).sum≤60000) (hfew:ws.length≤60000) (hpl:ps.length=ws.length) (hB:B≤w.heap.size)
  (h1:q1w B (.slice A ws.length ac) (ws.map wbS) w) (h2:z1j B (.slice P ws.length pc) ps w) (hT:∀ w',Below B w w'→q6n w') :
  Calls Tryz.prog 49 #[.slice A ws.length ac,.slice P ws.length pc,.int .i64 (k:Int)] w fun e w'=>z6z ws (plE ps k) B w e w':=by
 have hmf:∀ (fn:Fn) (first cap:Array Value) (w:World),(Instr.makeFunc fn first cap).run Tryz.prog w = .ok (.func fn first cap) w:=fun _ _ _ _=>rfl
 have HT:Hid (∀ w',Below B w w'→q6n w'):=hT
 have HTK:Hid (∀ x∈ws,q3i x):=htk
 have HTO:Hid ((ws.map List.length).sum≤60000):=htot
 have H1:Hid (q1w B (.slice A ws.length ac) (ws.map wbS) w):=h1
 have H2:Hid (z6y B (.slice P ws.length pc) (ps.map fun (k:Nat)=>(k:Int)) w):=j1r h2
 have HPL:Hid (ps.length=ws.length):=hpl
 clear hT htk htot h1 h2 hpl
 generalize hnl:ws.length=nl at H1 H2
 have HNL:Hid (ws.length=nl):=hnl
 rw [hnl] at hfew
 clear hnl
 have HML:Hid ((ws.map wbS).length=nl):=(show _=_ by rw [List.length_map];exact HNL.out)
 go_enter_defers Tryz.func49,Tryz.ntmps49
 have HO4:Hid (q1w B (.slice A nl ac) (ws.map wbS) ((((w.alloc (.cells #[.slice none 0 0] 31)).alloc (.cells #[.int .i64 0] 3)).alloc (.cells #[.nilIface] 27)).alloc (.cells #[.string ⟨#[]⟩] 9))):=q1v (q1v (q1v (q1v H1.out (q1j _ _)) (q1j _ _)) (q1j _ _)) (q1j _ _)
 have HQ4:Hid (z6y B (.slice P nl pc) (ps.map fun (k:Nat)=>(k:Int)) ((((w.alloc (.cells #[.slice none 0 0] 31)).alloc (.cells #[.int .i64 0] 3)).alloc (.cells #[.nilIface] 27)).alloc (.cells #[.string ⟨#[]⟩] 9))):=q1v (q1v (q1v (q1v H2.out (q1j _ _)) (q1j _ _)) (q1j _ _)) (q1j _ _)
 have HW4:Hid (Wds ((((w.alloc (.cells #[.slice none 0 0] 31)).alloc (.cells #[.int .i64 0] 3)).alloc (.cells #[.nilIface] 27)).alloc (.cells #[.string ⟨#[]⟩] 9)) (some ⟨w.heap.size+1+1+1,0,none⟩) [⟨#[]⟩]):=by
  intro i hi
  have hi0:i=0:=by simp at hi;omega
  subst hi0
  refine ⟨w.heap.size+1+1+1,0,rfl,by simp,?_⟩
  simp [go_sem]
 have HB4:Hid (Below w.heap.size w ((((w.alloc (.cells #[.slice none 0 0] 31)).alloc (.cells #[.int .i64 0] 3)).alloc (.cells #[.nilIface] 27)).alloc (.cells #[.string ⟨#[]⟩] 9))):=((((Below.refl _ _).alloc (Nat.le_refl _) _).alloc (by simp) _).alloc (by simp;omega) _).alloc (by simp;omega) _
 have HS4:Hid (((((w.alloc (.cells #[.slice none 0 0] 31)).alloc (.cells #[.int .i64 0] 3)).alloc (.cells #[.nilIface] 27)).alloc (.cells #[.string ⟨#[]⟩] 9)).heap.size=w.heap.size+1+1+1+1):=(show _=_ by simp)
 go_wp2_with (at_builtin;refine z4t rfl _ _ rfl B _ (ws.map wbS) rfl HO4.out (some ⟨w.heap.size+1+1+1,0,none⟩) 1 [⟨#[]⟩] rfl 1 rfl HW4.out (fun e=>by cases e) (nl+1) (by rw [HML.out]) (by omega) (by rw [HS4.out];omega) ?_)
 intro A5 c5 w5 hown5 hgrow5
 have hl1:∀ k',(Value.slice A nl ac).ownBlock=some k'→B≤k'∧k'<w.heap.size:=fun k' hk=>World.ownsRow.lt H1.out k' hk
 have hl2:∀ k',(Value.slice P nl pc).ownBlock=some k'→B≤k'∧k'<w.heap.size:=fun k' hk=>World.ownsRow.lt H2.out k' hk
 have hs5:=hgrow5.size
 rw [HS4.out] at hs5
 have hkeep5:∀ j,w.heap.size≤j→j<w.heap.size+4→w5.heap[j]? = ((((w.alloc (.cells #[.slice none 0 0] 31)).alloc (.cells #[.int .i64 0] 3)).alloc (.cells #[.nilIface] 27)).alloc (.cells #[.string ⟨#[]⟩] 9)).heap[j]?:=fun j h1 h2=>hgrow5.block j (by rw [HS4.out];omega) (fun e=>by have:=(hl1 j e.symm).2;omega)
 have HX5:Hid (w5.heap[w.heap.size]? = some (.cells #[.slice none 0 0] 31 (0,0))∧w5.heap[w.heap.size+1]? = some (.cells #[.int .i64 0] 3 (0,0))∧w5.heap[w.heap.size+2]? = some (.cells #[.nilIface] 27 (0,0))):=by
  obtain ⟨e1,e2,e3⟩:=v6v w (.cells #[.slice none 0 0] 31) (.cells #[.int .i64 0] 3) (.cells #[.nilIface] 27) (.cells #[.string ⟨#[]⟩] 9)
  exact ⟨(hkeep5 _ (by omega) (by omega)).trans e1,(hkeep5 _ (by omega) (by omega)).trans e2,(hkeep5 _ (by omega) (by omega)).trans e3⟩
 have HB5:Hid (Below B w w5):=(HB4.out.mono hB).grown hgrow5 (by rw [HS4.out];omega) (fun k' hk=>(hl1 k' hk).1)
 have HO5:Hid (q1w B (.slice A5 (nl+1) c5) (ws.map wbS++[⟨#[]⟩]) (w5.alloc (.cells #[.int .i64 (k:Int)] 3))):=q1v hown5 (q1j _ _)
 have HQ5:Hid (z6y B (.slice P nl pc) (ps.map fun (k:Nat)=>(k:Int)) (w5.alloc (.cells #[.int .i64 (k:Int)] 3))):=q1v (k3m HQ4.out HO4.out (by decide) hgrow5) (q1j _ _)
 have HW5:Hid (z3e (w5.alloc (.cells #[.int .i64 (k:Int)] 3)) (some ⟨w5.heap.size,0,none⟩) [(k:Int)]):=by
  intro i hi
  have hi0:i=0:=by simp at hi;omega
  subst hi0
  refine ⟨w5.heap.size,0,rfl,by simp,?_⟩
  simp [go_sem]
 have HS5:Hid ((w5.alloc (.cells #[.int .i64 (k:Int)] 3)).heap.size=w5.heap.size+1):=World.size_alloc ..
 have HPN:Hid ((ps.map fun (k:Nat)=>(k:Int)).length=nl):=(show _=_ by rw [List.length_map,HPL.out,HNL.out])
 clear hown5 hgrow5 hkeep5 HO4 HQ4 HW4 HB4 HS4
 go_wp2_with (at_builtin;refine j5c rfl _ _ rfl B _ (ps.map fun (k:Nat)=>(k:Int)) rfl HQ5.out (some ⟨w5.heap.size,0,none⟩) 1 [(k:Int)] rfl 1 rfl HW5.out (fun e=>by cases e) (nl+1) (by rw [HPN.out]) (by omega) (by rw [HS5.out];omega) ?_)
 intro P7 c7 w7 hown7 hgrow7
 have hs7:=hgrow7.size
 rw [HS5.out] at hs7
 have ho7:q1w B (.slice A5 (nl+1) c5) (ws.map wbS++[⟨#[]⟩]) w7:=k3m HO5.out HQ5.out (by decide) hgrow7
 obtain ⟨gw,ga,rfl,rfl,bgw,bga,lgw,lga,hry⟩:=j8d HNL.out hfew HPL.out ho7 hown7
 have hkeep7:∀ j,w.heap.size≤j→j<w.heap.size+4→w7.heap[j]? = w5.heap[j]?:=fun j h1 h2=>(hgrow7.block j (by rw [HS5.out];omega) (fun e=>by have:=(hl2 j e.symm).2;omega)).trans (Lib.alloc_old w5 _ j (by omega))
 have HV0:Hid (y0h ⟨gw,c5,ga,c7⟩ ws (plE ps k) B w.heap.size w7.heap.size w 0 false [] (.slice none 0 0) (w7.alloc (.cells #[.slice (some ⟨gw,0,none⟩) (nl+1) c5,.slice (some ⟨ga,0,none⟩) (nl+1) c7] 159))):=by
  have hal:∀ j,w.heap.size≤j→j<w.heap.size+4→(w7.alloc (.cells #[.slice (some ⟨gw,0,none⟩) (nl+1) c5,.slice (some ⟨ga,0,none⟩) (nl+1) c7] 159)).heap[j]? = w5.heap[j]?:=fun j h1 h2=>(Lib.alloc_old w7 _ j (by omega)).trans (hkeep7 j h1 h2)
  refine ⟨hry,z0h.nil _ _,(hal _ (by omega) (by omega)).trans HX5.out.1,(hal _ (by omega) (by omega)).trans HX5.out.2.1,(hal _ (by omega) (by omega)).trans HX5.out.2.2,?_,fun r hr=>hr,(fun e=>by cases e),Nat.zero_le _,by rw [World.size_alloc];omega⟩
  have hb7:Below B w w7:=(HB5.out.alloc (by omega) _).grown hgrow7 (by rw [HS5.out];omega) (fun k' hk=>(hl2 k' hk).1)
  exact hb7.alloc (by omega) _
 have hH:w.heap.size+4≤w7.heap.size:=by omega
 clear hown7 hgrow7 ho7 hry hkeep7 HX5 HB5 HO5 HQ5 HW5 HS5 HPN H1 H2 HML
 have hgwr:gw<w7.heap.size:=lgw
 have hgar:ga<w7.heap.size:=lga
 have hBr:B≤w7.heap.size:=by omega
 have hBH:B≤w.heap.size:=hB
 go_wp2_with fail
 generalize hrb:w7.heap.size=rb at HV0 hH hgwr hgar hBr
 have HRB:Hid (w7.heap.size=rb):=hrb
 clear hrb lgw lga hl1 hl2 hs5 hs7
 go_loopw [19] (fun _ wr=>∃ (q:Nat) (pv:Bool) (acc:List (List Td)) (A:Option Addr) (n c:Nat),acc.length=n∧y0h ⟨gw,c5,ga,c7⟩ ws (plE ps k) B w.heap.size rb w q pv acc (.slice A n c) wr) (fun _ wr=>k5u wr rb)
 case atStart=>exact ⟨0,false,[],none,0,0,rfl,HV0.out⟩
 case round=>
  obtain ⟨q,pv,acc,A,n,c,hacc,hV⟩:=hrel
  have HV:=(show Hid (_) from hV)
  have HAN:Hid (acc.length=n):=hacc
  have hqle:=hV.rd.le
  have hnlq:=hV.nl
  rw [hacc] at hnlq
  have hsr:=hV.sz
  have e0:wr.cell? ⟨w.heap.size,0,none⟩=some (.slice A n c):=by rw [Lib.cell_of_heap hV.b0];rfl
  have f0:wr.frozen? ⟨w.heap.size,0,none⟩=false:=Lib.frozen_of_heap hV.b0 0
  have HL1:Hid (Calls Tryz.prog 79 #[.pointer (some ⟨rb,0,none⟩)] wr fun e w'=>e = .returned (.string (wbS (ws.getD q [])))∧wr=w'):=(q5a hV.rd).mono fun _ _ h=>⟨h.1,h.2.symm⟩
  have hwsl:=HNL.out
  by_cases hq:q<ws.length
  ·rw [q2w hq] at HL1
   have hne:¬ (wbS ws[q]).toList=[]:=by
    rw [Lib.toList_data]
    exact v1k (HTK.out _ (List.getElem_mem hq))
   have hne2:((wbS ws[q]).toList == [])=false:=by
    cases h:((wbS ws[q]).toList == []) with
    | false=>rfl
    | true=>exact absurd (by simpa using h) hne
   have hnl0:(⟨#[]⟩:ByteArray).toList=[]:=by rw [Lib.toList_data]
   have HST:Hid (Calls Tryz.prog 80 #[.pointer (some ⟨rb,0,none⟩)] wr.drew fun e w'=>q9d ⟨gw,c5,ga,c7⟩ ws (plE ps k) rb q wr.drew e w'):=j4v HTK.out HTO.out hq (fun w' hb=>HT.out w' (hV.bl.trans ((show But wr.heap.size rb wr w' from hb.undrew).low (by omega) hBr))) (hV.rd.keep (Below.drew (Below.refl _ _)))
   generalize wbS ws[q]=S at HL1 hne hne2
   clear hV hacc
   go_wp2_with fail
   refine HL1.out.mono ?_
   rintro e w1 ⟨rfl,rfl⟩
   go_wp2_with fail
   refine wp_region_any (by kernel_rfl) ?_
   try (change wpAny _ _ _ _ _ _ _ (World.drew _))
   refine wpAny_ready (rs:=[0,1]) (by kernel_rfl) (by simp) ?_
   refine AllReady.cons rfl (fun K hK=>?_) (AllReady.cons rfl (fun K hK=>?_) AllReady.nil)
   ·go_simp
    refine hK _ _ ?_
    clear hK K
    refine wpAny_ready (rs:=[1]) (by kernel_rfl) (by simp) ?_
    refine AllReady.cons rfl (fun K hK=>?_) AllReady.nil
    go_simp
    refine HST.out.mono ?_
    intro e w4 hG
    cases hG with
    | @bad u4 _ pg4 bt4=>
     have hs4:wr.heap.size≤w4.heap.size:=bt4.size
     have hbt:But wr.heap.size rb wr w4:=bt4.undrew
     have x0:w4.heap[w.heap.size]? = some (.cells #[.slice A n c] 31 (0,0)):=(hbt.block _ (by omega) (by omega)).trans HV.out.b0
     have x1:w4.heap[w.heap.size+1]? = some (.cells #[.int .i64 0] 3 (0,0)):=(hbt.block _ (by omega) (by omega)).trans HV.out.b1
     have x2:w4.heap[w.heap.size+2]? = some (.cells #[.nilIface] 27 (0,0)):=(hbt.block _ (by omega) (by omega)).trans HV.out.b2
     have hbl:Below B w w4:=HV.out.bl.trans (hbt.low (by omega) hBr)
     have HCA:Hid (CallsD Tryz.prog 78 #[.pointer (some ⟨w.heap.size,0,none⟩),.pointer (some ⟨w.heap.size+1,0,none⟩),.pointer (some ⟨w.heap.size+1+1,0,none⟩)] (.panicking [q3t (plE ps k (ws.length - u4.length))]) w4 fun e u' w'=>e = .returned (.tuple #[])∧u' = .panicking [{ v:=.iface 156 (.agg #[.int .i64 (plE ps k (ws.length - u4.length):Int)]),recovered:=true }]∧w'.cell? ⟨w.heap.size,0,none⟩=some (.slice none 0 0)∧w'.cell? ⟨w.heap.size+1,0,none⟩=some (.int .i64 (plE ps k (ws.length - u4.length):Int))∧w'.cell? ⟨w.heap.size+1+1,0,none⟩=some (.iface 24 (.int .i64 5))∧z6z ws (plE ps k) B w (.returned (.tuple #[.slice none 0 0,.int .i64 (plE ps k (ws.length - u4.length):Int),.iface 24 (.int .i64 5)])) w'):=by
      refine (z3b w.heap.size (w.heap.size+1) (w.heap.size+1+1) _ w4 _ _ _ (by rw [Lib.cell_of_heap x0];rfl) (by rw [Lib.cell_of_heap x1];rfl) (by rw [Lib.cell_of_heap x2];rfl) (Lib.frozen_of_heap x0 0) (Lib.frozen_of_heap x1 0) (Lib.frozen_of_heap x2 0) (by omega) (by omega) (by omega) (by omega) (by omega) (by omega)).mono ?_
      rintro e u' w' ⟨r1,r2,r3,r4,r5,r6⟩
      exact ⟨r1,r2,r3,r4,r5,.bad (HV.out.pg _ (pg4 pv acc)) (hbl.trans (r6 B (by omega) (by omega) (by omega)))⟩
     clear hbt x0 x1 x2 hbl pg4 bt4 hK
     generalize plE ps k (ws.length - u4.length)=pp at HCA ⊢
     go_wp2
     refine leaves_cons (f:=78) (args:=#[.pointer (some ⟨w.heap.size,0,none⟩),.pointer (some ⟨w.heap.size+1,0,none⟩),.pointer (some ⟨w.heap.size+1+1,0,none⟩)]) (by simp) (by simp [go_sem]) ?_
     refine HCA.out.mono ?_
     rintro e u' w' ⟨rfl,rfl,r3,r4,r5,r6⟩
     simp [Leaves,settle,results,Tryz.results49,go_sem,r3,r4,r5]
     exact r6
    | @ok q4 n4 t A4 c4 _ hg=>
     obtain ⟨g,rfl⟩:∃ g,A4=some ⟨g,0,none⟩:=by
      cases t with
      | nil=>exact absurd rfl hg.ne
      | cons y r=>exact z9h hg.o
     have HNX:Hid (y0g ⟨gw,c5,ga,c7⟩ ws (plE ps k) B w.heap.size rb w q4 n4 acc (.slice A n c) t g c4 w4):=v8v HV.out hH hBr hg
     have HQL:Hid (q<q4∧q4≤ws.length):=⟨hg.lt,hg.rd.le⟩
     have hs4:=HNX.out.sz
     have e4:w4.cell? ⟨w.heap.size,0,none⟩=some (.slice A n c):=by rw [Lib.cell_of_heap HNX.out.b0];rfl
     have hl4:w.heap.size<w4.heap.size:=by omega
     have htl:=hg.l
     generalize htl2:t.length=tl at htl
     have HTL:Hid (t.length=tl):=htl2
     have HR3:Hid (z0h (rb+1) (.slice A n c) acc (w4.alloc (.cells #[.slice (some ⟨g,0,none⟩) tl c4] 59))∧q1o (rb+1) (.slice (some ⟨g,0,none⟩) tl c4) t (w4.alloc (.cells #[.slice (some ⟨g,0,none⟩) tl c4] 59))∧(w4.alloc (.cells #[.slice (some ⟨g,0,none⟩) tl c4] 59)).cell? ⟨w4.heap.size,0,none⟩=some (.slice (some ⟨g,0,none⟩) tl c4)):=by
      have h8:=j2n HNX.out.o HNX.out.tt
      rw [htl2] at h8
      exact h8
     clear hg htl2
     refine hK _ _ ?_
     clear hK K
     refine wpAny_ready (rs:=[2]) (by kernel_rfl) (by simp) ?_
     refine AllReady.cons rfl (fun K hK=>?_) AllReady.nil
     go_simp
     refine hK _ _ ?_
     clear hK K
     refine wpAny_ready (rs:=[3]) (by kernel_rfl) (by simp) ?_
     refine AllReady.cons rfl (fun K hK=>?_) AllReady.nil
     refine q6g rfl _ _ rfl (rb+1) (.slice A n c) acc rfl HR3.out.1 w4.heap.size g tl c4 t HTL.out rfl HR3.out.2.2 HR3.out.2.1 (n+1) (by rw [HAN.out]) (by omega) (by rw [World.size_alloc];omega) ?_
     intro A6 c6 w6 hown6 hgrow6
     have hfin:=v5l HNX.out hH hBr hBH hgwr hgar hown6 hgrow6
     have HFIN:=(show Hid (_) from hfin)
     have d6:w6.cell? ⟨w.heap.size,0,none⟩=some (.slice A n c):=by
      have hbel:Below (rb+1) w4 w6:=((q1j w4 _).mono (by omega)).grown hgrow6 (by rw [World.size_alloc];omega) (fun k hk=>HNX.out.o.own_le hk)
      rw [Lib.cell_of_heap ((hbel.block _ (by omega)).trans HNX.out.b0)];rfl
     have f6:w6.frozen? ⟨w.heap.size,0,none⟩=false:=by
      have hbel:Below (rb+1) w4 w6:=((q1j w4 _).mono (by omega)).grown hgrow6 (by rw [World.size_alloc];omega) (fun k hk=>HNX.out.o.own_le hk)
      exact Lib.frozen_of_heap ((hbel.block _ (by omega)).trans HNX.out.b0) 0
     clear hfin hown6 hgrow6
     refine hK _ _ ?_
     clear hK K
     refine wpAny_ready (rs:=[4]) (by kernel_rfl) (by simp) ?_
     refine AllReady.cons rfl (fun K hK=>?_) AllReady.nil
     go_simp
     refine hK _ _ ?_
     clear hK K
     refine wpAny_done (by kernel_rfl) ?_ _
     go_wp2
     refine ⟨⟨_,_,acc++[t],A6,n+1,c6,by rw [List.length_append,HAN.out];rfl,HFIN.out⟩,?_⟩
     rw [HFIN.out.rd.len_eq,HV.out.rd.len_eq]
     have:=HQL.out
     omega
   ·go_simp
    refine HST.out.mono ?_
    intro e w4 hG
    cases hG with
    | @bad u4 _ pg4 bt4=>
     have hs4:wr.heap.size≤w4.heap.size:=bt4.size
     have hbt:But wr.heap.size rb wr w4:=bt4.undrew
     have x0:w4.heap[w.heap.size]? = some (.cells #[.slice A n c] 31 (0,0)):=(hbt.block _ (by omega) (by omega)).trans HV.out.b0
     have x1:w4.heap[w.heap.size+1]? = some (.cells #[.int .i64 0] 3 (0,0)):=(hbt.block _ (by omega) (by omega)).trans HV.out.b1
     have x2:w4.heap[w.heap.size+2]? = some (.cells #[.nilIface] 27 (0,0)):=(hbt.block _ (by omega) (by omega)).trans HV.out.b2
     have hbl:Below B w w4:=HV.out.bl.trans (hbt.low (by omega) hBr)
     have HCA:Hid (CallsD Tryz.prog 78 #[.pointer (some ⟨w.heap.size,0,none⟩),.pointer (some ⟨w.heap.size+1,0,none⟩),.pointer (some ⟨w.heap.size+1+1,0,none⟩)] (.panicking [q3t (plE ps k (ws.length - u4.length))]) w4 fun e u' w'=>e = .returned (.tuple #[])∧u' = .panicking [{ v:=.iface 156 (.agg #[.int .i64 (plE ps k (ws.length - u4.length):Int)]),recovered:=true }]∧w'.cell? ⟨w.heap.size,0,none⟩=some (.slice none 0 0)∧w'.cell? ⟨w.heap.size+1,0,none⟩=some (.int .i64 (plE ps k (ws.length - u4.length):Int))∧w'.cell? ⟨w.heap.size+1+1,0,none⟩=some (.iface 24 (.int .i64 5))∧z6z ws (plE ps k) B w (.returned (.tuple #[.slice none 0 0,.int .i64 (plE ps k (ws.length - u4.length):Int),.iface 24 (.int .i64 5)])) w'):=by
      refine (z3b w.heap.size (w.heap.size+1) (w.heap.size+1+1) _ w4 _ _ _ (by rw [Lib.cell_of_heap x0];rfl) (by rw [Lib.cell_of_heap x1];rfl) (by rw [Lib.cell_of_heap x2];rfl) (Lib.frozen_of_heap x0 0) (Lib.frozen_of_heap x1 0) (Lib.frozen_of_heap x2 0) (by omega) (by omega) (by omega) (by omega) (by omega) (by omega)).mono ?_
      rintro e u' w' ⟨r1,r2,r3,r4,r5,r6⟩
      exact ⟨r1,r2,r3,r4,r5,.bad (HV.out.pg _ (pg4 pv acc)) (hbl.trans (r6 B (by omega) (by omega) (by omega)))⟩
     clear hbt x0 x1 x2 hbl pg4 bt4 hK
     generalize plE ps k (ws.length - u4.length)=pp at HCA ⊢
     go_wp2
     refine leaves_cons (f:=78) (args:=#[.pointer (some ⟨w.heap.size,0,none⟩),.pointer (some ⟨w.heap.size+1,0,none⟩),.pointer (some ⟨w.heap.size+1+1,0,none⟩)]) (by simp) (by simp [go_sem]) ?_
     refine HCA.out.mono ?_
     rintro e u' w' ⟨rfl,rfl,r3,r4,r5,r6⟩
     simp [Leaves,settle,results,Tryz.results49,go_sem,r3,r4,r5]
     exact r6
    | @ok q4 n4 t A4 c4 _ hg=>
     obtain ⟨g,rfl⟩:∃ g,A4=some ⟨g,0,none⟩:=by
      cases t with
      | nil=>exact absurd rfl hg.ne
      | cons y r=>exact z9h hg.o
     have HNX:Hid (y0g ⟨gw,c5,ga,c7⟩ ws (plE ps k) B w.heap.size rb w q4 n4 acc (.slice A n c) t g c4 w4):=v8v HV.out hH hBr hg
     have HQL:Hid (q<q4∧q4≤ws.length):=⟨hg.lt,hg.rd.le⟩
     have hs4:=HNX.out.sz
     have e4:w4.cell? ⟨w.heap.size,0,none⟩=some (.slice A n c):=by rw [Lib.cell_of_heap HNX.out.b0];rfl
     have hl4:w.heap.size<w4.heap.size:=by omega
     have htl:=hg.l
     generalize htl2:t.length=tl at htl
     have HTL:Hid (t.length=tl):=htl2
     have HR3:Hid (z0h (rb+1) (.slice A n c) acc (w4.alloc (.cells #[.slice (some ⟨g,0,none⟩) tl c4] 59))∧q1o (rb+1) (.slice (some ⟨g,0,none⟩) tl c4) t (w4.alloc (.cells #[.slice (some ⟨g,0,none⟩) tl c4] 59))∧(w4.alloc (.cells #[.slice (some ⟨g,0,none⟩) tl c4] 59)).cell? ⟨w4.heap.size,0,none⟩=some (.slice (some ⟨g,0,none⟩) tl c4)):=by
      have h8:=j2n HNX.out.o HNX.out.tt
      rw [htl2] at h8
      exact h8
     clear hg htl2
     refine hK _ _ ?_
     clear hK K
     refine wpAny_ready (rs:=[0,2]) (by kernel_rfl) (by simp) ?_
     refine AllReady.cons rfl (fun K hK=>?_) (AllReady.cons rfl (fun K hK=>?_) AllReady.nil)
     ·go_simp
      refine hK _ _ ?_
      clear hK K
      refine wpAny_ready (rs:=[2]) (by kernel_rfl) (by simp) ?_
      refine AllReady.cons rfl (fun K hK=>?_) AllReady.nil
      go_simp
      refine hK _ _ ?_
      clear hK K
      refine wpAny_ready (rs:=[3]) (by kernel_rfl) (by simp) ?_
      refine AllReady.cons rfl (fun K hK=>?_) AllReady.nil
      refine q6g rfl _ _ rfl (rb+1) (.slice A n c) acc rfl HR3.out.1 w4.heap.size g tl c4 t HTL.out rfl HR3.out.2.2 HR3.out.2.1 (n+1) (by rw [HAN.out]) (by omega) (by rw [World.size_alloc];omega) ?_
      intro A6 c6 w6 hown6 hgrow6
      have hfin:=v5l HNX.out hH hBr hBH hgwr hgar hown6 hgrow6
      have HFIN:=(show Hid (_) from hfin)
      have d6:w6.cell? ⟨w.heap.size,0,none⟩=some (.slice A n c):=by
       have hbel:Below (rb+1) w4 w6:=((q1j w4 _).mono (by omega)).grown hgrow6 (by rw [World.size_alloc];omega) (fun k hk=>HNX.out.o.own_le hk)
       rw [Lib.cell_of_heap ((hbel.block _ (by omega)).trans HNX.out.b0)];rfl
      have f6:w6.frozen? ⟨w.heap.size,0,none⟩=false:=by
       have hbel:Below (rb+1) w4 w6:=((q1j w4 _).mono (by omega)).grown hgrow6 (by rw [World.size_alloc];omega) (fun k hk=>HNX.out.o.own_le hk)
       exact Lib.frozen_of_heap ((hbel.block _ (by omega)).trans HNX.out.b0) 0
      clear hfin hown6 hgrow6
      refine hK _ _ ?_
      clear hK K
      refine wpAny_ready (rs:=[4]) (by kernel_rfl) (by simp) ?_
      refine AllReady.cons rfl (fun K hK=>?_) AllReady.nil
      go_simp
      refine hK _ _ ?_
      clear hK K
      refine wpAny_done (by kernel_rfl) ?_ _
      go_wp2
      refine ⟨⟨_,_,acc++[t],A6,n+1,c6,by rw [List.length_append,HAN.out];rfl,HFIN.out⟩,?_⟩
      rw [HFIN.out.rd.len_eq,HV.out.rd.len_eq]
      have:=HQL.out
      omega
     ·go_simp
      refine hK _ _ ?_
      clear hK K
      refine wpAny_ready (rs:=[0]) (by kernel_rfl) (by simp) ?_
      refine AllReady.cons rfl (fun K hK=>?_) AllReady.nil
      go_simp
      refine hK _ _ ?_
      clear hK K
      refine wpAny_ready (rs:=[3]) (by kernel_rfl) (by simp) ?_
      refine AllReady.cons rfl (fun K hK=>?_) AllReady.nil
      refine q6g rfl _ _ rfl (rb+1) (.slice A n c) acc rfl HR3.out.1 w4.heap.size g tl c4 t HTL.out rfl HR3.out.2.2 HR3.out.2.1 (n+1) (by rw [HAN.out]) (by omega) (by rw [World.size_alloc];omega) ?_
      intro A6 c6 w6 hown6 hgrow6
      have hfin:=v5l HNX.out hH hBr hBH hgwr hgar hown6 hgrow6
      have HFIN:=(show Hid (_) from hfin)
      have d6:w6.cell? ⟨w.heap.size,0,none⟩=some (.slice A n c):=by
       have hbel:Below (rb+1) w4 w6:=((q1j w4 _).mono (by omega)).grown hgrow6 (by rw [World.size_alloc];omega) (fun k hk=>HNX.out.o.own_le hk)
       rw [Lib.cell_of_heap ((hbel.block _ (by omega)).trans HNX.out.b0)];rfl
      have f6:w6.frozen? ⟨w.heap.size,0,none⟩=false:=by
       have hbel:Below (rb+1) w4 w6:=((q1j w4 _).mono (by omega)).grown hgrow6 (by rw [World.size_alloc];omega) (fun k hk=>HNX.out.o.own_le hk)
       exact Lib.frozen_of_heap ((hbel.block _ (by omega)).trans HNX.out.b0) 0
      clear hfin hown6 hgrow6
      refine hK _ _ ?_
      clear hK K
      refine wpAny_ready (rs:=[4]) (by kernel_rfl) (by simp) ?_
      refine AllReady.cons rfl (fun K hK=>?_) AllReady.nil
      go_simp
      refine hK _ _ ?_
      clear hK K
      refine wpAny_done (by kernel_rfl) ?_ _
      go_wp2
      refine ⟨⟨_,_,acc++[t],A6,n+1,c6,by rw [List.length_append,HAN.out];rfl,HFIN.out⟩,?_⟩
      rw [HFIN.out.rd.len_eq,HV.out.rd.len_eq]
      have:=HQL.out
      omega
  ·have hqe:q=ws.length:=by omega
   rw [q5e (by omega)] at HL1
   have hemp:wbS []=⟨#[]⟩:=rfl
   rw [hemp] at HL1
   have hdn:ws.drop q=[]:=List.drop_eq_nil_of_le (by omega)
   have hpg:PG false [] ws (.ok acc):=hV.pg _ (by rw [hdn];exact .done)
   have x1:wr.heap[w.heap.size+1]? = some (.cells #[.int .i64 0] 3 (0,0)):=hV.b1
   have x2:wr.heap[w.heap.size+1+1]? = some (.cells #[.nilIface] 27 (0,0)):=hV.b2
   have e1:wr.cell? ⟨w.heap.size+1,0,none⟩=some (.int .i64 0):=by rw [Lib.cell_of_heap x1];rfl
   have e2:wr.cell? ⟨w.heap.size+1+1,0,none⟩=some .nilIface:=by rw [Lib.cell_of_heap x2];rfl
   have f1:wr.frozen? ⟨w.heap.size+1,0,none⟩=false:=Lib.frozen_of_heap x1 0
   have f2:wr.frozen? ⟨w.heap.size+1+1,0,none⟩=false:=Lib.frozen_of_heap x2 0
   have HPR:Hid (z0h (rb+1) (.slice A n c) acc wr):=hV.o
   have HBL:Hid (Below B w wr):=hV.bl
   have HPG:Hid (PG false [] ws (.ok acc)):=hpg
   clear hV hacc hdn hpg hemp x1 x2
   go_wp2_with fail
   refine HL1.out.mono ?_
   rintro e w1 ⟨rfl,rfl⟩
   go_wp2
   generalize hW:((wr.setCell ⟨w.heap.size,0,none⟩ (.slice A n c)).setCell ⟨w.heap.size+1,0,none⟩ (.int .i64 0)).setCell ⟨w.heap.size+1+1,0,none⟩ .nilIface=W
   have hz:W.heap.size=wr.heap.size:=by rw [←hW,World.size_setCell,World.size_setCell,World.size_setCell]
   have r1:W.cell? ⟨w.heap.size,0,none⟩=some (.slice A n c):=by
    rw [←hW];exact (cso (.inl (by omega))).trans ((cso (.inl (by omega))).trans (css e0))
   have r2:W.cell? ⟨w.heap.size+1,0,none⟩=some (.int .i64 0):=by
    rw [←hW];exact (cso (.inl (by omega))).trans (css ((cso (.inl (by omega))).trans e1))
   have r3:W.cell? ⟨w.heap.size+1+1,0,none⟩=some .nilIface:=by
    rw [←hW];exact css ((cso (.inl (by omega))).trans ((cso (.inl (by omega))).trans e2))
   have hkp:∀ j,rb+1≤j→W.heap[j]? = wr.heap[j]?:=fun j hj=>by
    rw [←hW]
    exact (Below.heap_setCell _ _ _ _ (by show j≠w.heap.size+1+1;omega)).trans ((Below.heap_setCell _ _ _ _ (by show j≠w.heap.size+1;omega)).trans (Below.heap_setCell _ _ _ _ (by show j≠w.heap.size;omega)))
   have hbW:Below B w W:=by
    rw [←hW]
    exact ((HBL.out.setCell (p:=⟨w.heap.size,0,none⟩) hBH _).setCell (p:=⟨w.heap.size+1,0,none⟩) (by show B≤w.heap.size+1;omega) _).setCell (p:=⟨w.heap.size+1+1,0,none⟩) (by show B≤w.heap.size+1+1;omega) _
   have hoW:z0h (rb+1) (.slice A n c) acc W:=HPR.out.kept fun j h1 _=>hkp j h1
   clear hW
   refine leaves_cons (f:=78) (args:=#[.pointer (some ⟨w.heap.size,0,none⟩),.pointer (some ⟨w.heap.size+1,0,none⟩),.pointer (some ⟨w.heap.size+1+1,0,none⟩)]) (by simp) (by simp [go_sem]) ?_
   refine (k1v ⟨w.heap.size,0,none⟩ ⟨w.heap.size+1,0,none⟩ ⟨w.heap.size+1+1,0,none⟩ W).mono ?_
   rintro e u' w' ⟨rfl,rfl,bW⟩
   obtain ⟨bcW,_⟩:=q0v bW
   have q1:=(bcW w.heap.size 0 (by omega)).trans r1
   have q2:=(bcW (w.heap.size+1) 0 (by omega)).trans r2
   have q3:=(bcW (w.heap.size+1+1) 0 (by omega)).trans r3
   have hfin:z6z ws (plE ps k) B w (.returned (.tuple #[.slice A n c,.int .i64 0,.nilIface])) w':=by
    have hn:=HAN.out
    subst hn
    exact .ok HPG.out (hoW.prg.below bW) hoW.cell.2.1 (hbW.trans (bW.mono (by omega)))
   simp [Leaves,settle,results,Tryz.results49,go_sem,q1,q2,q3]
   exact hfin
end Go.Proofs.YtchdplceopegoaaGreatDoor
