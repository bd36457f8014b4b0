/- Texts as one: DkM, NodS, Pm0, Pm1, Chk. -/
import Derived.Test.YtchdplceopegoaaGreatDoorPs14
import Derived.Test.YtchdplceopegoaaGreatDoorPs15
import Derived.StringKeys
import Derived.Deep.RegionHeld3
import Derived.Deep.DeepCutAuto
import Derived.BigRegion
namespace Go.Proofs.YtchdplceopegoaaGreatDoor
open Go Go.RowKit Go.Maps
def kyB (t:List Td):ByteArray:=wbS (q2d [t])
theorem k1p {t u:List Td} (ht:q0c t=0) (hu:q0c u=0) (h:kyB t=kyB u):t=u:=by
 have e:∀ v:List Td,btL (kyB v)=q3c v++[10]:=fun v=>(show q2d [v]=_ by simp [q2d])
 have h1:btL (kyB t)=btL (kyB u):=by rw [h]
 rw [e,e] at h1
 exact k5g ht hu (List.append_cancel_right h1)
theorem k1q {t:List Td} (h:q0c t=0):(kyB t).size≤2001:=by
 rw [kyB,v9g]
 have:=k5h h
 simp [q2d]
 omega
theorem k3q {a b:ByteArray} (h:a.data.toList=b.data.toList):a=b:=by
 cases a
 cases b
 congr 1
 exact Array.toList_inj.1 h
theorem v5s:Keyed Tryz.prog 9:=string_keyed Tryz.underlying9
theorem y4c {s:ByteArray} (h:s.size≤1000000):keyOf Tryz.prog 9 (.string s)=some (.string s.data.toList):=WideMaps.keyOf_string_mk Tryz.underlying9 (by unfold maxLen;omega)
abbrev enV (A:Option Addr) (l c:Nat) (s:ByteArray):Value:=.agg #[.slice A l c,.string s]
abbrev zEn:Value:=enV none 0 0 ⟨#[]⟩
theorem j8d (w:World):(zeroValue 100).run Tryz.prog w = .ok zEn w:=by kernel_rfl
structure Blk (w:World) (x:Nat):Prop where
 cs:∃ c T f,w.heap[x]? = some (.cells c T f)
 str:∀ o s,w.cell? ⟨x,o,none⟩≠some (.string s)
section
variable {w w':World} {x:Nat}
theorem Tds.apart {a:Option Addr} {ds:List Td} (h:Tds w a ds) (hx:q0i w.heap.size x w w') (hn:Blk w x):Tds w' a ds:=by
 intro i hi
 obtain ⟨b,o,e,hlt,c1,c2,c3⟩:=h i hi
 have hb:b≠x:=by
  rintro rfl
  exact hn.str _ _ c2
 have:=hx.size
 exact ⟨b,o,e,by omega,(hx.cell (p:=⟨b,_,none⟩) hlt hb).trans c1,(hx.cell (p:=⟨b,_,none⟩) hlt hb).trans c2,(hx.cell (p:=⟨b,_,none⟩) hlt hb).trans c3⟩
theorem Wds.apart {a:Option Addr} {ws:List ByteArray} (h:Wds w a ws) (hx:q0i w.heap.size x w w') (hn:Blk w x):Wds w' a ws:=by
 intro i hi
 obtain ⟨b,o,e,hlt,c1⟩:=h i hi
 have hb:b≠x:=by
  rintro rfl
  exact hn.str _ _ c1
 have:=hx.size
 exact ⟨b,o,e,by omega,(hx.cell (p:=⟨b,_,none⟩) hlt hb).trans c1⟩
end
def KnM (w0 w:World) (b:Nat) (qs:List (List Td)) (n:Nat):Prop:=
 ∃ D m,w.ownsMap Tryz.prog 9 cvR b m D∧m≤qs.length∧
  (∀ t∈qs,∃ A c,has D (.string (kyB t).data.toList)=true∧D.atKey (.string (kyB t).data.toList) (.held zEn) = .held (enV A t.length c (wbS (q5b n t)))∧t.length≤c∧Tds w0 A t)∧
  ∀ k:ByteArray,(∀ t∈qs,kyB t≠k)→has D (.string k.data.toList)=false∧D.atKey (.string k.data.toList) (.held zEn) = .held zEn
section
variable {w0 w w':World} {b n:Nat} {qs:List (List Td)} {t:List Td}
theorem KnM.lt (h:KnM w0 w b qs n):b<w.heap.size:=by
 obtain ⟨D,m,h,_⟩:=h
 exact h.lt
theorem KnM.isMap (h:KnM w0 w b qs n):∃ es cl,w.heap[b]? = some (.map es cl):=by
 obtain ⟨D,m,⟨es,cl,h1,_⟩,_⟩:=h
 exact ⟨es,cl,h1⟩
theorem KnM.kept (h:KnM w0 w b qs n) (hb:w'.heap[b]? = w.heap[b]?):KnM w0 w' b qs n:=by
 obtain ⟨D,m,⟨es,cl,h1,h2⟩,h3⟩:=h
 exact ⟨D,m,⟨es,cl,hb.trans h1,h2⟩,h3⟩
theorem KnM.up {w1:World} (h:KnM w0 w b qs n) (hT:∀ A t,Tds w0 A t→Tds w1 A t):KnM w1 w b qs n:=by
 obtain ⟨D,m,h2,h3,h4,h5⟩:=h
 refine ⟨D,m,h2,h3,fun t ht=>?_,h5⟩
 obtain ⟨A,c,q1,q2,q3,q4⟩:=h4 t ht
 exact ⟨A,c,q1,q2,q3,hT A t q4⟩
theorem KnM.below (h:KnM w w b qs n) (hb:Below w.heap.size w w'):KnM w' w' b qs n:=(h.kept (hb.block b h.lt)).up fun _ _ q=>q.below hb
theorem KnM.apart {x:Nat} (h:KnM w w b qs n) (hx:q0i w.heap.size x w w') (hn:Blk w x):KnM w' w' b qs n:=by
 refine (h.kept (hx.block b h.lt ?_)).up fun _ _ q=>q.apart hx hn
 rintro rfl
 obtain ⟨es,cl,h1⟩:=h.isMap
 obtain ⟨c,T,f,h2⟩:=hn.cs
 rw [h1] at h2
 cases h2
theorem KnM.made (w0 w:World) (n:Nat):KnM w0 (w.alloc (.map #[] 0)) w.heap.size [] n:=
 ⟨.map [],0,World.ownsMap_made _ _ _ _,Nat.zero_le _,fun t ht=>by simp at ht,fun _ _=>⟨rfl,rfl⟩⟩
theorem KnM.look (h:KnM w0 w b qs n) (ht:t∈qs) (h0:q0c t=0):∃ A c,(Instr.lookup 52 (.map (some b)) (.string (kyB t)) false).run Tryz.prog w = .ok (enV A t.length c (wbS (q5b n t))) w∧
  (Instr.lookup 52 (.map (some b)) (.string (kyB t)) true).run Tryz.prog w = .ok (.tuple #[enV A t.length c (wbS (q5b n t)),.bool true]) w∧t.length≤c∧Tds w0 A t:=by
 obtain ⟨D,m,h,_,h2,_⟩:=h
 obtain ⟨A,c,q1,q2,q3,q4⟩:=h2 t ht
 have hk:=y4c (s:=kyB t) (by have:=k1q h0;omega)
 refine ⟨A,c,?_,?_,q3,q4⟩
 ·obtain ⟨v,ps,hrun,hv⟩:=h.lookup v5s Tryz.underlying52 (j8d w) (zd:=.held zEn) (zp:=[]) rfl hk
  rw [q2] at hv
  simp only [cvR,Option.some.injEq,Prod.mk.injEq,DataW.held.injEq] at hv
  rw [hrun,hv.1]
 ·obtain ⟨v,ps,hrun,hv⟩:=h.look_ok v5s Tryz.underlying52 (j8d w) (zd:=.held zEn) (zp:=[]) rfl hk
  rw [q2] at hv
  simp only [cvR,Option.some.injEq,Prod.mk.injEq,DataW.held.injEq] at hv
  rw [hrun,hv.1,q1]
theorem KnM.miss (h:KnM w0 w b qs n) {k:ByteArray} (hl:k.size≤1000000) (hno:∀ t∈qs,kyB t≠k) :
  (Instr.lookup 52 (.map (some b)) (.string k) true).run Tryz.prog w = .ok (.tuple #[zEn,.bool false]) w:=by
 obtain ⟨D,m,h,_,_,h3⟩:=h
 obtain ⟨q1,q2⟩:=h3 k hno
 obtain ⟨v,ps,hrun,hv⟩:=h.look_ok v5s Tryz.underlying52 (j8d w) (zd:=.held zEn) (zp:=[]) rfl (y4c hl)
 rw [q2] at hv
 simp only [cvR,Option.some.injEq,Prod.mk.injEq,DataW.held.injEq] at hv
 rw [hrun,hv.1,q1]
theorem j9v (w:World) {k:ByteArray} (hl:k.size≤1000000) :
  (Instr.lookup 52 (.map none) (.string k) true).run Tryz.prog w = .ok (.tuple #[zEn,.bool false]) w:=by
 rw [Maps.look_nil true v5s Tryz.underlying52 (j8d w) (y4c hl)]
 rfl
theorem KnM.again (h:KnM w0 w b qs n) (ht:t∈qs):KnM w0 w b (qs++[t]) n:=by
 obtain ⟨D,m,h,hm,h2,h3⟩:=h
 refine ⟨D,m,h,by rw [List.length_append];omega,fun u hu=>?_,fun k hk=>h3 k fun u hu=>hk u (by simp [hu])⟩
 rcases List.mem_append.1 hu with e | e
 ·exact h2 u e
 ·simp at e
  exact h2 u (e ▸ ht)
theorem KnM.put (h:KnM w0 w b qs n) (hok:∀ u∈qs,q0c u=0) (hl:qs.length≤20) (h0:q0c t=0) (hno:t∉qs) {A:Option Addr} {c:Nat} (hc:t.length≤c) (hT:Tds w0 A t) :
  ∃ w',(Instr.mapUpdate 52 (.map (some b)) (.string (kyB t)) (enV A t.length c (wbS (q5b n t)))).run Tryz.prog w = .ok () w'∧KnM w0 w' b (qs++[t]) n∧w.grownBy w' (some b):=by
 obtain ⟨D,m,h,hm,h2,h3⟩:=h
 have hk:=y4c (s:=kyB t) (by have:=k1q h0;omega)
 obtain ⟨w1,hrun,hown,hg⟩:=h.update v5s Tryz.underlying52 (by unfold maxLen;omega) hk (d:=.held (enV A t.length c (wbS (q5b n t)))) (ps:=[]) (val:=enV A t.length c (wbS (q5b n t))) rfl
 refine ⟨w1,hrun,⟨_,_,hown,by rw [List.length_append,List.length_singleton];omega,fun u hu=>?_,fun k hkn=>?_⟩,hg⟩
 ·by_cases e:u=t
  ·subst e
   exact ⟨A,c,has_put_same h.isMap (v5s.key hk) _,atKey_put_same h.isMap (v5s.key hk) _ _,hc,hT⟩
  ·have hu':u∈qs:=by
    rcases List.mem_append.1 hu with e2 | e2
    ·exact e2
    ·simp at e2
     exact absurd e2 e
   obtain ⟨A',c',q1,q2,q3,q4⟩:=h2 u hu'
   have ne:(Lit.string (kyB u).data.toList)≠.string (kyB t).data.toList:=by
    intro e2
    simp only [Lit.string.injEq] at e2
    exact e (k1p (hok u hu') h0 (k3q e2))
   refine ⟨A',c',?_,?_,q3,q4⟩
   ·rw [has_put_other ne];exact q1
   ·rw [atKey_put_other ne];exact q2
 ·have ne:(Lit.string k.data.toList)≠.string (kyB t).data.toList:=by
   intro e2
   simp only [Lit.string.injEq] at e2
   exact hkn t (by simp) (k3q e2).symm
  rw [has_put_other ne,atKey_put_other ne]
  exact h3 k fun u hu=>hkn u (by simp [hu])
end
structure ShM (w:World) (ov mv:Value) (qs:List (List Td)) (n:Nat):Prop where
 ok:∀ t∈qs,q0c t=0
 pg:∀ t∈qs,pgE t=0
 ni:∀ t∈qs,z4c t
 len:qs.length≤20
 w1:10≤n
 w2:n≤100
 ord:∃ A c,ov = .slice A qs.length c∧Wds w A (qs.map kyB)
 kn:(mv = .map none∧qs=[])∨∃ b,mv = .map (some b)∧KnM w w b qs n
section
variable {w w':World} {ov mv:Value} {n:Nat} {qs:List (List Td)}
theorem ShM.below (h:ShM w ov mv qs n) (hb:Below w.heap.size w w'):ShM w' ov mv qs n:=by
 refine ⟨h.ok,h.pg,h.ni,h.len,h.w1,h.w2,?_,?_⟩
 ·obtain ⟨A,c,e,q⟩:=h.ord
  exact ⟨A,c,e,q.below hb⟩
 ·rcases h.kn with e | ⟨b,e,q⟩
  ·exact .inl e
  ·exact .inr ⟨b,e,q.below hb⟩
theorem ShM.apart {x:Nat} (h:ShM w ov mv qs n) (hx:q0i w.heap.size x w w') (hn:Blk w x):ShM w' ov mv qs n:=by
 refine ⟨h.ok,h.pg,h.ni,h.len,h.w1,h.w2,?_,?_⟩
 ·obtain ⟨A,c,e,q⟩:=h.ord
  exact ⟨A,c,e,q.apart hx hn⟩
 ·rcases h.kn with e | ⟨b,e,q⟩
  ·exact .inl e
  ·exact .inr ⟨b,e,q.apart hx hn⟩
end
def q3o (T:TypeId) (w:World) (d:Nat) (qs:List (List Td)) (n:Nat):Prop:=∃ ov mv,w.heap[d]? = some (.cells #[.int .i64 (n:Int),ov,mv] T (0,0))∧ShM w ov mv qs n
section
variable {T:TypeId} {w w':World} {d n:Nat} {qs:List (List Td)}
theorem q3o.lt (h:q3o T w d qs n):d<w.heap.size:=by
 obtain ⟨ov,mv,h1,_⟩:=h
 exact (Array.getElem?_eq_some_iff.1 h1).1
theorem q3o.below (h:q3o T w d qs n) (hb:Below w.heap.size w w'):q3o T w' d qs n:=by
 have hl:=h.lt
 obtain ⟨ov,mv,h1,h2⟩:=h
 exact ⟨ov,mv,(hb.block d hl).trans h1,h2.below hb⟩
theorem q3o.cell (h:q3o T w d qs n):∃ A c m,w.cell? ⟨d,0,none⟩=some (.int .i64 (n:Int))∧w.cell? ⟨d,1,none⟩=some (.slice A qs.length c)∧w.cell? ⟨d,2,none⟩=some (.map m)∧(∀ o,w.frozen? ⟨d,o,none⟩=false)∧Wds w A (qs.map kyB)∧((m=none∧qs=[])∨∃ b,m=some b∧KnM w w b qs n):=by
 obtain ⟨ov,mv,h1,h2⟩:=h
 obtain ⟨A,c,rfl,h3⟩:=h2.ord
 rcases h2.kn with ⟨rfl,e⟩ | ⟨b,rfl,q⟩
 ·exact ⟨A,c,none,by simp [World.cell?,h1],by simp [World.cell?,h1],by simp [World.cell?,h1],fun o=>by simp [World.frozen?,h1],h3,.inl ⟨rfl,e⟩⟩
 ·exact ⟨A,c,some b,by simp [World.cell?,h1],by simp [World.cell?,h1],by simp [World.cell?,h1],fun o=>by simp [World.frozen?,h1],h3,.inr ⟨b,rfl,q⟩⟩
theorem k7m {a b c:Value} {o:Nat} {v:Value} {f:Nat × Nat} (h:w.heap[d]? = some (.cells #[a,b,c] T f)) (hv:w.cell? ⟨d,o,none⟩=some v):v=a∨v=b∨v=c:=by
 simp only [World.cell?,h] at hv
 rcases o with _ | _ | _ | o<;>simp at hv
 ·exact .inl hv.symm
 ·exact .inr (.inl hv.symm)
 ·exact .inr (.inr hv.symm)
theorem q3o.blk (h:q3o T w d qs n):Blk w d:=by
 obtain ⟨ov,mv,h1,h2⟩:=h
 obtain ⟨A,c,rfl,h3⟩:=h2.ord
 refine ⟨⟨_,_,_,h1⟩,fun o s hs=>?_⟩
 rcases k7m h1 hs with e | e | e
 ·cases e
 ·cases e
 ·rcases h2.kn with ⟨rfl,_⟩ | ⟨b,rfl,_⟩<;>cases e
theorem q3o.put {ps:List (List Td)} {m:Nat} {ov mv:Value} (h:q3o T w d qs n) (hs:ShM w ov mv ps m) :
  q3o T (((w.setCell ⟨d,0,none⟩ (.int .i64 (m:Int))).setCell ⟨d,1,none⟩ ov).setCell ⟨d,2,none⟩ mv) d ps m∧q0i w.heap.size d w (((w.setCell ⟨d,0,none⟩ (.int .i64 (m:Int))).setCell ⟨d,1,none⟩ ov).setCell ⟨d,2,none⟩ mv):=by
 have hx:q0i w.heap.size d w (((w.setCell ⟨d,0,none⟩ (.int .i64 (m:Int))).setCell ⟨d,1,none⟩ ov).setCell ⟨d,2,none⟩ mv):=(((q0i.refl _ _ w).setCell (p:=⟨d,0,none⟩) (.inl rfl) _).setCell (p:=⟨d,1,none⟩) (.inl rfl) _).setCell (p:=⟨d,2,none⟩) (.inl rfl) _
 refine ⟨?_,hx⟩
 have hb:=h.blk
 obtain ⟨ov0,mv0,h1,_⟩:=h
 exact ⟨ov,mv,by simp [World.setCell,Array.getElem?_modify,h1],hs.apart hx hb⟩
end
theorem k1l:∀ ps:List (List Td),(∀ t∈ps,pgE t=0)→fmE ps=0
 | [],_=>rfl
 | t::r,h=>by rw [q9f (h t (by simp))];exact k1l r fun u hu=>h u (by simp [hu])
end Go.Proofs.YtchdplceopegoaaGreatDoor
namespace Go.Proofs.YtchdplceopegoaaGreatDoor
open Go Go.RowKit
def q0v (s:Nat) (w:World) (a:Option Addr) (ds:List Nd):Prop:=
 ∀ i (h:i<ds.length),∃ o,a=some ⟨s,o,none⟩∧w.cell? ⟨s,o+i*3,none⟩=some (.int .i64 ds[i].op)∧w.cell? ⟨s,o+i*3+1,none⟩=some (.string ds[i].tx)∧w.cell? ⟨s,o+i*3+2,none⟩=some (.int .i64 ds[i].n)
theorem q2y.s {w:World} {a:Option Addr} {ds:List Nd} (h:q2y w a ds) (h0:ds≠[]):∃ s,s<w.heap.size∧q0v s w a ds:=by
 obtain ⟨s,o,rfl,hs,_⟩:=h 0 (List.length_pos_iff.2 h0)
 refine ⟨s,hs,fun i hi=>?_⟩
 obtain ⟨b,o',e,_,c⟩:=h i hi
 simp only [Option.some.injEq,Addr.mk.injEq,and_true] at e
 obtain ⟨rfl,rfl⟩:=e
 exact ⟨o,rfl,c⟩
theorem q0v.nods {s:Nat} {w:World} {a:Option Addr} {ds:List Nd} (h:q0v s w a ds) (hs:s<w.heap.size):q2y w a ds:=by
 intro i hi
 obtain ⟨o,e,c⟩:=h i hi
 exact ⟨s,o,e,hs,c⟩
theorem q0v.kept {s:Nat} {w w':World} {a:Option Addr} {ds:List Nd} (h:q0v s w a ds) (hb:w'.heap[s]? = w.heap[s]?):q0v s w' a ds:=by
 intro i hi
 obtain ⟨o,e,c1,c2,c3⟩:=h i hi
 have hc:∀ j,w'.cell? ⟨s,j,none⟩=w.cell? ⟨s,j,none⟩:=fun j=>World.cell?_of_block (w:=w) (a:=⟨s,j,none⟩) hb
 exact ⟨o,e,(hc _).trans c1,(hc _).trans c2,(hc _).trans c3⟩
theorem q0v.rest {s:Nat} {w:World} {o:Nat} {x:Nd} {ds:List Nd} (h:q0v s w (some ⟨s,o,none⟩) (x::ds)):q0v s w (some ⟨s,o+3,none⟩) ds:=by
 intro i hi
 obtain ⟨o',e,c1,c2,c3⟩:=h (i+1) (by simp;omega)
 simp only [Option.some.injEq,Addr.mk.injEq,and_true,true_and] at e
 obtain rfl:=e
 refine ⟨o+3,rfl,?_,?_,?_⟩
 ·rw [show o+3+i*3=o+(i+1)*3 by omega];exact c1
 ·rw [show o+3+i*3+1=o+(i+1)*3+1 by omega];exact c2
 ·rw [show o+3+i*3+2=o+(i+1)*3+2 by omega];exact c3
theorem q0v.slid {s:Nat} {w:World} {o cap:Nat} {x:Nd} {ds:List Nd} (h:q0v s w (some ⟨s,o,none⟩) (x::ds)) (hc:ds.length+1≤cap) :
  q0v s w (if cap=1 then some ⟨s,o,none⟩ else some ⟨s,o+3,none⟩) ds:=by
 by_cases h1:cap=1
 ·have:ds=[]:=List.eq_nil_of_length_eq_zero (by omega)
  subst this
  exact fun i hi=>by simp at hi
 ·rw [if_neg h1];exact h.rest
end Go.Proofs.YtchdplceopegoaaGreatDoor
namespace Go.Proofs.YtchdplceopegoaaGreatDoor
open Go Go.RowKit
structure Q where
 op:Int
 tx:ByteArray
 n:Int
 en:Int
 nx:Int
 dp:Int
 lg:Int
def q0:Q:=⟨0,⟨#[]⟩,0,0,0,0,0⟩
def q1 (r:Pl):Q:=⟨r.nd.op,r.nd.tx,r.nd.n,r.en,0,0,0⟩
def q2 (r:Pl):Q:=⟨r.nd.op,r.nd.tx,r.nd.n,r.en,r.nx,r.dp,r.lg⟩
structure z2n (w:World) (g j:Nat) (q:Q):Prop where
 c0:w.cell? ⟨g,j*7,none⟩=some (.int .i64 q.op)
 c1:w.cell? ⟨g,j*7+1,none⟩=some (.string q.tx)
 c2:w.cell? ⟨g,j*7+2,none⟩=some (.int .i64 q.n)
 c3:w.cell? ⟨g,j*7+3,none⟩=some (.int .i64 q.en)
 c4:w.cell? ⟨g,j*7+4,none⟩=some (.int .i64 q.nx)
 c5:w.cell? ⟨g,j*7+5,none⟩=some (.int .i64 q.dp)
 c6:w.cell? ⟨g,j*7+6,none⟩=some (.int .i64 q.lg)
def z2o (w:World) (b:Nat):Prop:=∃ cs T,w.heap[b]? = some (.cells cs T (0,0))
theorem z2o.frozen {w:World} {b i:Nat} (h:z2o w b):w.frozen? ⟨b,i,none⟩=false:=by
 obtain ⟨cs,T,h⟩:=h
 simp [World.frozen?,h]
theorem z2o.lt {w:World} {b:Nat} (h:z2o w b):b<w.heap.size:=by
 obtain ⟨cs,T,h⟩:=h
 rcases Nat.lt_or_ge b w.heap.size with h' | h'
 ·exact h'
 ·simp [Array.getElem?_eq_none h'] at h
theorem z2o.kept {w w':World} {b:Nat} (h:z2o w b) (hb:w'.heap[b]? = w.heap[b]?):z2o w' b:=by
 obtain ⟨cs,T,h⟩:=h
 exact ⟨cs,T,hb.trans h⟩
theorem z2o.set {w:World} {b c i:Nat} {v:Value} (h:z2o w b):z2o (w.setCell ⟨c,i,none⟩ v) b:=by
 by_cases e:c=b
 ·subst e
  obtain ⟨cs,T,h⟩:=h
  exact ⟨cs.setIfInBounds i v,T,by simp [World.setCell,Array.getElem?_modify,h]⟩
 ·exact h.kept (Below.heap_setCell _ _ _ _ (Ne.symm e))
structure PwR (w:World) (g n:Nat) (F:Nat→Q):Prop where
 get:∀ j,j<n→z2n w g j (F j)
 row:z2o w g
theorem z2n.kept {w w':World} {g j:Nat} {q:Q} (h:z2n w g j q) (hb:w'.heap[g]? = w.heap[g]?):z2n w' g j q:=by
 have hc:∀ k,w'.cell? ⟨g,k,none⟩=w.cell? ⟨g,k,none⟩:=fun k=>World.cell?_of_block (w:=w) (a:=⟨g,k,none⟩) hb
 exact ⟨(hc _).trans h.c0,(hc _).trans h.c1,(hc _).trans h.c2,(hc _).trans h.c3,(hc _).trans h.c4,(hc _).trans h.c5,(hc _).trans h.c6⟩
theorem PwR.kept {w w':World} {g n:Nat} {F:Nat→Q} (h:PwR w g n F) (hb:w'.heap[g]? = w.heap[g]?):PwR w' g n F:=⟨fun j hj=>(h.get j hj).kept hb,h.row.kept hb⟩
theorem PwR.congr {w:World} {g n:Nat} {F G:Nat→Q} (h:PwR w g n F) (e:∀ j,j<n→F j=G j):PwR w g n G:=⟨fun j hj=>e j hj ▸ h.get j hj,h.row⟩
theorem z2n.other {w:World} {g j k f:Nat} {q:Q} {v:Value} (h:z2n w g k q) (hf:f<7) (hk:k≠j):z2n (w.setCell ⟨g,j*7+f,none⟩ v) g k q:=
 ⟨(cso (by omega)).trans h.c0,(cso (by omega)).trans h.c1,(cso (by omega)).trans h.c2,(cso (by omega)).trans h.c3,(cso (by omega)).trans h.c4,(cso (by omega)).trans h.c5,(cso (by omega)).trans h.c6⟩
def upd (F:Nat→Q) (j:Nat) (q:Q):Nat→Q:=fun k=>if k=j then q else F k
theorem q0k (F:Nat→Q) (j:Nat) (q:Q):upd F j q j=q:=by simp [upd]
theorem q0z {F:Nat→Q} {j k:Nat} {q:Q} (h:k≠j):upd F j q k=F k:=by simp [upd,h]
theorem PwR.put {w:World} {g n j f:Nat} {F:Nat→Q} {v:Value} {q:Q} (h:PwR w g n F) (hf:f<7) (hq:z2n (w.setCell ⟨g,j*7+f,none⟩ v) g j q):PwR (w.setCell ⟨g,j*7+f,none⟩ v) g n (upd F j q) where
 get k hk:=by
  by_cases e:k=j
  ·subst e;rw [q0k];exact hq
  ·rw [q0z e];exact (h.get k hk).other hf e
 row:=h.row.set
section
variable {w:World} {g n j:Nat} {F:Nat→Q}
theorem PwR.putOp (h:PwR w g n F) (hj:j<n) (x:Int):PwR (w.setCell ⟨g,j*7,none⟩ (.int .i64 x)) g n (upd F j { F j with op:=x }):=by
 have k:=h.get j hj
 exact h.put (f:=0) (by omega) ⟨css k.c0,(cso (by omega)).trans k.c1,(cso (by omega)).trans k.c2,(cso (by omega)).trans k.c3,(cso (by omega)).trans k.c4,(cso (by omega)).trans k.c5,(cso (by omega)).trans k.c6⟩
theorem PwR.putTx (h:PwR w g n F) (hj:j<n) (x:ByteArray):PwR (w.setCell ⟨g,j*7+1,none⟩ (.string x)) g n (upd F j { F j with tx:=x }):=by
 have k:=h.get j hj
 exact h.put (f:=1) (by omega) ⟨(cso (by omega)).trans k.c0,css k.c1,(cso (by omega)).trans k.c2,(cso (by omega)).trans k.c3,(cso (by omega)).trans k.c4,(cso (by omega)).trans k.c5,(cso (by omega)).trans k.c6⟩
theorem PwR.putN (h:PwR w g n F) (hj:j<n) (x:Int):PwR (w.setCell ⟨g,j*7+2,none⟩ (.int .i64 x)) g n (upd F j { F j with n:=x }):=by
 have k:=h.get j hj
 exact h.put (f:=2) (by omega) ⟨(cso (by omega)).trans k.c0,(cso (by omega)).trans k.c1,css k.c2,(cso (by omega)).trans k.c3,(cso (by omega)).trans k.c4,(cso (by omega)).trans k.c5,(cso (by omega)).trans k.c6⟩
theorem PwR.putEn (h:PwR w g n F) (hj:j<n) (x:Int):PwR (w.setCell ⟨g,j*7+3,none⟩ (.int .i64 x)) g n (upd F j { F j with en:=x }):=by
 have k:=h.get j hj
 exact h.put (f:=3) (by omega) ⟨(cso (by omega)).trans k.c0,(cso (by omega)).trans k.c1,(cso (by omega)).trans k.c2,css k.c3,(cso (by omega)).trans k.c4,(cso (by omega)).trans k.c5,(cso (by omega)).trans k.c6⟩
theorem PwR.putNx (h:PwR w g n F) (hj:j<n) (x:Int):PwR (w.setCell ⟨g,j*7+4,none⟩ (.int .i64 x)) g n (upd F j { F j with nx:=x }):=by
 have k:=h.get j hj
 exact h.put (f:=4) (by omega) ⟨(cso (by omega)).trans k.c0,(cso (by omega)).trans k.c1,(cso (by omega)).trans k.c2,(cso (by omega)).trans k.c3,css k.c4,(cso (by omega)).trans k.c5,(cso (by omega)).trans k.c6⟩
theorem PwR.putDp (h:PwR w g n F) (hj:j<n) (x:Int):PwR (w.setCell ⟨g,j*7+5,none⟩ (.int .i64 x)) g n (upd F j { F j with dp:=x }):=by
 have k:=h.get j hj
 exact h.put (f:=5) (by omega) ⟨(cso (by omega)).trans k.c0,(cso (by omega)).trans k.c1,(cso (by omega)).trans k.c2,(cso (by omega)).trans k.c3,(cso (by omega)).trans k.c4,css k.c5,(cso (by omega)).trans k.c6⟩
theorem PwR.putLg (h:PwR w g n F) (hj:j<n) (x:Int):PwR (w.setCell ⟨g,j*7+6,none⟩ (.int .i64 x)) g n (upd F j { F j with lg:=x }):=by
 have k:=h.get j hj
 exact h.put (f:=6) (by omega) ⟨(cso (by omega)).trans k.c0,(cso (by omega)).trans k.c1,(cso (by omega)).trans k.c2,(cso (by omega)).trans k.c3,(cso (by omega)).trans k.c4,(cso (by omega)).trans k.c5,css k.c6⟩
end
theorem z7r (F:Nat→Q) (j:Nat) (p q:Q):upd (upd F j p) j q=upd F j q:=by
 funext k
 simp only [upd]
 split<;>rfl
theorem ka {w:World} {b o:Nat} {v:Value} (h:w.cell? ⟨b,o,none⟩=some v) (O:Obj):(w.alloc O).cell? ⟨b,o,none⟩=some v:=
 (((Below.refl _ w).alloc (Nat.le_refl _) O).cell (p:=⟨b,o,none⟩) (World.block_lt_of_cell? w _ h)).trans h
theorem kaf {w:World} {b o:Nat} (hb:b<w.heap.size) (h:w.frozen? ⟨b,o,none⟩=false) (O:Obj):(w.alloc O).frozen? ⟨b,o,none⟩=false:=
 (((Below.refl _ w).alloc (Nat.le_refl _) O).frozen (p:=⟨b,o,none⟩) hb).trans h
theorem z4i {i n:Nat} (hn:n≤400) (hi:(i:Int)<n):IntKind.i64.wrap ((i:Int)+1)=(i:Int)+1:=by
 rw [IntKind.wrap_i64];omega
end Go.Proofs.YtchdplceopegoaaGreatDoor
namespace Go.Proofs.YtchdplceopegoaaGreatDoor
open Go Go.RowKit
set_option maxRecDepth 100000
set_option maxHeartbeats 4000000
theorem k8u (bp g n i:Nat) (op:Int) (w:World) (hn:n≤400) (hi:(i:Int)<n)
  (c0:w.cell? ⟨bp,0,none⟩=some (.slice (some ⟨g,0,none⟩) n n)) (d1:w.cell? ⟨g,i*7,none⟩=some (.int .i64 op)) (h6:(op == 6)=false) (h9:(op == 9)=false) (h7:(op == 7)=false) (h8:(op == 8)=false) :
  Calls Tryz.prog 161 #[.pointer (some ⟨bp,0,none⟩),.int .i64 i] w fun e w'=>e = .returned (.int .i64 ((i:Int)+1))∧∃ q,w'=w.drewN q:=by
 have hw1:=z4i hn hi
 have hp0:(0:Int)≤(i:Int):=by omega
 go_enter Tryz.func161,Tryz.ntmps161
 go_wp2
 go_ret
 exact ⟨rfl,0,rfl⟩
theorem j7k (bp g n i:Nat) (op x:Int) (w:World) (hn:n≤400) (hi:(i:Int)<n) (hi1:(i:Int)+1<n)
  (c0:w.cell? ⟨bp,0,none⟩=some (.slice (some ⟨g,0,none⟩) n n)) (d1:w.cell? ⟨g,i*7,none⟩=some (.int .i64 op)) (d2:w.cell? ⟨g,(i+1)*7+3,none⟩=some (.int .i64 x)) (hop:op=7∨op=8) :
  Calls Tryz.prog 161 #[.pointer (some ⟨bp,0,none⟩),.int .i64 i] w fun e w'=>e = .returned (.int .i64 x)∧∃ q,w'=w.drewN q:=by
 have hw1:=z4i hn hi
 have hp0:(0:Int)≤(i:Int):=by omega
 have hp1:(0:Int)≤(i:Int)+1:=by omega
 have htn:((i:Int)+1).toNat=i+1:=by omega
 rcases hop with rfl | rfl
 all_goals
  go_enter Tryz.func161,Tryz.ntmps161
  go_wp2
  go_ret
  exact ⟨rfl,0,rfl⟩
theorem j7l (bp g n i j:Nat) (op x:Int) (w:World) (hn:n≤400) (hi:(i:Int)<n) (hi1:(i:Int)+1<n) (hj:(j:Int)<n)
  (c0:w.cell? ⟨bp,0,none⟩=some (.slice (some ⟨g,0,none⟩) n n)) (d1:w.cell? ⟨g,i*7,none⟩=some (.int .i64 op)) (d2:w.cell? ⟨g,(i+1)*7+3,none⟩=some (.int .i64 (j:Int))) (d3:w.cell? ⟨g,j*7+3,none⟩=some (.int .i64 x)) (hop:op=6∨op=9) :
  Calls Tryz.prog 161 #[.pointer (some ⟨bp,0,none⟩),.int .i64 i] w fun e w'=>e = .returned (.int .i64 x)∧∃ q,w'=w.drewN q:=by
 have hw1:=z4i hn hi
 have hp0:(0:Int)≤(i:Int):=by omega
 have hp1:(0:Int)≤(i:Int)+1:=by omega
 have htn:((i:Int)+1).toNat=i+1:=by omega
 have hpj:(0:Int)≤(j:Int):=by omega
 rcases hop with rfl | rfl
 all_goals
  go_enter Tryz.func161,Tryz.ntmps161
  go_wp2_with fail
  go_quiet (fail)
  go_wp2
  go_ret
  exact ⟨rfl,_,rfl⟩
def v9x (g a b:Nat) (e f:Value) (w w':World):Prop:=
 w'.os=w.os∧w'.tape=w.tape∧w'.output=w.output∧w'.heap=((w.setCell ⟨g,a,none⟩ e).setCell ⟨g,b,none⟩ f).heap
theorem k9j (bp g n i:Nat) (x y:Int) (w:World) (hi:(i:Int)<n)
  (c0:w.cell? ⟨bp,0,none⟩=some (.slice (some ⟨g,0,none⟩) n n)) (y1 y2:Value) (e5:w.cell? ⟨g,i*7+4,none⟩=some y1) (e6:w.cell? ⟨g,i*7+5,none⟩=some y2) (z1:w.frozen? ⟨g,i*7+4,none⟩=false) (z2:w.frozen? ⟨g,i*7+5,none⟩=false) :
  Calls Tryz.prog 192 #[.pointer (some ⟨bp,0,none⟩),.int .i64 i,.int .i64 x,.int .i64 y] w fun e w'=>e = .returned (.tuple #[])∧v9x g (i*7+4) (i*7+5) (.int .i64 x) (.int .i64 y) w w':=by
 have hp0:(0:Int)≤(i:Int):=by omega
 go_enter Tryz.func192,Tryz.ntmps192
 go_region_held3 (fun w'=>w'.cell? ⟨bp,0,none⟩=some (.slice (some ⟨g,0,none⟩) n n))
  (first | exact c0 | exact (cso (by omega)).trans c0 | exact (cso (by omega)).trans ((cso (by omega)).trans c0)) (fail)
 all_goals
  go_wp2
  go_end0
  exact ⟨rfl,rfl,rfl,rfl,rfl⟩
def j0u (n:Int):Bool:=decide (0≤n) && decide (n≤1000000)
def okC (c:Int × Int):Bool:=j0u c.1 && j0u c.2
theorem z3b {n:Int} (h:j0u n=true):0≤n∧n≤1000000:=by simpa [j0u] using h
theorem k6k {n:Int} (h:j0u n=false):n<0∨(0≤n∧1000000<n):=by
 simp [j0u] at h
 omega
theorem z6i (n:Int) (w:World):Calls Tryz.prog 258 #[.int .i64 n] w fun e w'=>e = .returned (.bool (j0u n))∧w=w':=by
 cases h:j0u n with
 | true=>
  obtain ⟨h1,h2⟩:=z3b h
  clear h
  go_enter Tryz.func258,Tryz.ntmps258
  go_wp2
  go_ret
  exact ⟨rfl,rfl⟩
 | false=>
  rcases k6k h with h1 | ⟨h1,h2⟩
  ·have h1':¬ 0≤n:=by omega
   clear h
   go_enter Tryz.func258,Tryz.ntmps258
   go_wp2
   go_ret
   exact ⟨rfl,rfl⟩
  ·have h2':¬ n≤1000000:=by omega
   clear h
   go_enter Tryz.func258,Tryz.ntmps258
   go_wp2
   go_ret
   exact ⟨rfl,rfl⟩
theorem z8g (cs:List (Int × Int)) (B:Nat) (w:World) (hB:B<w.heap.size) (hlen:cs.length≤2)
  (hc:∀ j (h:j<cs.length),w.cell? ⟨B,j*2,none⟩=some (.int .i64 cs[j].1)∧w.cell? ⟨B,j*2+1,none⟩=some (.int .i64 cs[j].2)) :
  Calls Tryz.prog 245 #[.slice (some ⟨B,0,none⟩) cs.length cs.length] w fun e w'=>((∃ c∈cs,okC c=false)∧e = .returned (.iface 24 (.int .i64 1))∨(∀ c∈cs,okC c=true)∧e = .returned .nilIface)∧Below w.heap.size w w':=by
 go_enter Tryz.func245,Tryz.ntmps245
 go_wp2
 go_loopw [7] (fun i wr=>∃ k:Nat,k≤cs.length∧i = .int .i64 k∧(∀ c∈cs.take k,okC c=true)∧Below w.heap.size w wr) (fun i _=>cs.length - (intOf i).toNat)
 case atStart=>exact ⟨0,Nat.zero_le _,rfl,by simp,Below.refl _ _⟩
 case round=>
  obtain ⟨k,hk,rfl,hall,hb⟩:=hrel
  by_cases hlt:k<cs.length
  ·have c1:=(hc k hlt).1
   have c2:=(hc k hlt).2
   have d1:wr.cell? ⟨B,k*2,none⟩=some (.int .i64 cs[k].1):=(hb.cell (p:=⟨B,k*2,none⟩) hB).trans c1
   have d2:wr.cell? ⟨B,k*2+1,none⟩=some (.int .i64 cs[k].2):=(hb.cell (p:=⟨B,k*2+1,none⟩) hB).trans c2
   clear c1 c2 hc
   have hbw:w.heap.size≤wr.heap.size:=hb.size
   have hbx:Below w.heap.size w (wr.alloc (.cells #[.int .i64 cs[k].1,.int .i64 cs[k].2] 94)):=hb.alloc hbw _
   cases f1:j0u cs[k].1 with
   | false=>
    go_wp2_with (go_at_call 258;refine (z6i _ _).mono ?_;rintro e w' ⟨rfl,rfl⟩)
    go_ret
    exact ⟨.inl ⟨⟨cs[k],List.getElem_mem hlt,by simp [okC,f1]⟩,rfl⟩,hbx⟩
   | true=>
    cases f2:j0u cs[k].2 with
    | false=>
     go_wp2_with (go_at_call 258;refine (z6i _ _).mono ?_;rintro e w' ⟨rfl,rfl⟩)
     go_ret
     exact ⟨.inl ⟨⟨cs[k],List.getElem_mem hlt,by simp [okC,f2]⟩,rfl⟩,hbx⟩
    | true=>
     go_wp2_with (go_at_call 258;refine (z6i _ _).mono ?_;rintro e w' ⟨rfl,rfl⟩)
     go_roundw
     case rel=>
      refine ⟨k+1,by omega,by go_num,?_,hbx⟩
      intro c hcm
      rw [List.take_succ_eq_append_getElem hlt] at hcm
      rcases List.mem_append.1 hcm with h | h
      ·exact hall c h
      ·simp at h;subst h;simp [okC,f1,f2]
     case measure=>simp [intOf];omega
  ·go_wp2
   go_ret
   exact ⟨.inr ⟨fun c hcm=>hall c (by rw [List.take_of_length_le (by omega)];exact hcm),rfl⟩,hb⟩
theorem z2v (a b:Int × Int) (B:Nat) (w:World) (hB:B<w.heap.size) (ha:okC a=true) (hb:okC b=true)
  (h0:w.cell? ⟨B,0,none⟩=some (.int .i64 a.1)) (h1:w.cell? ⟨B,1,none⟩=some (.int .i64 a.2)) (h2:w.cell? ⟨B,2,none⟩=some (.int .i64 b.1)) (h3:w.cell? ⟨B,3,none⟩=some (.int .i64 b.2)) :
  Calls Tryz.prog 245 #[.slice (some ⟨B,0,none⟩) 2 2] w fun e w'=>e = .returned .nilIface∧Below w.heap.size w w':=by
 refine (z8g [a,b] B w hB (by simp) ?_).mono ?_
 ·intro j hj
  match j,hj with
  | 0,_=>exact ⟨h0,h1⟩
  | 1,_=>exact ⟨h2,h3⟩
 ·rintro e w' ⟨⟨⟨c,hc,hf⟩,he⟩ | ⟨_,he⟩,hB⟩
  ·simp at hc
   rcases hc with rfl | rfl
   ·rw [ha] at hf;cases hf
   ·rw [hb] at hf;cases hf
  ·exact ⟨he,hB⟩
theorem k9o (a:Int × Int) (B:Nat) (w:World) (hB:B<w.heap.size) (ha:okC a=true)
  (h0:w.cell? ⟨B,0,none⟩=some (.int .i64 a.1)) (h1:w.cell? ⟨B,1,none⟩=some (.int .i64 a.2)) :
  Calls Tryz.prog 245 #[.slice (some ⟨B,0,none⟩) 1 1] w fun e w'=>e = .returned .nilIface∧Below w.heap.size w w':=by
 refine (z8g [a] B w hB (by simp) ?_).mono ?_
 ·intro j hj
  match j,hj with
  | 0,_=>exact ⟨h0,h1⟩
 ·rintro e w' ⟨⟨⟨c,hc,hf⟩,he⟩ | ⟨_,he⟩,hB⟩
  ·simp at hc
   subst hc
   rw [ha] at hf;cases hf
  ·exact ⟨he,hB⟩
abbrev j8a (a:Int × Int):Value:=.agg #[.int .i64 a.1,.int .i64 a.2]
def z6o (a b:Int × Int):Bool:=if a.1=b.1 then decide (a.2<b.2) else decide (a.1<b.1)
theorem v2j {w w1:World} {A B C:Obj} (hb:Below (((w.alloc A).alloc B).alloc C).heap.size (((w.alloc A).alloc B).alloc C) w1):Below w.heap.size w w1:=
 ((((Below.refl _ _).alloc (Nat.le_refl _) _).alloc (by simp) _).alloc (by simp;omega) _).trans (hb.mono (by simp;omega))
theorem v6p (a b:Int × Int) (w:World) (ha:okC a=true) (hb:okC b=true) :
  Calls Tryz.prog 224 #[j8a a,j8a b] w fun e w'=>e = .returned (.tuple #[.bool (z6o a b),.nilIface])∧Below w.heap.size w w':=by
 have HA:Hid (okC a=true):=ha
 have HB:Hid (okC b=true):=hb
 clear ha hb
 by_cases h:a.1=b.1
 ·have hl:z6o a b=decide (a.2<b.2):=by simp [z6o,h]
  rw [hl]
  have h':(a.1 != b.1)=false:=by simp [h]
  clear h hl
  go_enter Tryz.func224,Tryz.ntmps224
  go_wp2_with fail
  refine (z2v a b (w.heap.size+1+1) _ (by simp) HA.out HB.out (by simp [go_sem]) (by simp [go_sem]) (by simp [go_sem]) (by simp [go_sem])).mono ?_
  rintro e w1 ⟨rfl,hb1⟩
  have hbw:=v2j hb1
  obtain ⟨hc,_⟩:=q0w hb1
  clear hb1
  go_wp2
  go_ret2
  exact ⟨rfl,hbw⟩
 ·have hl:z6o a b=decide (a.1<b.1):=by simp [z6o,h]
  rw [hl]
  have h':(a.1 != b.1)=true:=by simp [h]
  clear h hl
  go_enter Tryz.func224,Tryz.ntmps224
  go_wp2_with fail
  refine (z2v a b (w.heap.size+1+1) _ (by simp) HA.out HB.out (by simp [go_sem]) (by simp [go_sem]) (by simp [go_sem]) (by simp [go_sem])).mono ?_
  rintro e w1 ⟨rfl,hb1⟩
  have hbw:=v2j hb1
  obtain ⟨hc,_⟩:=q0w hb1
  clear hb1
  go_wp2
  go_ret2
  exact ⟨rfl,hbw⟩
end Go.Proofs.YtchdplceopegoaaGreatDoor
