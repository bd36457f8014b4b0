/- Texts as one: LayK, LayL, LayT. -/
import Derived.Test.YthjapabokcajhaaGreatDoorPb27
import Derived.Test.YthjapabokcajhaaGreatDoorPb03
import Derived.Deep.RegionHeld3
namespace Go.Proofs.YthjapabokcajhaaGreatDoor
open Go Go.RowKit
set_option maxRecDepth 100000
set_option maxHeartbeats 4000000
abbrev v3i (ds:List Td) (a:Option Addr) (cap i:Nat) (D:Tr) (W:World):Prop:=
 Calls Tryz.prog 26 #[.slice a ds.length cap,.int .i64 (i:Int)] W fun e w'=>NdR W D.nodes e w'
theorem y0d {l:Nat} {x:Td} {D:Tr} (h:prc x<l):(inD l x D).nodes=⟨6,⟨#[]⟩,0⟩::([⟨1,⟨#[40]⟩,0⟩]++(⟨6,⟨#[]⟩,0⟩::(D.nodes++[⟨1,⟨#[41]⟩,0⟩]))):=by
 rw [inD,if_pos h];rfl
theorem y3x {l:Nat} {x:Td} {D:Tr} (h:¬ prc x<l):(inD l x D).nodes=D.nodes:=by rw [inD,if_neg h]
theorem z4t {ds:List Td} {a:Option Addr} {cap p i:Nat} (W:World) (hN:Tds W a ds) (hp:p<ds.length) (hi:i<ds.length) (hop:ds[p].op=5∨ds[p].op=6) (sec:Bool) (D:Tr) (hz:D.nodes.length≤10000) (hT:v3i ds a cap i D W) :
  Calls Tryz.prog 59 #[.slice a ds.length cap,.int .i64 (p:Int),.int .i64 (i:Int),.bool sec] W fun e w'=>NdR W (inD (lvl ds[p].op sec) ds[i] D).nodes e w':=by
 have HN:Hid (Tds W a ds):=hN
 have HT:Hid (v3i ds a cap i D W):=hT
 have HBD:Hid (∀ W':World,Calls Tryz.prog 93 #[tdV ds[p],tdV ds[i],.bool sec] W' fun e w'=>e = .returned (.bool (decide (prc ds[i]<lvl ds[p].op sec)))∧Below W'.heap.size W' w'):=fun W'=>by
  have:=k6r ds[p] ds[i] sec W'
  rw [v3v _ _ _ hop] at this
  exact this
 have hpi:(p:Int)<(ds.length:Int):=by omega
 have hii:(i:Int)<(ds.length:Int):=by omega
 have HY:Hid (prc ds[i]<lvl ds[p].op sec→(inD (lvl ds[p].op sec) ds[i] D).nodes=⟨6,⟨#[]⟩,0⟩::([⟨1,⟨#[40]⟩,0⟩]++(⟨6,⟨#[]⟩,0⟩::(D.nodes++[⟨1,⟨#[41]⟩,0⟩])))):=y0d
 have HNO:Hid (¬ prc ds[i]<lvl ds[p].op sec→(inD (lvl ds[p].op sec) ds[i] D).nodes=D.nodes):=y3x
 have HC:Hid (∀ W',Below W.heap.size W W'→∃ b o,a=some ⟨b,o,none⟩∧b<W'.heap.size∧(W'.cell? ⟨b,o+p*3,none⟩=some (.int .i64 ds[p].op)∧W'.cell? ⟨b,o+p*3+1,none⟩=some (.string ds[p].tx)∧W'.cell? ⟨b,o+p*3+2,none⟩=some (.int .i64 ds[p].n))∧(W'.cell? ⟨b,o+i*3,none⟩=some (.int .i64 ds[i].op)∧W'.cell? ⟨b,o+i*3+1,none⟩=some (.string ds[i].tx)∧W'.cell? ⟨b,o+i*3+2,none⟩=some (.int .i64 ds[i].n))):=fun W' hb=>by
  obtain ⟨bp,op,e1,hbp,p1,p2,p3⟩:=(HN.out.below hb) p hp
  obtain ⟨bi,oi,e2,hbi,i1,i2,i3⟩:=(HN.out.below hb) i hi
  rw [e1] at e2
  simp only [Option.some.injEq,Addr.mk.injEq,and_true] at e2
  obtain ⟨rfl,rfl⟩:=e2
  exact ⟨bp,op,e1,hbp,⟨p1,p2,p3⟩,⟨i1,i2,i3⟩⟩
 generalize (inD (lvl ds[p].op sec) ds[i] D).nodes=R at HY HNO ⊢
 generalize hpl:lvl ds[p].op sec=l at HY HNO HBD
 unfold v3i at HT
 generalize D.nodes=xs at HY HNO HT hz
 clear hN hT hop hpl HN
 generalize ds[p]=xp at HC HBD
 generalize ds[i]=xi at HC HBD HY HNO
 generalize prc xi=pr at HY HNO HBD
 obtain ⟨po,pt,pn⟩:=xp
 obtain ⟨io,it,inn⟩:=xi
 by_cases hb:pr<l
 ·have HR:=(show Hid (_=_) from HY.out hb)
  have HB1:Hid (decide (pr<l)=true):=decide_eq_true hb
  clear hb HY HNO
  go_enter Tryz.func59,Tryz.ntmps59
  go_wp2_with fail
  refine HT.out.mono ?_
  rintro e w1 hres
  obtain ⟨v1,rfl,hv1,b1⟩:=hres.val
  have HV1:Hid (NdV w1 v1 xs):=hv1
  obtain ⟨bp,op,rfl,hlb,⟨p1,p2,p3⟩,i1,i2,i3⟩:=HC.out w1 b1
  have HBD1:Hid (Calls Tryz.prog 93 #[tdV ⟨po,pt,pn⟩,tdV ⟨io,it,inn⟩,.bool sec] w1.drew fun e w'=>e = .returned (.bool (decide (pr<l)))∧Below w1.heap.size w1 w'):=(HBD.out w1.drew).mono fun _ _ h=>⟨h.1,(Below.refl w1.heap.size w1).drew.trans h.2⟩
  have d1:w1.drew.cell? ⟨bp,op+p*3,none⟩=some (.int .i64 po):=p1
  have d2:w1.drew.cell? ⟨bp,op+p*3+1,none⟩=some (.string pt):=p2
  have d3:w1.drew.cell? ⟨bp,op+p*3+2,none⟩=some (.int .i64 pn):=p3
  have d4:w1.drew.cell? ⟨bp,op+i*3,none⟩=some (.int .i64 io):=i1
  have d5:w1.drew.cell? ⟨bp,op+i*3+1,none⟩=some (.string it):=i2
  have d6:w1.drew.cell? ⟨bp,op+i*3+2,none⟩=some (.int .i64 inn):=i3
  have HB1':=(show Hid (_) from b1)
  clear HC HBD HT b1 hv1 hres
  go_wp2_with fail
  go_region_held3 (fun w'=>w'.cell? ⟨bp,op+p*3,none⟩=some (.int .i64 po)∧w'.cell? ⟨bp,op+p*3+1,none⟩=some (.string pt)∧w'.cell? ⟨bp,op+p*3+2,none⟩=some (.int .i64 pn)∧w'.cell? ⟨bp,op+i*3,none⟩=some (.int .i64 io)∧w'.cell? ⟨bp,op+i*3+1,none⟩=some (.string it)∧w'.cell? ⟨bp,op+i*3+2,none⟩=some (.int .i64 inn))
   (first | with_reducible exact ⟨d1,d2,d3,d4,d5,d6⟩ | with_reducible exact ⟨p1,p2,p3,i1,i2,i3⟩ | with_reducible exact ⟨(hb2.cell (p:=⟨bp,_,none⟩) hlb).trans p1,(hb2.cell (p:=⟨bp,_,none⟩) hlb).trans p2,(hb2.cell (p:=⟨bp,_,none⟩) hlb).trans p3,(hb2.cell (p:=⟨bp,_,none⟩) hlb).trans i1,(hb2.cell (p:=⟨bp,_,none⟩) hlb).trans i2,(hb2.cell (p:=⟨bp,_,none⟩) hlb).trans i3⟩)
   ((go_at_call 93;refine HBD1.out.mono ?_;rintro e w2 ⟨rfl,hb2⟩;rw [HB1.out]))
  all_goals
   have HV2:Hid (NdV w2 v1 xs):=HV1.out.below hb2
   have HB2:Hid (Below W.heap.size W w2):=q0i HB1'.out (Nat.le_refl _) hb2
   clear hb2
   go_wp2_with fail
   refine (q0t _ _).mono ?_
   rintro e w3 h3
   obtain ⟨v3,rfl,n3,b3⟩:=h3.val
   have HB3:Hid (Below W.heap.size W w3):=q0i HB2.out (Nat.le_refl _) b3
   have HV3:Hid (NdV w3 v3 [⟨1,⟨#[40]⟩,0⟩]):=n3
   have HD3:Hid (NdV w3 v1 xs):=HV2.out.below b3
   clear h3 n3 b3 HB2 HV2
   go_wp2_with fail
   refine (q0t _ _).mono ?_
   rintro e w4 h4
   obtain ⟨v4,rfl,n4,b4⟩:=h4.val
   have HB4:Hid (Below W.heap.size W w4):=q0i HB3.out (Nat.le_refl _) b4
   have HV4:Hid (NdV w4 v4 [⟨1,⟨#[41]⟩,0⟩]):=n4
   have HD4:Hid (NdV w4 v1 xs):=HD3.out.below b4
   have HP4:Hid (NdV w4 v3 [⟨1,⟨#[40]⟩,0⟩]):=HV3.out.below b4
   clear h4 n4 b4 HB3 HV3 HD3
   go_wp2_with fail
   refine (q0m _ HD4.out HV4.out (by simp;omega)).mono ?_
   rintro e w5 h5
   obtain ⟨v5,rfl,n5,b5⟩:=h5.val
   have HB5:Hid (Below W.heap.size W w5):=q0i HB4.out (Nat.le_refl _) b5
   have HV5:Hid (NdV w5 v5 (⟨6,⟨#[]⟩,0⟩::(xs++[⟨1,⟨#[41]⟩,0⟩]))):=n5
   have HP5:Hid (NdV w5 v3 [⟨1,⟨#[40]⟩,0⟩]):=HP4.out.below b5
   clear h5 n5 b5 HB4 HV4 HD4 HP4
   go_wp2_with fail
   refine (q0m _ HP5.out HV5.out (by simp;omega)).mono ?_
   rintro e w6 h6
   have HR6:Hid (NdR W R e w6):=by
    show NdR W R e w6
    rw [HR.out]
    exact h6.from HB5.out
   obtain ⟨v6,rfl,_,_⟩:=h6.val
   clear h6
   go_wp2
   go_ret
   exact HR6.out
 ·have HR:=(show Hid (_=_) from HNO.out hb)
  have HB1:Hid (decide (pr<l)=false):=decide_eq_false hb
  clear hb HY HNO
  go_enter Tryz.func59,Tryz.ntmps59
  go_wp2_with fail
  refine HT.out.mono ?_
  rintro e w1 hres
  have HRES:Hid (NdR W xs e w1):=hres
  obtain ⟨v1,rfl,hv1,b1⟩:=hres.val
  have HV1:Hid (NdV w1 v1 xs):=hv1
  obtain ⟨bp,op,rfl,hlb,⟨p1,p2,p3⟩,i1,i2,i3⟩:=HC.out w1 b1
  have HBD1:Hid (Calls Tryz.prog 93 #[tdV ⟨po,pt,pn⟩,tdV ⟨io,it,inn⟩,.bool sec] w1.drew fun e w'=>e = .returned (.bool (decide (pr<l)))∧Below w1.heap.size w1 w'):=(HBD.out w1.drew).mono fun _ _ h=>⟨h.1,(Below.refl w1.heap.size w1).drew.trans h.2⟩
  have d1:w1.drew.cell? ⟨bp,op+p*3,none⟩=some (.int .i64 po):=p1
  have d2:w1.drew.cell? ⟨bp,op+p*3+1,none⟩=some (.string pt):=p2
  have d3:w1.drew.cell? ⟨bp,op+p*3+2,none⟩=some (.int .i64 pn):=p3
  have d4:w1.drew.cell? ⟨bp,op+i*3,none⟩=some (.int .i64 io):=i1
  have d5:w1.drew.cell? ⟨bp,op+i*3+1,none⟩=some (.string it):=i2
  have d6:w1.drew.cell? ⟨bp,op+i*3+2,none⟩=some (.int .i64 inn):=i3
  have HB1':=(show Hid (_) from b1)
  clear HC HBD HT b1 hv1 hres
  go_wp2_with fail
  go_region_held3 (fun w'=>w'.cell? ⟨bp,op+p*3,none⟩=some (.int .i64 po)∧w'.cell? ⟨bp,op+p*3+1,none⟩=some (.string pt)∧w'.cell? ⟨bp,op+p*3+2,none⟩=some (.int .i64 pn)∧w'.cell? ⟨bp,op+i*3,none⟩=some (.int .i64 io)∧w'.cell? ⟨bp,op+i*3+1,none⟩=some (.string it)∧w'.cell? ⟨bp,op+i*3+2,none⟩=some (.int .i64 inn))
   (first | with_reducible exact ⟨d1,d2,d3,d4,d5,d6⟩ | with_reducible exact ⟨p1,p2,p3,i1,i2,i3⟩ | with_reducible exact ⟨(hb2.cell (p:=⟨bp,_,none⟩) hlb).trans p1,(hb2.cell (p:=⟨bp,_,none⟩) hlb).trans p2,(hb2.cell (p:=⟨bp,_,none⟩) hlb).trans p3,(hb2.cell (p:=⟨bp,_,none⟩) hlb).trans i1,(hb2.cell (p:=⟨bp,_,none⟩) hlb).trans i2,(hb2.cell (p:=⟨bp,_,none⟩) hlb).trans i3⟩)
   ((go_at_call 93;refine HBD1.out.mono ?_;rintro e w2 ⟨rfl,hb2⟩;rw [HB1.out]))
  all_goals
   obtain ⟨A9,c9,e9,o9,b9⟩:=HRES.out
   have HRR:Hid (NdR W R (.returned v1) w2):=⟨A9,c9,by rw [HR.out];exact e9,by rw [HR.out];exact o9.kept fun g _ h=>hb2.block g h,q0i b9 (Nat.le_refl _) hb2⟩
   clear hb2 o9 b9
   go_wp2
   go_ret
   exact HRR.out
end Go.Proofs.YthjapabokcajhaaGreatDoor
namespace Go.Proofs.YthjapabokcajhaaGreatDoor
open Go Go.RowKit
set_option maxRecDepth 100000
set_option maxHeartbeats 2000000
def DcH (ds:List Td) (a:Option Addr) (cap:Nat) (F:Fo) (D:Tr):Prop:=∀ i r,ds.drop i=F.nodes++r→∀ W:World,Tds W a ds→v3i ds a cap i D W
def DcA (ds:List Td) (a:Option Addr) (cap:Nat):Fo→Prop
 | .nil=>True
 | .cons x k n=>DcH ds a cap (.cons x k n) (q0e x k.dcs)∧DcA ds a cap n
def k7r (w:World) (b:Nat) (o:Int) (t:ByteArray) (n:Int):Prop:=b<w.heap.size∧w.cell? ⟨b,0,none⟩=some (.int .i64 o)∧w.cell? ⟨b,1,none⟩=some (.string t)∧w.cell? ⟨b,2,none⟩=some (.int .i64 n)
theorem k7r.below {w w':World} {b:Nat} {o:Int} {t:ByteArray} {n:Int} (h:k7r w b o t n) (hb:Below w.heap.size w w'):k7r w' b o t n:=by
 obtain ⟨h0,h1,h2,h3⟩:=h
 have:=hb.size
 exact ⟨by omega,((q1r hb).1 _ _ h0).trans h1,((q1r hb).1 _ _ h0).trans h2,((q1r hb).1 _ _ h0).trans h3⟩
theorem k7r.new (w:World) (o:Int) (t:ByteArray) (n:Int) (ty:TypeId):k7r (w.alloc (.cells #[.int .i64 o,.string t,.int .i64 n] ty)) w.heap.size o t n:=by
 have h1:(w.alloc (.cells #[.int .i64 o,.string t,.int .i64 n] ty)).heap[w.heap.size]? = some (.cells #[.int .i64 o,.string t,.int .i64 n] ty (0,0)):=by
  show (w.heap.push _)[w.heap.size]? = _
  simp
 have h2:∀ k,(w.alloc (.cells #[.int .i64 o,.string t,.int .i64 n] ty)).cell? ⟨w.heap.size,k,none⟩=(match (w.alloc (.cells #[.int .i64 o,.string t,.int .i64 n] ty)).heap[w.heap.size]? with
  | some (.cells c _ _)=>c[k]?
  | _=>none):=fun _=>rfl
 exact ⟨by rw [World.size_alloc];omega,by rw [h2,h1];rfl,by rw [h2,h1];rfl,by rw [h2,h1];rfl⟩
structure q0p (W:World) (x:Td) (w:World):Prop where
 b:Below W.heap.size W w
 n:k7r w W.heap.size x.op x.tx x.n
 bl:NdV w (.slice (some ⟨W.heap.size+1,0,none⟩) 1 1) [⟨2,⟨#[]⟩,0⟩]
 sf:NdV w (.slice (some ⟨W.heap.size+1+1,0,none⟩) 1 1) [⟨3,⟨#[]⟩,0⟩]
 gr:k7r w (W.heap.size+1+1+1) 8 ⟨#[]⟩ 0
 dp:k7r w (W.heap.size+1+1+1+1) 7 ⟨#[]⟩ 2
theorem q0p.below {W:World} {x:Td} {w w':World} (h:q0p W x w) (hb:Below w.heap.size w w'):q0p W x w':=
 ⟨q0i h.b (Nat.le_refl _) hb,h.n.below hb,h.bl.below hb,h.sf.below hb,h.gr.below hb,h.dp.below hb⟩
abbrev dcW (W:World) (o:Int) (t:ByteArray) (n:Int):World:=((((W.alloc (.cells #[.int .i64 o,.string t,.int .i64 n] 47)).alloc (.cells #[.int .i64 2,.string ⟨#[]⟩,.int .i64 0] 107)).alloc (.cells #[.int .i64 3,.string ⟨#[]⟩,.int .i64 0] 107)).alloc (.cells #[.int .i64 8,.string ⟨#[]⟩,.int .i64 0] 107)).alloc (.cells #[.int .i64 7,.string ⟨#[]⟩,.int .i64 2] 107)
theorem z4i (W:World) (x:Td):q0p W x (dcW W x.op x.tx x.n):=by
 have s:∀ (w:World) (O:Obj),Below w.heap.size w (w.alloc O):=fun w O=>(Below.refl _ w).alloc (Nat.le_refl _) O
 have hn:=((((k7r.new W x.op x.tx x.n 47).below (s _ (.cells #[.int .i64 2,.string ⟨#[]⟩,.int .i64 0] 107))).below (s _ (.cells #[.int .i64 3,.string ⟨#[]⟩,.int .i64 0] 107))).below (s _ (.cells #[.int .i64 8,.string ⟨#[]⟩,.int .i64 0] 107))).below (s _ (.cells #[.int .i64 7,.string ⟨#[]⟩,.int .i64 2] 107))
 generalize hO:Obj.cells #[.int .i64 x.op,.string x.tx,.int .i64 x.n] 47=O at hn
 have z1:(W.alloc O).heap.size=W.heap.size+1:=World.size_alloc _ _
 have bl:=(q4z.one (W.alloc O) ⟨2,⟨#[]⟩,0⟩).val
 have z2:((W.alloc O).alloc (.cells #[.int .i64 2,.string ⟨#[]⟩,.int .i64 0] 107)).heap.size=W.heap.size+1+1:=by rw [World.size_alloc,z1]
 rw [z1] at bl
 have bl3:=((bl.below (s _ (.cells #[.int .i64 3,.string ⟨#[]⟩,.int .i64 0] 107))).below (s _ (.cells #[.int .i64 8,.string ⟨#[]⟩,.int .i64 0] 107))).below (s _ (.cells #[.int .i64 7,.string ⟨#[]⟩,.int .i64 2] 107))
 have sf:=(q4z.one ((W.alloc O).alloc (.cells #[.int .i64 2,.string ⟨#[]⟩,.int .i64 0] 107)) ⟨3,⟨#[]⟩,0⟩).val
 rw [z2] at sf
 have z3:(((W.alloc O).alloc (.cells #[.int .i64 2,.string ⟨#[]⟩,.int .i64 0] 107)).alloc (.cells #[.int .i64 3,.string ⟨#[]⟩,.int .i64 0] 107)).heap.size=W.heap.size+1+1+1:=by rw [World.size_alloc,z2]
 have sf2:=(sf.below (s _ (.cells #[.int .i64 8,.string ⟨#[]⟩,.int .i64 0] 107))).below (s _ (.cells #[.int .i64 7,.string ⟨#[]⟩,.int .i64 2] 107))
 have gr:=k7r.new (((W.alloc O).alloc (.cells #[.int .i64 2,.string ⟨#[]⟩,.int .i64 0] 107)).alloc (.cells #[.int .i64 3,.string ⟨#[]⟩,.int .i64 0] 107)) 8 ⟨#[]⟩ 0 107
 rw [z3] at gr
 have z4:((((W.alloc O).alloc (.cells #[.int .i64 2,.string ⟨#[]⟩,.int .i64 0] 107)).alloc (.cells #[.int .i64 3,.string ⟨#[]⟩,.int .i64 0] 107)).alloc (.cells #[.int .i64 8,.string ⟨#[]⟩,.int .i64 0] 107)).heap.size=W.heap.size+1+1+1+1:=by rw [World.size_alloc,z3]
 have dp:=k7r.new ((((W.alloc O).alloc (.cells #[.int .i64 2,.string ⟨#[]⟩,.int .i64 0] 107)).alloc (.cells #[.int .i64 3,.string ⟨#[]⟩,.int .i64 0] 107)).alloc (.cells #[.int .i64 8,.string ⟨#[]⟩,.int .i64 0] 107)) 7 ⟨#[]⟩ 2 107
 rw [z4] at dp
 have bb:Below W.heap.size W (dcW W x.op x.tx x.n):=by
  refine (((((Below.refl _ W).alloc (Nat.le_refl _) _).alloc ?_ _).alloc ?_ _).alloc ?_ _).alloc ?_ _<;>simp only [World.size_alloc]<;>omega
 subst hO
 exact ⟨bb,hn,bl3,sf2,gr.below (s _ _),dp⟩
theorem k3f {ds:List Td} {a:Option Addr} {cap:Nat} (hs:v3o ds) {x:Td} {k n:Fo} (hok:(Fo.cons x k n).ok) (hx:exN x) (h2:x.op=1∨x.op=2):DcH ds a cap (.cons x k n) (q0e x k.dcs):=by
 intro i r hi W hN
 obtain ⟨hp,e1,_,_,_⟩:=k5y hi hok
 obtain ⟨b,o,rfl,hb,c1,c2,c3⟩:=hN i hp
 have hl:=hs.l
 have hii:(i:Int)<(ds.length:Int):=by omega
 rw [e1] at c1 c2 c3
 have HPR:Hid (q0p W x (dcW W x.op x.tx x.n)):=z4i W x
 obtain ⟨xo,xt,xn⟩:=x
 simp only at c1 c2 c3 HPR h2
 rcases q2a hx with ⟨ho,htx,hn0,hn1,_⟩ | ⟨ho,_,hn2,_⟩ | ⟨ho,_⟩ | ⟨ho,_⟩ | ⟨ho,_⟩ | ⟨ho,_⟩
 ·simp only at ho hn0 hn1
  subst ho
  obtain ⟨m,rfl⟩:∃ m:Nat,xn=(m:Int):=⟨xn.toNat,by omega⟩
  have HT:Hid (q0e ⟨1,xt,(m:Int)⟩ k.dcs=wdD (q2y m)):=by show _=_;simp [q0e]
  have hm9:m≤999999:=by omega
  clear e1 hi hok hx h2 htx hn0 hn1 hN
  unfold v3i
  rw [HT.out]
  have HD:Hid (∀ W:World,Calls Tryz.prog 58 #[.int .i64 (m:Int)] W fun e w'=>e = .returned (.string (wbS (q2y m)))∧W=w'):=fun W=>j9r m hm9 W
  show Calls _ _ _ _ fun e w'=>NdR W [⟨1,wbS (q2y m),0⟩] e w'
  generalize wbS (q2y m)=T at HD ⊢
  go_enter Tryz.func26,Tryz.ntmps26
  go_wp2_with fail
  refine (HD.out _).mono ?_
  rintro e w2 ⟨rfl,rfl⟩
  go_wp2_with fail
  refine (q0t _ _).mono ?_
  rintro e w3 h3
  have HR:Hid (NdR W [⟨1,T,0⟩] e w3):=h3.from HPR.out.b
  obtain ⟨v3,rfl,_,_⟩:=h3.val
  clear h3
  go_wp2
  go_ret
  exact HR.out
 ·simp only at ho hn2
  subst ho hn2
  have HT:Hid (q0e ⟨2,xt,0⟩ k.dcs=wdD (btL xt)):=by show _=_;simp [q0e]
  clear e1 hi hok hx h2 hN
  unfold v3i
  rw [HT.out]
  show Calls _ _ _ _ fun e w'=>NdR W [⟨1,xt,0⟩] e w'
  go_enter Tryz.func26,Tryz.ntmps26
  go_wp2_with fail
  refine (q0t _ _).mono ?_
  rintro e w3 h3
  have HR:Hid (NdR W [⟨1,xt,0⟩] e w3):=h3.from HPR.out.b
  obtain ⟨v3,rfl,_,_⟩:=h3.val
  clear h3
  go_wp2
  go_ret
  exact HR.out
 ·simp only at ho;omega
 ·simp only at ho;omega
 ·simp only at ho;omega
 ·simp only at ho;omega
end Go.Proofs.YthjapabokcajhaaGreatDoor
namespace Go.Proofs.YthjapabokcajhaaGreatDoor
open Go Go.RowKit
set_option maxRecDepth 100000
set_option maxHeartbeats 8000000
theorem z1p {ds:List Td} (hs:v3o ds) {i:Nat} {F:Fo} {r:List Td} (h:ds.drop i=F.nodes++r):z1t F.dcs≤800:=by
 have h1:=z4j F
 have h2:=congrArg List.length h
 rw [List.length_drop,List.length_append] at h2
 have:=hs.l
 omega
abbrev Six (W w:World):Prop:=w.cell? ⟨W.heap.size+1+1+1,0,none⟩=some (.int .i64 8)∧w.cell? ⟨W.heap.size+1+1+1,1,none⟩=some (.string ⟨#[]⟩)∧w.cell? ⟨W.heap.size+1+1+1,2,none⟩=some (.int .i64 0)∧w.cell? ⟨W.heap.size+1+1+1+1,0,none⟩=some (.int .i64 7)∧w.cell? ⟨W.heap.size+1+1+1+1,1,none⟩=some (.string ⟨#[]⟩)∧w.cell? ⟨W.heap.size+1+1+1+1,2,none⟩=some (.int .i64 2)
theorem q0p.six {W:World} {x:Td} {w:World} (h:q0p W x w):Six W w:=⟨h.gr.2.1,h.gr.2.2.1,h.gr.2.2.2,h.dp.2.1,h.dp.2.2.1,h.dp.2.2.2⟩
theorem k9u {ds:List Td} {a:Option Addr} {cap:Nat} (hs:v3o ds) {x:Td} {k n:Fo} (hok:(Fo.cons x k n).ok) (hex:(Fo.cons x k n).exs) (h2:x.op=5∨x.op=6) (hk:DcA ds a cap k):DcH ds a cap (.cons x k n) (q0e x k.dcs):=by
 intro i r hi W hN
 obtain ⟨hp,e1,e2,_,_⟩:=k5y hi hok
 have hkd:kdT x=2:=by
  unfold kdT
  rcases h2 with h | h<;>rw [h]<;>rfl
 have hkl:k.len=2:=hok.1.trans hkd
 obtain ⟨xa,ka,xb,kb,rfl⟩:∃ xa ka xb kb,k = .cons xa ka (.cons xb kb .nil):=by
  match k,hkl with
  | .cons xa ka (.cons xb kb .nil),_=>exact ⟨xa,ka,xb,kb,rfl⟩
 have htr:(Fo.cons xa ka (.cons xb kb .nil)).dcs=[(xa,q0e xa ka.dcs),(xb,q0e xb kb.dcs)]:=rfl
 have hz:=z1p hs e2
 rw [htr,q1t,q1t] at hz
 obtain ⟨hpa,ea,_,ena,eda⟩:=k5y e2 hok.2.1
 obtain ⟨hpb,eb,_,_,_⟩:=k5y eda hok.2.1.2.2
 generalize hj:i+1+1+ka.nodes.length=j at ena eda hpb eb
 have HN:Hid (Tds W a ds):=hN
 have hl:=hs.l
 have hza:(q0e xa ka.dcs).nodes.length≤800:=by simp only at hz;omega
 have hzb:(q0e xb kb.dcs).nodes.length≤800:=by simp only at hz;omega
 have HK1:Hid (∀ W':World,Below W.heap.size W W'→Calls Tryz.prog 59 #[.slice a ds.length cap,.int .i64 (i:Int),.int .i64 ((i:Int)+1),.bool false] W' fun e w'=>NdR W' (inD (lvl x.op false) xa (q0e xa ka.dcs)).nodes e w'):=fun W' hb=>by
  have h:=z4t W' (hN.below hb) hp hpa (by rw [e1];exact h2) false (q0e xa ka.dcs) (by omega) (hk.1 (i+1) _ e2 W' (hN.below hb)) (cap:=cap)
  rw [e1,ea,show ((i+1:Nat):Int)=(i:Int)+1 by omega] at h
  exact h
 have HEN:Hid (∀ W':World,Below W.heap.size W W'→Calls Tryz.prog 24 #[.slice a ds.length cap,.int .i64 ((i:Int)+1)] W' fun e w'=>e = .returned (.int .i64 (j:Int))∧Below W'.heap.size W' w'):=fun W' hb=>by
  have h:=k3g (cap:=cap) hs ena hpa W' (hN.below hb)
  rw [show ((i+1:Nat):Int)=(i:Int)+1 by omega] at h
  exact h
 have HK2:Hid (∀ W':World,Below W.heap.size W W'→Calls Tryz.prog 59 #[.slice a ds.length cap,.int .i64 (i:Int),.int .i64 (j:Int),.bool true] W' fun e w'=>NdR W' (inD (lvl x.op true) xb (q0e xb kb.dcs)).nodes e w'):=fun W' hb=>by
  have h:=z4t W' (hN.below hb) hp hpb (by rw [e1];exact h2) true (q0e xb kb.dcs) (by omega) (hk.2.1 j _ eda W' (hN.below hb)) (cap:=cap)
  rw [e1,eb] at h
  exact h
 have hna:=k6i (lvl x.op false) xa (q0e xa ka.dcs)
 have hnb:=k6i (lvl x.op true) xb (q0e xb kb.dcs)
 have HDC:Hid ((q0e x [(xa,q0e xa ka.dcs),(xb,q0e xb kb.dcs)]).nodes=⟨8,⟨#[]⟩,0⟩::(⟨6,⟨#[]⟩,0⟩::((inD (lvl x.op false) xa (q0e xa ka.dcs)).nodes++(⟨7,⟨#[]⟩,2⟩::(⟨6,⟨#[]⟩,0⟩::([⟨2,⟨#[]⟩,0⟩]++(⟨6,⟨#[]⟩,0⟩::([⟨1,(if x.op=5 then ⟨#[43,32]⟩ else ⟨#[42,32]⟩),0⟩]++(inD (lvl x.op true) xb (q0e xb kb.dcs)).nodes)))))))):=by
  show _=_
  rcases h2 with h | h
  ·rw [if_pos h];simp [q0e,h,tw2,lvl,Tr.nodes];rfl
  ·rw [if_neg (by omega)];simp [q0e,h,tw2,lvl,Tr.nodes];rfl
 obtain ⟨b,o,rfl,hb,c1,c2,c3⟩:=hN i hp
 have hii:(i:Int)<(ds.length:Int):=by omega
 rw [e1] at c1 c2 c3
 have HPR:Hid (q0p W x (dcW W x.op x.tx x.n)):=z4i W x
 unfold v3i
 rw [htr,HDC.out]
 generalize (inD (lvl x.op false) xa (q0e xa ka.dcs)).nodes=ls at HK1 hna ⊢
 generalize (inD (lvl x.op true) xb (q0e xb kb.dcs)).nodes=rs at HK2 hnb ⊢
 have hx:=q2a (hex x (by simp [Fo.nodes]))
 clear hN e1 e2 hi hok hex hk hj htr hz ena eda ea eb HDC hkd hkl
 obtain ⟨xo,xt,xn⟩:=x
 simp only at c1 c2 c3 HPR h2 hx hna hnb ⊢
 have hx0:xt=⟨#[]⟩∧xn=0:=by
  rcases hx with ⟨ho,_⟩ | ⟨ho,_⟩ | ⟨ho,_⟩ | ⟨ho,_⟩ | ⟨_,h1,h3,_⟩ | ⟨_,h1,h3,_⟩
  ·omega
  ·omega
  ·omega
  ·omega
  ·exact ⟨h1,h3⟩
  ·exact ⟨h1,h3⟩
 obtain ⟨rfl,rfl⟩:=hx0
 clear hx
 rcases h2 with rfl | rfl
 ·simp only [if_true]
  go_enter Tryz.func26,Tryz.ntmps26
  go_wp2_with fail
  have HPR2:=(show Hid (q0p W ⟨5,⟨#[]⟩,0⟩ (dcW W 5 ⟨#[]⟩ 0)) from HPR.out)
  clear HPR
  refine (HK1.out _ HPR2.out.b).mono ?_
  rintro e w1 h1
  obtain ⟨v1,rfl,n1,b1⟩:=h1.val
  have HP1:Hid (q0p W ⟨5,⟨#[]⟩,0⟩ w1):=HPR2.out.below b1
  have HV1:Hid (NdV w1 v1 ls):=n1
  clear h1 n1 b1 HPR2
  go_wp2_with fail
  refine (HEN.out _ HP1.out.b).mono ?_
  rintro e w2 ⟨rfl,b2⟩
  have HP2:Hid (q0p W ⟨5,⟨#[]⟩,0⟩ w2):=HP1.out.below b2
  have HV2:Hid (NdV w2 v1 ls):=HV1.out.below b2
  clear b2 HP1 HV1
  go_wp2_with fail
  refine (HK2.out _ HP2.out.b).mono ?_
  rintro e w3 h3
  obtain ⟨v3,rfl,n3,b3⟩:=h3.val
  have HP3:Hid (q0p W ⟨5,⟨#[]⟩,0⟩ w3):=HP2.out.below b3
  have HA3:Hid (NdV w3 v1 ls):=HV2.out.below b3
  have HB3:Hid (NdV w3 v3 rs):=n3
  have SK3:Hid (Six W w3):=HP3.out.six
  have SKD:Hid (Six W w3.drew):=HP3.out.six
  have HD0:Hid (Below w3.heap.size w3 w3.drew):=(Below.refl _ _).drew
  clear h3 n3 b3 HP2 HV2 HK1 HK2 HEN HN
  go_wp2_with fail
  go_region_held3 (fun w'=>Six W w') (first | with_reducible exact SKD.out | with_reducible exact SK3.out | with_reducible exact SK4.out | with_reducible exact SK5.out | with_reducible exact SK6.out | with_reducible exact SK7.out | with_reducible exact SK8.out | with_reducible exact SK9.out)
   (first
     | (go_at_call 60;refine ((q1v ⟨8,⟨#[]⟩,0⟩ (w8) HF8.out (by simp<;>omega))).mono ?_;rintro e w9 h9;have HR9:Hid (NdR W (⟨8,⟨#[]⟩,0⟩::(⟨6,⟨#[]⟩,0⟩::(ls++(⟨7,⟨#[]⟩,2⟩::(⟨6,⟨#[]⟩,0⟩::([⟨2,⟨#[]⟩,0⟩]++(⟨6,⟨#[]⟩,0⟩::([⟨1,⟨#[43,32]⟩,0⟩]++rs)))))))) e w9):=h9.from HP8.out.b;obtain ⟨v9,rfl,n9,b9⟩:=h9.val;have HP9:Hid (q0p W ⟨5,⟨#[]⟩,0⟩ w9):=HP8.out.below b9;have SK9:Hid (Six W w9):=HP9.out.six;clear h9 n9 b9)
     | (go_at_call 61;refine ((q0m (w7) HA7.out HE7.out (by simp<;>omega))).mono ?_;rintro e w8 h8;obtain ⟨v8,rfl,n8,b8⟩:=h8.val;have HP8:Hid (q0p W ⟨5,⟨#[]⟩,0⟩ w8):=HP7.out.below b8;have SK8:Hid (Six W w8):=HP8.out.six;have HF8:Hid (NdV w8 v8 (⟨6,⟨#[]⟩,0⟩::(ls++(⟨7,⟨#[]⟩,2⟩::(⟨6,⟨#[]⟩,0⟩::([⟨2,⟨#[]⟩,0⟩]++(⟨6,⟨#[]⟩,0⟩::([⟨1,⟨#[43,32]⟩,0⟩]++rs)))))))):=n8;clear h8 n8 b8)
     | (go_at_call 60;refine ((q1v ⟨7,⟨#[]⟩,2⟩ (w6) HD6.out (by simp<;>omega))).mono ?_;rintro e w7 h7;obtain ⟨v7,rfl,n7,b7⟩:=h7.val;have HP7:Hid (q0p W ⟨5,⟨#[]⟩,0⟩ w7):=HP6.out.below b7;have SK7:Hid (Six W w7):=HP7.out.six;have HA7:Hid (NdV w7 v1 (ls)):=HA6.out.below b7;have HE7:Hid (NdV w7 v7 (⟨7,⟨#[]⟩,2⟩::(⟨6,⟨#[]⟩,0⟩::([⟨2,⟨#[]⟩,0⟩]++(⟨6,⟨#[]⟩,0⟩::([⟨1,⟨#[43,32]⟩,0⟩]++rs)))))):=n7;clear h7 n7 b7)
     | (go_at_call 61;refine ((q0m (w5) HP5.out.bl HC5.out (by simp<;>omega))).mono ?_;rintro e w6 h6;obtain ⟨v6,rfl,n6,b6⟩:=h6.val;have HP6:Hid (q0p W ⟨5,⟨#[]⟩,0⟩ w6):=HP5.out.below b6;have SK6:Hid (Six W w6):=HP6.out.six;have HA6:Hid (NdV w6 v1 (ls)):=HA5.out.below b6;have HD6:Hid (NdV w6 v6 (⟨6,⟨#[]⟩,0⟩::([⟨2,⟨#[]⟩,0⟩]++(⟨6,⟨#[]⟩,0⟩::([⟨1,⟨#[43,32]⟩,0⟩]++rs))))):=n6;clear h6 n6 b6)
     | (go_at_call 61;refine ((q0m (w4) HS4.out HB4.out (by simp<;>omega))).mono ?_;rintro e w5 h5;obtain ⟨v5,rfl,n5,b5⟩:=h5.val;have HP5:Hid (q0p W ⟨5,⟨#[]⟩,0⟩ w5):=HP4.out.below b5;have SK5:Hid (Six W w5):=HP5.out.six;have HA5:Hid (NdV w5 v1 (ls)):=HA4.out.below b5;have HC5:Hid (NdV w5 v5 (⟨6,⟨#[]⟩,0⟩::([⟨1,⟨#[43,32]⟩,0⟩]++rs))):=n5;clear h5 n5 b5)
     | (go_at_call 57;refine ((q0t _ (w3.drew)).mono fun _ _ h=>h.from HD0.out).mono ?_;rintro e w4 h4;obtain ⟨v4,rfl,n4,b4⟩:=h4.val;have HP4:Hid (q0p W ⟨5,⟨#[]⟩,0⟩ w4):=HP3.out.below b4;have SK4:Hid (Six W w4):=HP4.out.six;have HA4:Hid (NdV w4 v1 (ls)):=HA3.out.below b4;have HB4:Hid (NdV w4 v3 (rs)):=HB3.out.below b4;have HS4:Hid (NdV w4 v4 ([⟨1,⟨#[43,32]⟩,0⟩])):=n4;clear h4 n4 b4))
  all_goals
   go_wp2
   go_ret
   exact HR9.out
 ·simp only [show ¬ (6:Int)=5 by decide,if_false]
  go_enter Tryz.func26,Tryz.ntmps26
  go_wp2_with fail
  have HPR2:=(show Hid (q0p W ⟨6,⟨#[]⟩,0⟩ (dcW W 6 ⟨#[]⟩ 0)) from HPR.out)
  clear HPR
  refine (HK1.out _ HPR2.out.b).mono ?_
  rintro e w1 h1
  obtain ⟨v1,rfl,n1,b1⟩:=h1.val
  have HP1:Hid (q0p W ⟨6,⟨#[]⟩,0⟩ w1):=HPR2.out.below b1
  have HV1:Hid (NdV w1 v1 ls):=n1
  clear h1 n1 b1 HPR2
  go_wp2_with fail
  refine (HEN.out _ HP1.out.b).mono ?_
  rintro e w2 ⟨rfl,b2⟩
  have HP2:Hid (q0p W ⟨6,⟨#[]⟩,0⟩ w2):=HP1.out.below b2
  have HV2:Hid (NdV w2 v1 ls):=HV1.out.below b2
  clear b2 HP1 HV1
  go_wp2_with fail
  refine (HK2.out _ HP2.out.b).mono ?_
  rintro e w3 h3
  obtain ⟨v3,rfl,n3,b3⟩:=h3.val
  have HP3:Hid (q0p W ⟨6,⟨#[]⟩,0⟩ w3):=HP2.out.below b3
  have HA3:Hid (NdV w3 v1 ls):=HV2.out.below b3
  have HB3:Hid (NdV w3 v3 rs):=n3
  have SK3:Hid (Six W w3):=HP3.out.six
  have SKD:Hid (Six W w3.drew):=HP3.out.six
  have HD0:Hid (Below w3.heap.size w3 w3.drew):=(Below.refl _ _).drew
  clear h3 n3 b3 HP2 HV2 HK1 HK2 HEN HN
  go_wp2_with fail
  go_region_held3 (fun w'=>Six W w') (first | with_reducible exact SKD.out | with_reducible exact SK3.out | with_reducible exact SK4.out | with_reducible exact SK5.out | with_reducible exact SK6.out | with_reducible exact SK7.out | with_reducible exact SK8.out | with_reducible exact SK9.out)
   (first
     | (go_at_call 60;refine ((q1v ⟨8,⟨#[]⟩,0⟩ (w8) HF8.out (by simp<;>omega))).mono ?_;rintro e w9 h9;have HR9:Hid (NdR W (⟨8,⟨#[]⟩,0⟩::(⟨6,⟨#[]⟩,0⟩::(ls++(⟨7,⟨#[]⟩,2⟩::(⟨6,⟨#[]⟩,0⟩::([⟨2,⟨#[]⟩,0⟩]++(⟨6,⟨#[]⟩,0⟩::([⟨1,⟨#[42,32]⟩,0⟩]++rs)))))))) e w9):=h9.from HP8.out.b;obtain ⟨v9,rfl,n9,b9⟩:=h9.val;have HP9:Hid (q0p W ⟨6,⟨#[]⟩,0⟩ w9):=HP8.out.below b9;have SK9:Hid (Six W w9):=HP9.out.six;clear h9 n9 b9)
     | (go_at_call 61;refine ((q0m (w7) HA7.out HE7.out (by simp<;>omega))).mono ?_;rintro e w8 h8;obtain ⟨v8,rfl,n8,b8⟩:=h8.val;have HP8:Hid (q0p W ⟨6,⟨#[]⟩,0⟩ w8):=HP7.out.below b8;have SK8:Hid (Six W w8):=HP8.out.six;have HF8:Hid (NdV w8 v8 (⟨6,⟨#[]⟩,0⟩::(ls++(⟨7,⟨#[]⟩,2⟩::(⟨6,⟨#[]⟩,0⟩::([⟨2,⟨#[]⟩,0⟩]++(⟨6,⟨#[]⟩,0⟩::([⟨1,⟨#[42,32]⟩,0⟩]++rs)))))))):=n8;clear h8 n8 b8)
     | (go_at_call 60;refine ((q1v ⟨7,⟨#[]⟩,2⟩ (w6) HD6.out (by simp<;>omega))).mono ?_;rintro e w7 h7;obtain ⟨v7,rfl,n7,b7⟩:=h7.val;have HP7:Hid (q0p W ⟨6,⟨#[]⟩,0⟩ w7):=HP6.out.below b7;have SK7:Hid (Six W w7):=HP7.out.six;have HA7:Hid (NdV w7 v1 (ls)):=HA6.out.below b7;have HE7:Hid (NdV w7 v7 (⟨7,⟨#[]⟩,2⟩::(⟨6,⟨#[]⟩,0⟩::([⟨2,⟨#[]⟩,0⟩]++(⟨6,⟨#[]⟩,0⟩::([⟨1,⟨#[42,32]⟩,0⟩]++rs)))))):=n7;clear h7 n7 b7)
     | (go_at_call 61;refine ((q0m (w5) HP5.out.bl HC5.out (by simp<;>omega))).mono ?_;rintro e w6 h6;obtain ⟨v6,rfl,n6,b6⟩:=h6.val;have HP6:Hid (q0p W ⟨6,⟨#[]⟩,0⟩ w6):=HP5.out.below b6;have SK6:Hid (Six W w6):=HP6.out.six;have HA6:Hid (NdV w6 v1 (ls)):=HA5.out.below b6;have HD6:Hid (NdV w6 v6 (⟨6,⟨#[]⟩,0⟩::([⟨2,⟨#[]⟩,0⟩]++(⟨6,⟨#[]⟩,0⟩::([⟨1,⟨#[42,32]⟩,0⟩]++rs))))):=n6;clear h6 n6 b6)
     | (go_at_call 61;refine ((q0m (w4) HS4.out HB4.out (by simp<;>omega))).mono ?_;rintro e w5 h5;obtain ⟨v5,rfl,n5,b5⟩:=h5.val;have HP5:Hid (q0p W ⟨6,⟨#[]⟩,0⟩ w5):=HP4.out.below b5;have SK5:Hid (Six W w5):=HP5.out.six;have HA5:Hid (NdV w5 v1 (ls)):=HA4.out.below b5;have HC5:Hid (NdV w5 v5 (⟨6,⟨#[]⟩,0⟩::([⟨1,⟨#[42,32]⟩,0⟩]++rs))):=n5;clear h5 n5 b5)
     | (go_at_call 57;refine ((q0t _ (w3.drew)).mono fun _ _ h=>h.from HD0.out).mono ?_;rintro e w4 h4;obtain ⟨v4,rfl,n4,b4⟩:=h4.val;have HP4:Hid (q0p W ⟨6,⟨#[]⟩,0⟩ w4):=HP3.out.below b4;have SK4:Hid (Six W w4):=HP4.out.six;have HA4:Hid (NdV w4 v1 (ls)):=HA3.out.below b4;have HB4:Hid (NdV w4 v3 (rs)):=HB3.out.below b4;have HS4:Hid (NdV w4 v4 ([⟨1,⟨#[42,32]⟩,0⟩])):=n4;clear h4 n4 b4))
  all_goals
   go_wp2
   go_ret
   exact HR9.out
end Go.Proofs.YthjapabokcajhaaGreatDoor
