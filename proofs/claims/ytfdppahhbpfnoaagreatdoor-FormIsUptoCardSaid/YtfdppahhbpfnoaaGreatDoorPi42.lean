import Derived.Test.YtfdppahhbpfnoaaGreatDoorPi39
import Derived.Test.YtfdppahhbpfnoaaGreatDoorPi34
open Go.Proofs.Tryz
namespace Go.Proofs.YtfdppahhbpfnoaaGreatDoor
open Go Go.RowKit
set_option maxRecDepth 100000
set_option maxHeartbeats 8000000
def plE(ps:List Nat)(k:Nat)(i:Nat):Nat:=(ps[i]?).getD k
theorem j7y{B:Nat}{v:Value}{ks:List Nat}{w:World}(h:z1j B v ks w):z5p B v (ks.map fun(k:Nat)=>(k:Int)) w:=by
 have e:q2p (ks.map fun(k:Nat)=>(k:Int))=q2h ks:=by simp[q2p,q2h]
 show w.ownsRow _ _ _ _ _ _;rw[List.length_map,e];exact h
theorem k7m{w w':World}{B B' e e' A D n n':Nat}{v v':Value}{xs J:List Value}(h:w.ownsRow B e A v n xs)(h':w.ownsRow B' e' D v' n' J)(I:e≠e')(hg:w.grownBy w' v'.ownBlock):w'.ownsRow B e A v n xs:=by
 refine⟨h.1,?_⟩;rcases h.2 with M|⟨g,c,G,O,N,H,E⟩
 ·exact .inl M
 ·refine .inr ⟨g,c,G,O,N,(hg.block g (Array.getElem?_eq_some_iff.1 H).1 fun e1=>?_).trans H,E⟩;rcases h'.2 with⟨rfl,_⟩|⟨L,P,K,rfl,_,C,_⟩
  ·cases e1
  ·have:g=L:=by simpa[Value.ownBlock]using e1
   subst this;rw[H]at C;simp only[Option.some.injEq,Obj.cells.injEq]at C;exact I C.2.1
theorem k7k{w:World}{B e n m c:Nat}{A:Option Addr}{xs:List Value}(h:w.ownsRow B e 1 (.slice A m c) n xs)(h0:0<n):∃g,A=some ⟨g,0,none⟩/\B<=g/\g<w.heap.size/\n<=c/\∀i u,xs[i]?=some u->w.cell? ⟨g,i,none⟩=some u:=by
 rcases h.2 with⟨_,M⟩|⟨g,L,H,G,I,E,D,_,K,C⟩
 ·omega
 ·simp only[Value.slice.injEq]at G;obtain⟨rfl,rfl,rfl⟩:=G;refine⟨g,rfl,I,(Array.getElem?_eq_some_iff.1 E).1,D,fun i u hu=>?_⟩;rw[<-C]at hu
  have J:i<m*1:=by
   have:=(List.getElem?_eq_some_iff.1 hu).1
   rw[List.length_take]at this;omega
  rw[List.getElem?_take_of_lt J]at hu;simp only[World.cell?,E];simpa using hu
theorem v4s{B n:Nat}{A P:Option Addr}{ac pc:Nat}{ws:List Wd}{ps:List Nat}{k:Nat}{w:World}(hn:ws.length=n)(C:n<=60000)(H:ps.length=ws.length)(h1:q2g B (.slice A (n+1) ac) (ws.map wbS++[⟨#[]⟩]) w)(h2:z5p B (.slice P (n+1) pc) ((ps.map fun(k:Nat)=>(k:Int))++[(k:Int)]) w):
  ∃gw ga,A=some ⟨gw,0,none⟩/\P=some ⟨ga,0,none⟩/\B<=gw/\B<=ga/\gw<w.heap.size/\ga<w.heap.size/\Ry ⟨gw,ac,ga,pc⟩ ws (plE ps k) w.heap.size 0 (w.alloc (.cells #[.slice (some ⟨gw,0,none⟩) (n+1) ac,.slice (some ⟨ga,0,none⟩) (n+1) pc] 140)):=by
 subst hn;have D:(ws.map wbS++[(⟨#[]⟩:ByteArray)]).length=ws.length+1:=by simp
 have E:((ps.map fun(k:Nat)=>(k:Int))++[(k:Int)]).length=ws.length+1:=by simp[H]
 obtain⟨gw,rfl,L,J,N,Q⟩:=k7k h1 (by rw[D];omega);obtain⟨ga,rfl,M,K,O,R⟩:=k7k h2 (by rw[E];omega);rw[D]at N;rw[E]at O;have G:=heap_alloc_new w (.cells #[.slice (some ⟨gw,0,none⟩) (ws.length+1) ac,.slice (some ⟨ga,0,none⟩) (ws.length+1) pc] 140);obtain⟨I,_⟩:=q1y (q4b w (.cells #[.slice (some ⟨gw,0,none⟩) (ws.length+1) ac,.slice (some ⟨ga,0,none⟩) (ws.length+1) pc] 140));refine⟨gw,ga,rfl,rfl,L,M,J,K,Nat.zero_le _,by rw[Lib.cell_of_heap G];rfl,by rw[Lib.cell_of_heap G];rfl,⟨_,_,G,rfl⟩,fun i hi=>?_,fun i hi=>?_,by show gw≠w.heap.size;omega,by show ga≠w.heap.size;omega,by show ws.length<ac;omega,by show ws.length<pc;omega,C⟩
 ·refine(I _ _ J).trans (Q i _ ?_);by_cases e:i<ws.length
  ·rw[q3x e,q2f,List.getElem?_append_left (by simp[strCells];omega)];simp[strCells,e]
  ·have:i=ws.length:=by omega
   subst this;rw[q6x Zl,q2f,List.getElem?_append_right (by simp[strCells])];simp[strCells];rfl
 ·refine(I _ _ K).trans (R i _ ?_);unfold plE;by_cases e:i<ps.length
  ·rw[q9a,List.getElem?_append_left (by simp[q2p];omega)];simp[q2p,e]
  ·have:i=ps.length:=by omega
   subst this;rw[q9a,List.getElem?_append_right (by simp[q2p])];simp[q2p]
structure y6n(K:LwK)(ws:List Wd)(pl:Nat->Nat)(B H rb:Nat)(w:World)(q:Nat)(pv:Bool)(acc:List (List Td))(v:Value)(wr:World):Prop where
 rd:Ry K ws pl rb q wr
 o:q3t (rb+1) v acc wr
 b0:wr.heap[H]?=some (.cells #[v] 33 (0,0))
 b1:wr.heap[H+1]?=some (.cells #[.int .i64 0] 3 (0,0))
 b2:wr.heap[H+2]?=some (.cells #[.nilIface] 29 (0,0))
 bl:Below B w wr
 pg:∀r,PG pv acc (ws.drop q) r->PG false [] ws r
 nx:pv=true->∀x,ws[q]?=some x->x.headD 0≠35
 nl:acc.length<=q
 sz:rb<wr.heap.size
theorem y3k(w:World)(a b c d:Obj):((((w.alloc a).alloc b).alloc c).alloc d).heap[w.heap.size]?=some a/\((((w.alloc a).alloc b).alloc c).alloc d).heap[w.heap.size+1]?=some b/\((((w.alloc a).alloc b).alloc c).alloc d).heap[w.heap.size+2]?=some c:=by
 have C:(w.alloc a).heap.size=w.heap.size+1:=World.size_alloc ..;have D:((w.alloc a).alloc b).heap.size=w.heap.size+2:=by rw[World.size_alloc,C]
 have E:(((w.alloc a).alloc b).alloc c).heap.size=w.heap.size+3:=by rw[World.size_alloc,D]
 have A:=heap_alloc_new (w.alloc a) b;have B:=heap_alloc_new ((w.alloc a).alloc b) c;rw[C]at A;rw[D]at B;exact⟨(Lib.alloc_old _ _ _ (by omega)).trans ((Lib.alloc_old _ _ _ (by omega)).trans ((Lib.alloc_old _ _ _ (by omega)).trans (heap_alloc_new w a))),(Lib.alloc_old _ _ _ (by omega)).trans ((Lib.alloc_old _ _ _ (by omega)).trans A),(Lib.alloc_old _ _ _ (by omega)).trans B⟩
theorem But.undrew{B b:Nat}{w w':World}(h:But B b w.drew w'):But B b w w':=⟨h.os,h.tape,h.output,h.size,h.block⟩
section
variable {K:LwK} {ws:List Wd} {pl:Nat→Nat} {B H rb:Nat} {w wr:World} {q:Nat} {pv:Bool} {acc:List (List Td)} {A:Option Addr} {n c:Nat}
structure y6m(K:LwK)(ws:List Wd)(pl:Nat->Nat)(B H rb:Nat)(w:World)(q:Nat)(pv:Bool)(acc:List (List Td))(v:Value)(t:List Td)(g c4:Nat)(w4:World):Prop where
 rd:Ry K ws pl rb q w4
 o:q3t (rb+1) v acc w4
 tt:q0w (rb+1) (.slice (some ⟨g,0,none⟩) t.length c4) t w4
 b0:w4.heap[H]?=some (.cells #[v] 33 (0,0))
 b1:w4.heap[H+1]?=some (.cells #[.int .i64 0] 3 (0,0))
 b2:w4.heap[H+2]?=some (.cells #[.nilIface] 29 (0,0))
 bl:Below B w w4
 pg:∀r,PG pv (acc++[t]) (ws.drop q) r->PG false [] ws r
 nx:pv=true->∀x,ws[q]?=some x->x.headD 0≠35
 nl:acc.length+1<=q
 sz:rb<w4.heap.size
theorem y4o{n':Bool}{q':Nat}{t:List Td}{g c4:Nat}{w4:World}(h:y6n K ws pl B H rb w q pv acc (.slice A n c) wr)(hH:H+4<=rb)(D:B<=rb)(hG:y3a K ws pl rb q wr.drew q' n' t (.slice (some ⟨g,0,none⟩) t.length c4) w4):y6m K ws pl B H rb w q' n' acc (.slice A n c) t g c4 w4:=by
 have J:=h.sz;have I:wr.heap.size<=w4.heap.size:=hG.bt.size;have C:But wr rb wr w4:=hG.bt.undrew;have E:=hG.lt;have G:=h.nl;refine⟨hG.rd,h.o.but C (by omega),hG.o.down (by show rb+1<=wr.heap.size;omega),(C.block _ (by omega) (by omega)).trans h.b0,(C.block _ (by omega) (by omega)).trans h.b1,(C.block _ (by omega) (by omega)).trans h.b2,h.bl.trans (C.low (by omega) D),fun r hr=>h.pg r (hG.pg pv acc r h.nx hr),hG.nx,by omega,by omega⟩
theorem y1p{t:List Td}{g c4:Nat}{w4 w6:World}{A6:Option Addr}{c6:Nat}{O:Obj}(h:y6m K ws pl B H rb w q pv acc (.slice A n c) t g c4 w4)(hH:H+4<=rb)(M:B<=rb)(G:B<=H)(P:K.gw<rb)(N:K.ga<rb)(ho:q3t (rb+1) (.slice A6 (n+1) c6) (acc++[t]) w6)(hg:(w4.alloc O).grownBy w6 (Value.slice A n c).ownBlock):y6n K ws pl B H rb w q pv (acc++[t]) (.slice A6 (n+1) c6) (w6.setCell ⟨H,0,none⟩ (.slice A6 (n+1) c6)):=by
 have S:=h.sz;have R:(w4.alloc O).heap.size=w4.heap.size+1:=World.size_alloc ..;have C:Below (rb+1) w4 w6:=((q4b w4 O).mono (by omega)).grown hg (by omega) (fun k hk=>h.o.own_le hk);have D:∀j,j≠H->(w6.setCell ⟨H,0,none⟩ (.slice A6 (n+1) c6)).heap[j]?=w6.heap[j]?:=fun j hj=>Below.heap_setCell _ _ _ _ hj
 have I:w6.heap[H]?=some (.cells #[.slice A n c] 33 (0,0)):=(C.block _ (by omega)).trans h.b0;have Q:=hg.size;have E:w4.cell? ⟨H,0,none⟩=some (.slice A n c):=by rw[Lib.cell_of_heap h.b0];rfl
 have J:H≠K.gw:=fun e=>by
  have:=h.rd.wd 0 (Nat.zero_le _)
  rw[<-e,E]at this;cases this
 have L:H≠K.ga:=fun e=>by
  have:=h.rd.pt 0 (Nat.zero_le _)
  rw[<-e,E]at this;cases this
 refine⟨(h.rd.keepB C (by omega) (by omega) (by omega)).far (by omega) J L,ho.kept fun j h1 _=>D j (by omega),?_,(D _ (by omega)).trans ((C.block _ (by omega)).trans h.b1),(D _ (by omega)).trans ((C.block _ (by omega)).trans h.b2),(h.bl.trans (C.mono (by omega))).setCell (p:=⟨H,0,none⟩) G _,h.pg,h.nx,by rw[List.length_append];exact h.nl,by rw[World.size_setCell];omega⟩;simp[World.setCell,Array.getElem?_modify,I]
end
inductive k0a (ws:List Wd) (pl:Nat->Nat) (B:Nat) (w:World):Ending->World->Prop where
 | ok {qs A c w'} (pg:PG false [] ws (.ok qs)) (hp:Prg w' A qs) (hc:qs.length<=c) (hb:Below B w w'):k0a ws pl B w (.returned (.tuple #[.slice A qs.length c,.int .i64 0,.nilIface])) w'
 | bad {u w'} (pg:PG false [] ws (.bad u)) (hb:Below B w w'):k0a ws pl B w (.returned (.tuple #[.slice none 0 0,.int .i64 (pl (ws.length-u.length):Int),.iface 23 (.int .i64 5)])) w'
theorem v1a{B:Nat}{A P:Option Addr}{ac pc:Nat}{ws:List Wd}{ps:List Nat}{k:Nat}{w:World}(Bp:∀x∈ws,q3b x)(An:(ws.map List.length).sum<=60000)(Am:ws.length<=60000)(Bk:ps.length=ws.length)(hB:B<=w.heap.size)
  (h1:q2g B (.slice A ws.length ac) (ws.map wbS) w) (h2:z1j B (.slice P ws.length pc) ps w) (hT:∀w',Below B w w'->z2u w'):
  Calls prog 41 #[.slice A ws.length ac,.slice P ws.length pc,.int .i64 (k:Int)] w fun e w'=>k0a ws (plE ps k) B w e w':=by
 have B6:∀(fn:Fn)(first cap:Array Value)(w:World),(Instr.makeFunc fn first cap).run prog w=.ok (.func fn first cap) w:=fun _ _ _ _=>rfl
 have HT:Hid (∀w',Below B w w'->z2u w'):=hT;have A9:Hid (∀x∈ws,q3b x):=Bp;have Bv:Hid ((ws.map List.length).sum<=60000):=An;have H1:Hid (q2g B (.slice A ws.length ac) (ws.map wbS) w):=h1;have H2:Hid (z5p B (.slice P ws.length pc) (ps.map fun(k:Nat)=>(k:Int)) w):=j7y h2;have A2:Hid (ps.length=ws.length):=Bk;clear hT Bp An h1 h2 Bk;generalize Av:ws.length=nl at H1 H2;have Ag:Hid (ws.length=nl):=Av;rw[Av]at Am;clear Av;have A0:Hid ((ws.map wbS).length=nl):=(show _=_ by rw[List.length_map];exact Ag.o);go_enter_defers func41,ntmps41;have Ao:Hid (q2g B (.slice A nl ac) (ws.map wbS) ((((w.alloc (.cells #[.slice none 0 0] 33)).alloc (.cells #[.int .i64 0] 3)).alloc (.cells #[.nilIface] 29)).alloc (.cells #[.string ⟨#[]⟩] 9))):=q3c (q3c (q3c (q3c H1.o (q4b _ _)) (q4b _ _)) (q4b _ _)) (q4b _ _);have A7:Hid (z5p B (.slice P nl pc) (ps.map fun(k:Nat)=>(k:Int)) ((((w.alloc (.cells #[.slice none 0 0] 33)).alloc (.cells #[.int .i64 0] 3)).alloc (.cells #[.nilIface] 29)).alloc (.cells #[.string ⟨#[]⟩] 9))):=q3c (q3c (q3c (q3c H2.o (q4b _ _)) (q4b _ _)) (q4b _ _)) (q4b _ _)
 have Bb:Hid (Wds ((((w.alloc (.cells #[.slice none 0 0] 33)).alloc (.cells #[.int .i64 0] 3)).alloc (.cells #[.nilIface] 29)).alloc (.cells #[.string ⟨#[]⟩] 9)) (some ⟨w.heap.size+1+1+1,0,none⟩) [⟨#[]⟩]):=by
  intro i hi;have As:i=0:=by simp at hi;omega
  subst As;refine⟨w.heap.size+1+1+1,0,rfl,by simp,?_⟩;simp[go_sem]
 have Ay:Hid (Below w w ((((w.alloc (.cells #[.slice none 0 0] 33)).alloc (.cells #[.int .i64 0] 3)).alloc (.cells #[.nilIface] 29)).alloc (.cells #[.string ⟨#[]⟩] 9))):=(((Zb.alloc Zl _).alloc (by simp) _).alloc (by simp;omega) _).alloc (by simp;omega) _;have Ab:Hid (((((w.alloc (.cells #[.slice none 0 0] 33)).alloc (.cells #[.int .i64 0] 3)).alloc (.cells #[.nilIface] 29)).alloc (.cells #[.string ⟨#[]⟩] 9)).heap.size=w.heap.size+1+1+1+1):=(show _=_ by simp);go_wp2_with(at_builtin;refine k5s rfl _ _ rfl B _ (ws.map wbS) rfl Ao.o (some ⟨w.heap.size+1+1+1,0,none⟩) 1 [⟨#[]⟩] rfl 1 rfl Bb.o (fun e=>by cases e) (nl+1) (by rw[A0.o]) (by omega) (by rw[Ab.o];omega) ?_);intro A5 c5 Y Ae L;have At:∀k',(Value.slice A nl ac).ownBlock=some k'->B<=k'/\k'<w.heap.size:=fun k' hk=>World.ownsRow.lt H1.o k' hk
 have Au:∀k',(Value.slice P nl pc).ownBlock=some k'->B<=k'/\k'<w.heap.size:=fun k' hk=>World.ownsRow.lt H2.o k' hk
 have Bn:=L.size;rw[Ab.o]at Bn;have O:∀j,w.heap.size<=j->j<w.heap.size+4->Y.heap[j]?=((((w.alloc (.cells #[.slice none 0 0] 33)).alloc (.cells #[.int .i64 0] 3)).alloc (.cells #[.nilIface] 29)).alloc (.cells #[.string ⟨#[]⟩] 9)).heap[j]?:=fun j h1 h2=>L.block j (by rw[Ab.o];omega) (fun e=>by have:=(At j e.symm).2;omega)
 have Aj:Hid (Y.heap[w.heap.size]?=some (.cells #[.slice none 0 0] 33 (0,0))/\Y.heap[w.heap.size+1]?=some (.cells #[.int .i64 0] 3 (0,0))/\Y.heap[w.heap.size+2]?=some (.cells #[.nilIface] 29 (0,0))):=by
  obtain⟨e1,e2,e3⟩:=y3k w (.cells #[.slice none 0 0] 33) (.cells #[.int .i64 0] 3) (.cells #[.nilIface] 29) (.cells #[.string ⟨#[]⟩] 9);exact⟨(O _ (by omega) (by omega)).trans e1,(O _ (by omega) (by omega)).trans e2,(O _ (by omega) (by omega)).trans e3⟩
 have Az:Hid (Below B w Y):=(Ay.o.mono hB).grown L (by rw[Ab.o];omega) (fun k' hk=>(At k' hk).1);have A1:Hid (q2g B (.slice A5 (nl+1) c5) (ws.map wbS++[⟨#[]⟩]) (Y.alloc (.cells #[.int .i64 (k:Int)] 3))):=q3c Ae (q4b _ _);have Ap:Hid (z5p B (.slice P nl pc) (ps.map fun(k:Nat)=>(k:Int)) (Y.alloc (.cells #[.int .i64 (k:Int)] 3))):=q3c (k7m A7.o Ao.o (by decide) L) (q4b _ _)
 have Bc:Hid (q7r (Y.alloc (.cells #[.int .i64 (k:Int)] 3)) (some ⟨Y,0,none⟩) [(k:Int)]):=by
  intro i hi;have As:i=0:=by simp at hi;omega
  subst As;refine⟨Y.heap.size,0,rfl,by simp,?_⟩;simp[go_sem]
 have Ac:Hid ((Y.alloc (.cells #[.int .i64 (k:Int)] 3)).heap.size=Y.heap.size+1):=World.size_alloc ..;have A3:Hid ((ps.map fun(k:Nat)=>(k:Int)).length=nl):=(show _=_ by rw[List.length_map,A2.o,Ag.o]);clear Ae L O Ao A7 Bb Ay Ab;go_wp2_with(at_builtin;refine v1i rfl _ _ rfl B _ (ps.map fun(k:Nat)=>(k:Int)) rfl Ap.o (some ⟨Y,0,none⟩) 1 [(k:Int)] rfl 1 rfl Bc.o (fun e=>by cases e) (nl+1) (by rw[A3.o]) (by omega) (by rw[Ac.o];omega) ?_);intro P7 c7 w7 Af M;have Bo:=M.size;rw[Ac.o]at Bo;have Bh:q2g B (.slice A5 (nl+1) c5) (ws.map wbS++[⟨#[]⟩]) w7:=k7m A1.o Ap.o (by decide) M;obtain⟨gw,ga,rfl,rfl,B5,B4,Br,Bq,Bm⟩:=v4s Ag.o Am A2.o Bh Af;have s:∀j,w.heap.size<=j->j<w.heap.size+4->w7.heap[j]?=Y.heap[j]?:=fun j h1 h2=>(M.block j (by rw[Ac.o];omega) (fun e=>by have:=(Au j e.symm).2;omega)).trans (Lib.alloc_old Y _ j (by omega))
 have Ba:Hid (y6n ⟨gw,c5,ga,c7⟩ ws (plE ps k) B w.heap.size w7.heap.size w 0 false [] (.slice none 0 0) (w7.alloc (.cells #[.slice (some ⟨gw,0,none⟩) (nl+1) c5,.slice (some ⟨ga,0,none⟩) (nl+1) c7] 140))):=by
  have Ar:∀j,w.heap.size<=j->j<w.heap.size+4->(w7.alloc (.cells #[.slice (some ⟨gw,0,none⟩) (nl+1) c5,.slice (some ⟨ga,0,none⟩) (nl+1) c7] 140)).heap[j]?=Y.heap[j]?:=fun j h1 h2=>(Lib.alloc_old w7 _ j (by omega)).trans (s j h1 h2)
  refine⟨Bm,q3t.nil _ _,(Ar _ (by omega) (by omega)).trans Aj.o.1,(Ar _ (by omega) (by omega)).trans Aj.o.2.1,(Ar _ (by omega) (by omega)).trans Aj.o.2.2,?_,fun r hr=>hr,(fun e=>by cases e),Nat.zero_le _,by rw[World.size_alloc];omega⟩;have Bw:Below B w w7:=(Az.o.alloc (by omega) _).grown M (by rw[Ac.o];omega) (fun k' hk=>(Au k' hk).1);exact Bw.alloc (by omega) _
 have hH:w.heap.size+4<=w7.heap.size:=by omega
 clear Af M Bh Bm s Aj Az A1 Ap Bc Ac A3 H1 H2 A0;have m:gw<w7.heap.size:=Br;have d:ga<w7.heap.size:=Bq;have V:B<=w7.heap.size:=by omega
 have Ak:B<=w.heap.size:=hB;go_wp2_with fail;generalize Bl:w7.heap.size=rb at Ba hH m d V;have B3:Hid (w7.heap.size=rb):=Bl;clear Bl Br Bq At Au Bn Bo
 go_loopw [19] (fun _ wr=>∃(q:Nat)(pv:Bool)(G:List (List Td))(A:Option Addr)(n c:Nat),G.length=n/\y6n ⟨gw,c5,ga,c7⟩ ws (plE ps k) B w.heap.size rb w q pv G (.slice A n c) wr) (fun _ wr=>j0l wr rb)
 case atStart=>exact⟨0,false,[],none,0,0,rfl,Ba.o⟩
 case round=>
  obtain⟨q,pv,G,A,n,c,b,X⟩:=hrel;have a:=hid X;have Z:Hid (G.length=n):=b;have B1:=X.rd.le;have Bg:=X.nl;rw[b]at Bg;have B8:=X.sz;have e0:wr.cell? ⟨w,0,none⟩=some (.slice A n c):=by rw[Lib.cell_of_heap X.b0];rfl
  have f0:wr.frozen? ⟨w,0,none⟩=false:=Lib.frozen_of_heap X.b0 0;have z:Hid (Calls prog 80 #[.pointer (some ⟨rb,0,none⟩)] wr fun e w'=>e=.returned (.string (wbS (ws.getD q [])))/\wr=w'):=(q6o X.rd).mono fun _ _ h=>⟨h.1,h.2.symm⟩
  have B2:=Ag.o;by_cases hq:q<ws.length
  ·rw[q3x hq]at z
   have Be:¬(wbS ws[q]).toList=[]:=by
    rw[Lib.toList_data];exact v8j (A9.o _ (List.getElem_mem hq))
   have Bf:((wbS ws[q]).toList==[])=false:=by
    cases h:((wbS ws[q]).toList==[])with
    | false=>rfl
    | true=>exact absurd (by simpa using h) Be
   have B0:(⟨#[]⟩:ByteArray).toList=[]:=by rw[Lib.toList_data]
   have A8:Hid (Calls prog 81 #[.pointer (some ⟨rb,0,none⟩)] wr.drew fun e w'=>z1g ⟨gw,c5,ga,c7⟩ ws (plE ps k) rb q wr.drew e w'):=v1b A9.o Bv.o hq (fun w' hb=>HT.o w' (X.bl.trans ((show But wr rb wr w' from hb.undrew).low (by omega) V))) (X.rd.keep (Below.drew Zb));generalize wbS ws[q]=S at z Be Bf;clear X b;go_wp2_with fail;refine z.o.mono ?_;rintro e w1⟨rfl,rfl⟩;go_wp2_with fail;refine wp_region_any (by kernel_rfl) ?_
   try (change wpAny _ _ _ _ _ _ _ (World.drew _))
   refine wpAny_ready (rs:=[0,1]) (by kernel_rfl) (by simp) ?_;refine AllReady.cons rfl (fun K hK=>?_) (AllReady.cons rfl (fun K hK=>?_) AllReady.nil)
   ·go_simp
    refine hK _ _ ?_;clear hK K;refine wpAny_ready (rs:=[1]) (by kernel_rfl) (by simp) ?_;refine AllReady.cons rfl (fun K hK=>?_) AllReady.nil
    go_simp
    refine A8.o.mono ?_;intro e E hG;cases hG with
    | @bad u4 _ pg4 bt4=>
     have Aw:wr.heap.size<=E.heap.size:=bt4.size;have Q:But wr rb wr E:=bt4.undrew;have x0:E.heap[w.heap.size]?=some (.cells #[.slice A n c] 33 (0,0)):=(Q.block _ (by omega) (by omega)).trans a.o.b0;have x1:E.heap[w.heap.size+1]?=some (.cells #[.int .i64 0] 3 (0,0)):=(Q.block _ (by omega) (by omega)).trans a.o.b1;have x2:E.heap[w.heap.size+2]?=some (.cells #[.nilIface] 29 (0,0)):=(Q.block _ (by omega) (by omega)).trans a.o.b2;have Ad:Below B w E:=a.o.bl.trans (Q.low (by omega) V)
     have Aa:Hid (CallsD prog 79 #[.pointer (some ⟨w,0,none⟩),.pointer (some ⟨w.heap.size+1,0,none⟩),.pointer (some ⟨w.heap.size+1+1,0,none⟩)] (.panicking [q4u (plE ps k (ws.length-u4.length))]) E fun e u' w'=>e=.returned (.tuple #[])/\u'=.panicking [{v:=.iface 137 (.agg #[.int .i64 (plE ps k (ws.length-u4.length):Int)]),recovered:=true}]/\w'.cell? ⟨w,0,none⟩=some (.slice none 0 0)/\w'.cell? ⟨w.heap.size+1,0,none⟩=some (.int .i64 (plE ps k (ws.length-u4.length):Int))/\w'.cell? ⟨w.heap.size+1+1,0,none⟩=some (.iface 23 (.int .i64 5))/\k0a ws (plE ps k) B w (.returned (.tuple #[.slice none 0 0,.int .i64 (plE ps k (ws.length-u4.length):Int),.iface 23 (.int .i64 5)])) w'):=by
      refine(z5m w.heap.size (w.heap.size+1) (w.heap.size+1+1) _ E _ _ _ (by rw[Lib.cell_of_heap x0];rfl) (by rw[Lib.cell_of_heap x1];rfl) (by rw[Lib.cell_of_heap x2];rfl) (Lib.frozen_of_heap x0 0) (Lib.frozen_of_heap x1 0) (Lib.frozen_of_heap x2 0) (by omega) (by omega) (by omega) (by omega) (by omega) (by omega)).mono ?_;rintro e u' w'⟨r1,r2,r3,r4,r5,r6⟩;exact⟨r1,r2,r3,r4,r5,.bad (a.o.pg _ (pg4 pv G)) (Ad.trans (r6 B (by omega) (by omega) (by omega)))⟩
     clear Q x0 x1 x2 Ad pg4 bt4 hK;generalize plE ps k (ws.length-u4.length)=pp at Aa⊢;go_wp2;refine leaves_cons (f:=79) (args:=#[.pointer (some ⟨w,0,none⟩),.pointer (some ⟨w.heap.size+1,0,none⟩),.pointer (some ⟨w.heap.size+1+1,0,none⟩)]) (by simp) (by simp[go_sem]) ?_;refine Aa.o.mono ?_;rintro e u' w'⟨rfl,rfl,r3,r4,r5,r6⟩;simp[Leaves,settle,results,Tryz.results41,go_sem,r3,r4,r5];exact r6
    | @ok q4 n4 t A4 c4 _ hg=>
     obtain⟨g,rfl⟩:∃g,A4=some ⟨g,0,none⟩:=by
      cases t with
      | nil=>exact absurd rfl hg.ne
      | cons y r=>exact z0w hg.o
     have D:Hid (y6m ⟨gw,c5,ga,c7⟩ ws (plE ps k) B w.heap.size rb w q4 n4 G (.slice A n c) t g c4 E):=y4o a.o hH V hg;have Ah:Hid (q<q4/\q4<=ws.length):=⟨hg.lt,hg.rd.le⟩;have Aw:=D.o.sz;have e4:E.cell? ⟨w,0,none⟩=some (.slice A n c):=by rw[Lib.cell_of_heap D.o.b0];rfl
     have Bz:w.heap.size<E.heap.size:=by omega
     have Ax:=hg.l;generalize R:t.length=tl at Ax;have Ai:Hid (t.length=tl):=R
     have U:Hid (q3t (rb+1) (.slice A n c) G (E.alloc (.cells #[.slice (some ⟨g,0,none⟩) tl c4] 22))/\q0w (rb+1) (.slice (some ⟨g,0,none⟩) tl c4) t (E.alloc (.cells #[.slice (some ⟨g,0,none⟩) tl c4] 22))/\(E.alloc (.cells #[.slice (some ⟨g,0,none⟩) tl c4] 22)).cell? ⟨E,0,none⟩=some (.slice (some ⟨g,0,none⟩) tl c4)):=by
      have h8:=z9e D.o.o D.o.tt;rw[R]at h8;exact h8
     clear hg R;refine hK _ _ ?_;clear hK K;refine wpAny_ready (rs:=[2]) (by kernel_rfl) (by simp) ?_;refine AllReady.cons rfl (fun K hK=>?_) AllReady.nil
     go_simp
     refine hK _ _ ?_;clear hK K;refine wpAny_ready (rs:=[3]) (by kernel_rfl) (by simp) ?_;refine AllReady.cons rfl (fun K hK=>?_) AllReady.nil;refine q8g rfl _ _ rfl (rb+1) (.slice A n c) G rfl U.o.1 E.heap.size g tl c4 t Ai.o rfl U.o.2.2 U.o.2.1 (n+1) (by rw[Z.o]) (by omega) (by rw[World.size_alloc];omega) ?_;intro A6 c6 u I C;have J:=y1p D.o hH V Ak m d I C;have N:=hid J
     have d6:u.cell? ⟨w,0,none⟩=some (.slice A n c):=by
      have H:Below (rb+1) E u:=((q4b E _).mono (by omega)).grown C (by rw[World.size_alloc];omega) (fun k hk=>D.o.o.own_le hk);rw[Lib.cell_of_heap ((H.block _ (by omega)).trans D.o.b0)];rfl
     have f6:u.frozen? ⟨w,0,none⟩=false:=by
      have H:Below (rb+1) E u:=((q4b E _).mono (by omega)).grown C (by rw[World.size_alloc];omega) (fun k hk=>D.o.o.own_le hk);exact Lib.frozen_of_heap ((H.block _ (by omega)).trans D.o.b0) 0
     clear J I C;refine hK _ _ ?_;clear hK K;refine wpAny_ready (rs:=[4]) (by kernel_rfl) (by simp) ?_;refine AllReady.cons rfl (fun K hK=>?_) AllReady.nil
     go_simp
     refine hK _ _ ?_;clear hK K;refine wpAny_done (by kernel_rfl) ?_ _;go_wp2;refine⟨⟨_,_,G++[t],A6,n+1,c6,by rw[List.length_append,Z.o];rfl,N.o⟩,?_⟩;rw[N.o.rd.len_eq,a.o.rd.len_eq]
     have:=Ah.o
     omega
   ·go_simp
    refine A8.o.mono ?_;intro e E hG;cases hG with
    | @bad u4 _ pg4 bt4=>
     have Aw:wr.heap.size<=E.heap.size:=bt4.size;have Q:But wr rb wr E:=bt4.undrew;have x0:E.heap[w.heap.size]?=some (.cells #[.slice A n c] 33 (0,0)):=(Q.block _ (by omega) (by omega)).trans a.o.b0;have x1:E.heap[w.heap.size+1]?=some (.cells #[.int .i64 0] 3 (0,0)):=(Q.block _ (by omega) (by omega)).trans a.o.b1;have x2:E.heap[w.heap.size+2]?=some (.cells #[.nilIface] 29 (0,0)):=(Q.block _ (by omega) (by omega)).trans a.o.b2;have Ad:Below B w E:=a.o.bl.trans (Q.low (by omega) V)
     have Aa:Hid (CallsD prog 79 #[.pointer (some ⟨w,0,none⟩),.pointer (some ⟨w.heap.size+1,0,none⟩),.pointer (some ⟨w.heap.size+1+1,0,none⟩)] (.panicking [q4u (plE ps k (ws.length-u4.length))]) E fun e u' w'=>e=.returned (.tuple #[])/\u'=.panicking [{v:=.iface 137 (.agg #[.int .i64 (plE ps k (ws.length-u4.length):Int)]),recovered:=true}]/\w'.cell? ⟨w,0,none⟩=some (.slice none 0 0)/\w'.cell? ⟨w.heap.size+1,0,none⟩=some (.int .i64 (plE ps k (ws.length-u4.length):Int))/\w'.cell? ⟨w.heap.size+1+1,0,none⟩=some (.iface 23 (.int .i64 5))/\k0a ws (plE ps k) B w (.returned (.tuple #[.slice none 0 0,.int .i64 (plE ps k (ws.length-u4.length):Int),.iface 23 (.int .i64 5)])) w'):=by
      refine(z5m w.heap.size (w.heap.size+1) (w.heap.size+1+1) _ E _ _ _ (by rw[Lib.cell_of_heap x0];rfl) (by rw[Lib.cell_of_heap x1];rfl) (by rw[Lib.cell_of_heap x2];rfl) (Lib.frozen_of_heap x0 0) (Lib.frozen_of_heap x1 0) (Lib.frozen_of_heap x2 0) (by omega) (by omega) (by omega) (by omega) (by omega) (by omega)).mono ?_;rintro e u' w'⟨r1,r2,r3,r4,r5,r6⟩;exact⟨r1,r2,r3,r4,r5,.bad (a.o.pg _ (pg4 pv G)) (Ad.trans (r6 B (by omega) (by omega) (by omega)))⟩
     clear Q x0 x1 x2 Ad pg4 bt4 hK;generalize plE ps k (ws.length-u4.length)=pp at Aa⊢;go_wp2;refine leaves_cons (f:=79) (args:=#[.pointer (some ⟨w,0,none⟩),.pointer (some ⟨w.heap.size+1,0,none⟩),.pointer (some ⟨w.heap.size+1+1,0,none⟩)]) (by simp) (by simp[go_sem]) ?_;refine Aa.o.mono ?_;rintro e u' w'⟨rfl,rfl,r3,r4,r5,r6⟩;simp[Leaves,settle,results,Tryz.results41,go_sem,r3,r4,r5];exact r6
    | @ok q4 n4 t A4 c4 _ hg=>
     obtain⟨g,rfl⟩:∃g,A4=some ⟨g,0,none⟩:=by
      cases t with
      | nil=>exact absurd rfl hg.ne
      | cons y r=>exact z0w hg.o
     have D:Hid (y6m ⟨gw,c5,ga,c7⟩ ws (plE ps k) B w.heap.size rb w q4 n4 G (.slice A n c) t g c4 E):=y4o a.o hH V hg;have Ah:Hid (q<q4/\q4<=ws.length):=⟨hg.lt,hg.rd.le⟩;have Aw:=D.o.sz;have e4:E.cell? ⟨w,0,none⟩=some (.slice A n c):=by rw[Lib.cell_of_heap D.o.b0];rfl
     have Bz:w.heap.size<E.heap.size:=by omega
     have Ax:=hg.l;generalize R:t.length=tl at Ax;have Ai:Hid (t.length=tl):=R
     have U:Hid (q3t (rb+1) (.slice A n c) G (E.alloc (.cells #[.slice (some ⟨g,0,none⟩) tl c4] 22))/\q0w (rb+1) (.slice (some ⟨g,0,none⟩) tl c4) t (E.alloc (.cells #[.slice (some ⟨g,0,none⟩) tl c4] 22))/\(E.alloc (.cells #[.slice (some ⟨g,0,none⟩) tl c4] 22)).cell? ⟨E,0,none⟩=some (.slice (some ⟨g,0,none⟩) tl c4)):=by
      have h8:=z9e D.o.o D.o.tt;rw[R]at h8;exact h8
     clear hg R;refine hK _ _ ?_;clear hK K;refine wpAny_ready (rs:=[0,2]) (by kernel_rfl) (by simp) ?_;refine AllReady.cons rfl (fun K hK=>?_) (AllReady.cons rfl (fun K hK=>?_) AllReady.nil)
     ·go_simp
      refine hK _ _ ?_;clear hK K;refine wpAny_ready (rs:=[2]) (by kernel_rfl) (by simp) ?_;refine AllReady.cons rfl (fun K hK=>?_) AllReady.nil
      go_simp
      refine hK _ _ ?_;clear hK K;refine wpAny_ready (rs:=[3]) (by kernel_rfl) (by simp) ?_;refine AllReady.cons rfl (fun K hK=>?_) AllReady.nil;refine q8g rfl _ _ rfl (rb+1) (.slice A n c) G rfl U.o.1 E.heap.size g tl c4 t Ai.o rfl U.o.2.2 U.o.2.1 (n+1) (by rw[Z.o]) (by omega) (by rw[World.size_alloc];omega) ?_;intro A6 c6 u I C;have J:=y1p D.o hH V Ak m d I C;have N:=hid J
      have d6:u.cell? ⟨w,0,none⟩=some (.slice A n c):=by
       have H:Below (rb+1) E u:=((q4b E _).mono (by omega)).grown C (by rw[World.size_alloc];omega) (fun k hk=>D.o.o.own_le hk);rw[Lib.cell_of_heap ((H.block _ (by omega)).trans D.o.b0)];rfl
      have f6:u.frozen? ⟨w,0,none⟩=false:=by
       have H:Below (rb+1) E u:=((q4b E _).mono (by omega)).grown C (by rw[World.size_alloc];omega) (fun k hk=>D.o.o.own_le hk);exact Lib.frozen_of_heap ((H.block _ (by omega)).trans D.o.b0) 0
      clear J I C;refine hK _ _ ?_;clear hK K;refine wpAny_ready (rs:=[4]) (by kernel_rfl) (by simp) ?_;refine AllReady.cons rfl (fun K hK=>?_) AllReady.nil
      go_simp
      refine hK _ _ ?_;clear hK K;refine wpAny_done (by kernel_rfl) ?_ _;go_wp2;refine⟨⟨_,_,G++[t],A6,n+1,c6,by rw[List.length_append,Z.o];rfl,N.o⟩,?_⟩;rw[N.o.rd.len_eq,a.o.rd.len_eq]
      have:=Ah.o
      omega
     ·go_simp
      refine hK _ _ ?_;clear hK K;refine wpAny_ready (rs:=[0]) (by kernel_rfl) (by simp) ?_;refine AllReady.cons rfl (fun K hK=>?_) AllReady.nil
      go_simp
      refine hK _ _ ?_;clear hK K;refine wpAny_ready (rs:=[3]) (by kernel_rfl) (by simp) ?_;refine AllReady.cons rfl (fun K hK=>?_) AllReady.nil;refine q8g rfl _ _ rfl (rb+1) (.slice A n c) G rfl U.o.1 E.heap.size g tl c4 t Ai.o rfl U.o.2.2 U.o.2.1 (n+1) (by rw[Z.o]) (by omega) (by rw[World.size_alloc];omega) ?_;intro A6 c6 u I C;have J:=y1p D.o hH V Ak m d I C;have N:=hid J
      have d6:u.cell? ⟨w,0,none⟩=some (.slice A n c):=by
       have H:Below (rb+1) E u:=((q4b E _).mono (by omega)).grown C (by rw[World.size_alloc];omega) (fun k hk=>D.o.o.own_le hk);rw[Lib.cell_of_heap ((H.block _ (by omega)).trans D.o.b0)];rfl
      have f6:u.frozen? ⟨w,0,none⟩=false:=by
       have H:Below (rb+1) E u:=((q4b E _).mono (by omega)).grown C (by rw[World.size_alloc];omega) (fun k hk=>D.o.o.own_le hk);exact Lib.frozen_of_heap ((H.block _ (by omega)).trans D.o.b0) 0
      clear J I C;refine hK _ _ ?_;clear hK K;refine wpAny_ready (rs:=[4]) (by kernel_rfl) (by simp) ?_;refine AllReady.cons rfl (fun K hK=>?_) AllReady.nil
      go_simp
      refine hK _ _ ?_;clear hK K;refine wpAny_done (by kernel_rfl) ?_ _;go_wp2;refine⟨⟨_,_,G++[t],A6,n+1,c6,by rw[List.length_append,Z.o];rfl,N.o⟩,?_⟩;rw[N.o.rd.len_eq,a.o.rd.len_eq]
      have:=Ah.o
      omega
  ·have B7:q=ws.length:=by omega
   rw[q6x (by omega)]at z;have Al:wbS []=⟨#[]⟩:=rfl;rw[Al]at z;have Bd:ws.drop q=[]:=List.drop_eq_nil_of_le (by omega);have Bj:PG false [] ws (.ok G):=X.pg _ (by rw[Bd];exact .done);have x1:wr.heap[w.heap.size+1]?=some (.cells #[.int .i64 0] 3 (0,0)):=X.b1;have x2:wr.heap[w.heap.size+1+1]?=some (.cells #[.nilIface] 29 (0,0)):=X.b2;have e1:wr.cell? ⟨w.heap.size+1,0,none⟩=some (.int .i64 0):=by rw[Lib.cell_of_heap x1];rfl
   have e2:wr.cell? ⟨w.heap.size+1+1,0,none⟩=some .nilIface:=by rw[Lib.cell_of_heap x2];rfl
   have f1:wr.frozen? ⟨w.heap.size+1,0,none⟩=false:=Lib.frozen_of_heap x1 0;have f2:wr.frozen? ⟨w.heap.size+1+1,0,none⟩=false:=Lib.frozen_of_heap x2 0;have Bu:Hid (q3t (rb+1) (.slice A n c) G wr):=X.o;have Bs:Hid (Below B w wr):=X.bl;have Bt:Hid (PG false [] ws (.ok G)):=Bj;clear X b Bd Bj Al x1 x2;go_wp2_with fail;refine z.o.mono ?_;rintro e w1⟨rfl,rfl⟩;go_wp2;generalize hW:((wr.setCell ⟨w,0,none⟩ (.slice A n c)).setCell ⟨w.heap.size+1,0,none⟩ (.int .i64 0)).setCell ⟨w.heap.size+1+1,0,none⟩ .nilIface=W;have hz:W.heap.size=wr.heap.size:=by rw[<-hW,World.size_setCell,World.size_setCell,World.size_setCell]
   have r1:W.cell? ⟨w,0,none⟩=some (.slice A n c):=by
    rw[<-hW];exact(cso (.inl (by omega))).trans ((cso (.inl (by omega))).trans (css e0))
   have r2:W.cell? ⟨w.heap.size+1,0,none⟩=some (.int .i64 0):=by
    rw[<-hW];exact(cso (.inl (by omega))).trans (css ((cso (.inl (by omega))).trans e1))
   have r3:W.cell? ⟨w.heap.size+1+1,0,none⟩=some .nilIface:=by
    rw[<-hW];exact css ((cso (.inl (by omega))).trans ((cso (.inl (by omega))).trans e2))
   have By:∀j,rb+1<=j->W.heap[j]?=wr.heap[j]?:=fun j hj=>by
    rw[<-hW];exact(Below.heap_setCell _ _ _ _ (by show j≠w.heap.size+1+1;omega)).trans ((Below.heap_setCell _ _ _ _ (by show j≠w.heap.size+1;omega)).trans (Below.heap_setCell _ _ _ _ (by show j≠w.heap.size;omega)))
   have Bx:Below B w W:=by
    rw[<-hW];exact((Bs.o.setCell (p:=⟨w,0,none⟩) Ak _).setCell (p:=⟨w.heap.size+1,0,none⟩) (by show B<=w.heap.size+1;omega) _).setCell (p:=⟨w.heap.size+1+1,0,none⟩) (by show B<=w.heap.size+1+1;omega) _
   have Bi:q3t (rb+1) (.slice A n c) G W:=Bu.o.kept fun j h1 _=>By j h1
   clear hW;refine leaves_cons (f:=79) (args:=#[.pointer (some ⟨w,0,none⟩),.pointer (some ⟨w.heap.size+1,0,none⟩),.pointer (some ⟨w.heap.size+1+1,0,none⟩)]) (by simp) (by simp[go_sem]) ?_;refine(k5n ⟨w,0,none⟩ ⟨w.heap.size+1,0,none⟩ ⟨w.heap.size+1+1,0,none⟩ W).mono ?_;rintro e u' w'⟨rfl,rfl,bW⟩;obtain⟨Aq,_⟩:=q1y bW;have q1:=(Aq w.heap.size 0 (by omega)).trans r1;have q2:=(Aq (w.heap.size+1) 0 (by omega)).trans r2;have q3:=(Aq (w.heap.size+1+1) 0 (by omega)).trans r3
   have J:k0a ws (plE ps k) B w (.returned (.tuple #[.slice A n c,.int .i64 0,.nilIface])) w':=by
    have hn:=Z.o;subst hn;exact .ok Bt.o (Bi.prg.W bW) Bi.cell.2.1 (Bx.trans (bW.mono (by omega)))
   simp[Leaves,settle,results,Tryz.results41,go_sem,q1,q2,q3];exact J
theorem j1z(a b:Wd):(q6p a b).length<=a.length+b.length+1:=by
 unfold q6p
 split
 ·simp only[List.length_append,List.length_cons,List.length_nil];omega
 ·simp only[List.length_append];omega
theorem k6n:∀(ws:List Wd)(t:Wd),(ws.foldl q6p t).length<=t.length+szW ws
 | [],t=>by simp[szW]
 | x::r,t=>by
  have h1:=k6n r (q6p t x);have h2:=j1z t x;rw[List.foldl_cons,q2j];omega
theorem v8f:∀s:Wd,szW (q5n s)=s.length+1
 | []=>rfl
 | c::r=>by
  have ih:=v8f r;by_cases hc:c=32
  ·subst hc;rw[q6l,q2j,ih];simp;omega
  ·cases hs:q5n r with
   | nil=>exact absurd hs (q9q r)
   | cons x y=>
    rw[q4x hc hs,q2j];rw[hs,q2j]at ih;simp only[List.length_cons];omega
theorem j7p{x:Wd}(h:x≠[]):(q0y x).length<=x.length:=by
 unfold q0y ntx;have A:=k6n (q0e (x.drop 1)) []
 have B:szW (q0e (x.drop 1))<=(x.drop 1).length+1:=by
  unfold q0e
  split
  ·exact Nat.zero_le _
  ·rw[v8f];exact Nat.le_refl _
 rw[List.length_drop]at B;have C:0<x.length:=List.length_pos_iff.2 h;simp only[List.length_nil]at A;omega
theorem j9k{u ts:List Wd}(h:u <:+ ts):szW u<=szW ts:=by
 obtain⟨t,rfl⟩:=h;rw[k5f];omega
theorem v0e(x:Wd):(wbS x).size=x.length:=by rw[<-q0c];rfl
theorem y1e{x:Wd}(h:nmW x=true):(wbS x).size<=8:=by
 simp only[nmW,q0o,Bool.and_eq_true,decide_eq_true_eq]at h;exact h.1.1.2
theorem j5i{A:List (List Td)}{N:Nat}(h:∀t∈A,∀x∈t,x.tx.size<=N):(q5o A).length<=N:=by
 unfold q5o
 split
 ·rename_i x r hx;have B:(x::r)∈A:=List.mem_of_getLast? hx
  have:=h _ B x (by simp)
  rw[q0c];exact this
 ·exact Nat.zero_le _
theorem y8b{pv:Bool}{C:List (List Td)}{ts:List Wd}{r:Rp}(h:PG pv C ts r):∀N,8<=N->(∀t∈C,∀x∈t,x.tx.size<=N)->∀qs,r=.ok qs->∀t∈qs,∀x∈t,x.tx.size<=N+szW ts:=by
 induction h with
 | done=>
  intro N _ D qs e t A x B;cases e
  have:=D t A x B
  omega
 | @note pv C wd ts r h0 _ ih=>
  intro N E D qs e t A x B;have H:wd≠[]:=fun e=>by rw[e]at h0;simp at h0
  have I:=j7p H
  have:=ih (N+(wd.length+1)) (by omega) (fun t A x B=>by
   unfold k0d at A
   split at A
   ·rcases List.mem_append.1 A with A|A
    ·have:=D t ((List.dropLast_sublist C).subset A) x B
     omega
    ·rw[List.mem_singleton]at A;subst A;rw[List.mem_singleton]at B;subst B
     show(wbS _).size<=_
     rw[v0e];have J:=j1z (q5o C) (q0y wd);have K:=j5i D;omega
   ·rcases List.mem_append.1 A with A|A
    ·have:=D t A x B
     omega
    ·rw[List.mem_singleton]at A;subst A;rw[List.mem_singleton]at B;subst B
     show(wbS _).size<=_
     rw[v0e]
     omega) qs e t A x B
  rw[q2j];omega
 | letN=>intro N _ _ qs e;cases e
 | letE=>intro N _ _ qs e;cases e
 | letB=>intro N _ _ qs e;cases e
 | letX=>intro N _ _ qs e;cases e
 | @letO pv C nm ts m ns u r hn hpr _ ih=>
  intro N E D qs e t A x B;have G:=j9k (q5i hpr).1;simp only[Rs.rest]at G;rw[q2j]at G
  have:=ih N E (fun t A x B=>by
   rcases List.mem_append.1 A with A|A
   ·exact D t A x B
   ·rw[List.mem_singleton]at A;subst A;rcases List.mem_cons.1 B with rfl|B
    ·exact Nat.le_trans (y1e hn) E
    ·exact Nat.le_trans (y1n hpr (fun x B=>by cases B) _ _ _ rfl x B) E) qs e t A x B
  rw[q2j,q2j,q2j];omega
 | doB=>intro N _ _ qs e;cases e
 | doX=>intro N _ _ qs e;cases e
 | @doO pv C wd ts m ns u r h0 I hpr _ ih=>
  intro N E D qs e t A x B;have G:=j9k (q5i hpr).1;simp only[Rs.rest]at G;rw[q2j]at G
  have:=ih N E (fun t A x B=>by
   rcases List.mem_append.1 A with A|A
   ·exact D t A x B
   ·rw[List.mem_singleton]at A;subst A;rcases List.mem_cons.1 B with rfl|B
    ·exact Nat.zero_le _
    ·exact Nat.le_trans (y1n hpr (fun x B=>by cases B) _ _ _ rfl x B) E) qs e t A x B
  omega
theorem y1u(ws:List Wd):szW ws=(ws.map List.length).sum+ws.length:=by
 induction ws with
 | nil=>rfl
 | cons x r ih=>rw[q2j,ih,List.map_cons,List.sum_cons,List.length_cons];omega
theorem k2l(s:ByteArray)(w:World)(ht:z2u w):Calls prog 14 #[.string s] w fun e w'=>z3k s w e w':=by
 have f:Hid (Calls prog 40 #[.string s] w fun e w'=>z7q s w e w'/\Below w w w'):=v0p s w;by_cases J:q5u (btL s)=0
 ·have y:=z4g J;have S:=j5t J;have d:=v0k (btL s);have Y:Hid (∀x∈q2c (btL s),q3b x):=y2m (btL s);have o:Hid (z2u w):=ht;have r:s.size<=60000:=by rw[<-q0c];exact y.1
  have V:Hid (∀A P I M C,q2g w (.slice A (q2c (btL s)).length I) ((q2c (btL s)).map wbS) C->z1j w.heap.size (.slice P (q2c (btL s)).length M) (z1h (btL s)) C->Below w w C->Calls prog 41 #[.slice A (q2c (btL s)).length I,.slice P (q2c (btL s)).length M,.int .i64 (s.size:Int)] C fun e w'=>k0a (q2c (btL s)) (plE (z1h (btL s)) s.size) w.heap.size C e w'):=fun A P I M C a l B=>v1a Y.o (by omega) S (z2r _).symm B.size a l (fun w' hb'=>o.o.W (B.trans hb'))
  have D:Hid (Calls prog 40 #[.string s] w fun e w'=>∃A P I M,e=.returned (.tuple #[.slice A (q2c (btL s)).length I,.slice P (q2c (btL s)).length M,.int .i64 0,.nilIface])/\(q2g w (.slice A (q2c (btL s)).length I) ((q2c (btL s)).map wbS) w'/\z1j w.heap.size (.slice P (q2c (btL s)).length M) (z1h (btL s)) w'/\Below w w w')):=by
   refine f.o.mono ?_;rintro e w'⟨n,B⟩;rcases n with⟨m,_⟩|⟨_,A,P,I,M,rfl,a,l⟩
   ·exact absurd J m
   ·exact⟨A,P,I,M,rfl,a,l,B⟩
  have k:Hid (∀qs,PG false [] (q2c (btL s)) (.ok qs)->∀t∈qs,k8g t):=fun qs hpg t ht x hx=>by
   have a:=y8b hpg 8 Zl (fun t ht=>by cases ht) qs rfl t ht x hx;rw[y1u]at a;omega
  have h:Hid (∀u C w',Below w w C->PG false [] (q2c (btL s)) (.bad u)->Below w C w'->z3k s w (.returned (.tuple #[.slice none 0 0,.int .i64 (plE (z1h (btL s)) s.size ((q2c (btL s)).length-u.length):Int),.iface 23 (.int .i64 5)])) w'):=fun u C w' hb1 hpg B=>⟨[],_,5,none,0,rfl,q6r.bad J hpg,Prg.nil _ _,Nat.le_refl _,hb1.trans B⟩
  have j:Hid (∀qs A c w',PG false [] (q2c (btL s)) (.ok qs)->(q0r qs).2=0->Prg w' A qs->qs.length<=c->Below w w w'->z3k s w (.returned (.tuple #[.slice A qs.length c,.int .i64 0,.nilIface])) w'):=fun qs A c w' hpg L hP hc B=>⟨qs,0,0,A,c,rfl,q6r.ok J hpg L,hP,hc,B⟩
  have i:Hid (∀qs w',PG false [] (q2c (btL s)) (.ok qs)->(q0r qs).2≠0->Below w w w'->z3k s w (.returned (.tuple #[.slice none 0 0,.int .i64 0,.iface 23 (.int .i64 (q0r qs).2)])) w'):=fun qs w' hpg L B=>⟨[],0,(q0r qs).2,none,0,by rw[q0t L];rfl,q6r.full J hpg L,Prg.nil _ _,Nat.le_refl _,B⟩
  clear f y d S ht J Y o
  generalize(q2c (btL s)).length=nl at V D
  go_in;go_wp2_with fail;refine D.o.mono ?_;rintro e C⟨A,P,I,M,rfl,b⟩;have p:=hid b;have O:Hid (Calls prog 41 #[.slice A nl I,.slice P nl M,.int .i64 (s.size:Int)] C fun e w'=>k0a (q2c (btL s)) (plE (z1h (btL s)) s.size) w.heap.size C e w'):=V.o A P I M C b.1 b.2.1 b.2.2;clear b D V;go_wp2_with fail;refine O.o.mono ?_;intro e N z;cases z with
  | @bad u _ pg B=>
   have H:=hid (h.o u C N p.o.2.2 pg B);clear pg B O;generalize plE (z1h (btL s)) s.size ((q2c (btL s)).length-u.length)=pp at H⊢;go_wp2;refine bodyPost_ret (v:=.tuple #[.slice none 0 0,.int .i64 (pp:Int),.iface 23 (.int .i64 5)]) (by simp[results,Tryz.results14,go_sem]) rfl ?_;exact H.o
  | @ok qs A2 c2 _ pg hp hc B=>
   have Q:Below w w N:=p.o.2.2.trans B;have R:Hid (Calls prog 42 #[.slice A2 qs.length c2] N fun e w'=>e=.returned (.tuple #[.int .i64 ((q0r qs).1:Int),q1v (q0r qs).2])/\Below N N w'):=j9m qs A2 c2 N hc hp (k.o qs pg);by_cases L:(q0r qs).2=0
   ·have H:Hid (∀G,Below N N G->z3k s w (.returned (.tuple #[.slice A2 qs.length c2,.int .i64 0,.nilIface])) G):=fun G hb3=>j.o qs A2 c2 G pg L (hp.W hb3) hc (q0d Q Zl hb3)
    rw[L]at R
    generalize(q0r qs).1=K at R
    clear pg hp hc B Q L O;generalize qs.length=ql at R H⊢;go_wp2_with fail;refine R.o.mono ?_;rintro e G⟨rfl,Z⟩;have U:=hid (H.o G Z);clear Z;rw[q1l];go_wp2;refine bodyPost_ret (v:=.tuple #[.slice A2 ql c2,.int .i64 0,.nilIface]) (by simp[results,Tryz.results14,go_sem]) rfl ?_;exact U.o
   ·have H:Hid (∀G,Below N N G->z3k s w (.returned (.tuple #[.slice none 0 0,.int .i64 0,.iface 23 (.int .i64 (q0r qs).2)])) G):=fun G hb3=>i.o qs G pg L (q0d Q Zl hb3)
    have X:Hid (q1v (q0r qs).2=.iface 23 (.int .i64 (q0r qs).2)):=q0t L
    generalize(q0r qs).2=E at R X H
    generalize(q0r qs).1=K at R
    clear pg hp hc B Q L O;generalize qs.length=ql at R⊢;go_wp2_with fail;refine R.o.mono ?_;rintro e G⟨rfl,Z⟩;have U:=hid (H.o G Z);clear Z;rw[X.o];go_wp2;refine bodyPost_ret (v:=.tuple #[.slice none 0 0,.int .i64 0,.iface 23 (.int .i64 E)]) (by simp[results,Tryz.results14,go_sem]) rfl ?_;exact U.o
 ·have D:Hid (Calls prog 40 #[.string s] w fun e w'=>e=.returned (.tuple #[.slice none 0 0,.slice none 0 0,.int .i64 ((z3f (btL s):Nat):Int),q1v (q5u (btL s))])/\Below w w w'):=by
   refine f.o.mono ?_;rintro e w'⟨n,B⟩;rcases n with⟨_,rfl⟩|⟨m,_⟩
   ·exact⟨rfl,B⟩
   ·exact absurd m J
  have X:Hid (q1v (q5u (btL s))=.iface 23 (.int .i64 (q5u (btL s)))):=q0t J;have H:Hid (∀w',Below w w w'->z3k s w (.returned (.tuple #[.slice none 0 0,.int .i64 ((z3f (btL s):Nat):Int),.iface 23 (.int .i64 (q5u (btL s)))])) w'):=fun w' B=>⟨[],_,_,none,0,by rw[X.o];rfl,q6r.lex J,Prg.nil _ _,Nat.le_refl _,B⟩
  generalize q5u (btL s)=E at D X H
  generalize((z3f (btL s):Nat):Int)=LK at D H
  clear f J ht;go_in;go_wp2_with fail;refine D.o.mono ?_;rintro e C⟨rfl,q⟩;have g:=hid (H.o C q);clear q;rw[X.o];go_wp2;refine bodyPost_ret (v:=.tuple #[.slice none 0 0,.int .i64 LK,.iface 23 (.int .i64 E)]) (by simp[results,Tryz.results14,go_sem]) rfl ?_;exact g.o
end Go.Proofs.YtfdppahhbpfnoaaGreatDoor
