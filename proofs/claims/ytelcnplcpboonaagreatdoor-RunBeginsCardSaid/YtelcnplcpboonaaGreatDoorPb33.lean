import Derived.Test.YtelcnplcpboonaaGreatDoorPb12
import Derived.Test.YtelcnplcpboonaaGreatDoorPb26
import Derived.Test.YtelcnplcpboonaaGreatDoorPb27
import Derived.Test.YtelcnplcpboonaaGreatDoorPb25
open Go.Proofs.Tryz
namespace Go.Proofs.YtelcnplcpboonaaGreatDoor
open Go Go.RowKit
set_option maxRecDepth 100000
set_option maxHeartbeats 4000000
theorem z8t(bp g n i c:Nat)(tx:ByteArray)(nn en:Int)(nx dp:Nat)(lg:Int)(x:Int)(w:World)(hn:n<=400)(hi:(i:Int)<n)(E:(i:Int)+1<n)(dx:w.cell? ⟨g,(i+1)*7+3,none⟩=some (.int .i64 x))
  (c0:w.cell? ⟨bp,0,none⟩=some (.slice (some ⟨g,0,none⟩) n n))
  (d0:w.cell? ⟨g,i*7,none⟩=some (.int .i64 9)) (d1:w.cell? ⟨g,i*7+1,none⟩=some (.string tx)) (d2:w.cell? ⟨g,i*7+2,none⟩=some (.int .i64 nn)) (d3:w.cell? ⟨g,i*7+3,none⟩=some (.int .i64 en)) (d4:w.cell? ⟨g,i*7+4,none⟩=some (.int .i64 nx)) (d5:w.cell? ⟨g,i*7+5,none⟩=some (.int .i64 dp)) (d6:w.cell? ⟨g,i*7+6,none⟩=some (.int .i64 lg)):
  Calls prog 274 #[.pointer (some ⟨bp,0,none⟩),.agg #[.int .i64 i,.int .i64 c],.int .i64 1] w fun e w'=>e=.returned (.tuple #[.agg #[.int .i64 x,.int .i64 c],.agg #[.int .i64 0,.int .i64 0]])/\Below w w w':=by
 have H:(0:Int)<=(i:Int):=by omega
 have K:=z4w hn hi;have G:=World.block_lt_of_cell? w ⟨bp,0,none⟩ c0;have D:=World.block_lt_of_cell? w ⟨g,i*7,none⟩ d0;have A:∀O2 O3,(((w.alloc (.cells #[.int .i64 i,.int .i64 c] 280)).alloc O2).alloc O3).cell? ⟨w,0,none⟩=some (.int .i64 i):=fun O2 O3=>by simp[go_sem]
 have B:∀O2 O3 O4,((((w.alloc (.cells #[.int .i64 i,.int .i64 c] 280)).alloc O2).alloc O3).alloc O4).cell? ⟨w,0,none⟩=some (.int .i64 i):=fun O2 O3 O4=>ka (A O2 O3) O4
 have C:∀O2 O3 O4,((((w.alloc (.cells #[.int .i64 i,.int .i64 c] 280)).alloc O2).alloc O3).alloc O4).cell? ⟨w,1,none⟩=some (.int .i64 c):=fun O2 O3 O4=>by simp[go_sem]
 have I:(0:Int)<=(i:Int)+1:=by omega
 have J:((i:Int)+1).toNat=i+1:=by omega
 go_in;go_wp2_with fail
 go_region_held3 (fun w'=>w'.cell? ⟨bp,0,none⟩=some (.slice (some ⟨g,0,none⟩) n n)/\w'.cell? ⟨w,0,none⟩=some (.int .i64 i)/\w'.cell? ⟨g,i*7,none⟩=some (.int .i64 9)/\w'.cell? ⟨g,i*7+1,none⟩=some (.string tx)/\w'.cell? ⟨g,i*7+2,none⟩=some (.int .i64 nn)/\w'.cell? ⟨g,i*7+3,none⟩=some (.int .i64 en)/\w'.cell? ⟨g,i*7+4,none⟩=some (.int .i64 nx)/\w'.cell? ⟨g,i*7+5,none⟩=some (.int .i64 dp)/\w'.cell? ⟨g,i*7+6,none⟩=some (.int .i64 lg))
  (first|exact⟨k3 c0 _ _ _,A _ _,k3 d0 _ _ _,k3 d1 _ _ _,k3 d2 _ _ _,k3 d3 _ _ _,k3 d4 _ _ _,k3 d5 _ _ _,k3 d6 _ _ _⟩|exact⟨k4 c0 _ _ _ _,B _ _ _,k4 d0 _ _ _ _,k4 d1 _ _ _ _,k4 d2 _ _ _ _,k4 d3 _ _ _ _,k4 d4 _ _ _ _,k4 d5 _ _ _ _,k4 d6 _ _ _ _⟩) (fail)
 all_goals
  go_wp2_with fail
  go_region_held3 (fun w'=>w'.cell? ⟨bp,0,none⟩=some (.slice (some ⟨g,0,none⟩) n n)/\w'.cell? ⟨w,0,none⟩=some (.int .i64 i)/\w'.cell? ⟨w,1,none⟩=some (.int .i64 c)/\w'.cell? ⟨g,(i+1)*7+3,none⟩=some (.int .i64 x))
   (exact⟨k4 c0 _ _ _ _,B _ _ _,C _ _ _,k4 dx _ _ _ _⟩) (fail)
  all_goals
   go_wp2;exact bodyPost_ret (v:=.tuple #[.agg #[.int .i64 x,.int .i64 c],.agg #[.int .i64 0,.int .i64 0]]) (by simp[results,Tryz.results274,go_sem]) rfl ⟨rfl,(v5y w _ _ _ _).drew.drew⟩
set_option maxHeartbeats 8000000
def plE(ps:List Nat)(k:Nat)(i:Nat):Nat:=(ps[i]?).getD k
theorem j6j{B:Nat}{v:Value}{ks:List Nat}{w:World}(h:z2g B v ks w):z8n B v (ks.map fun(k:Nat)=>(k:Int)) w:=by
 have e:q3o (ks.map fun(k:Nat)=>(k:Int))=q1w ks:=by simp[q3o,q1w]
 show w.ownsRow _ _ _ _ _ _;rw[List.length_map,e];exact h
theorem k6i{w w':World}{B B' e e' A D n n':Nat}{v v':Value}{xs J:List Value}(h:w.ownsRow B e A v n xs)(h':w.ownsRow B' e' D v' n' J)(I:e≠e')(hg:w.grownBy w' v'.ownBlock):w'.ownsRow B e A v n xs:=by
 refine⟨h.1,?_⟩;rcases h.2 with M|⟨g,c,G,O,N,H,E⟩
 ·exact .inl M
 ·refine .inr ⟨g,c,G,O,N,(hg.block g (Array.getElem?_eq_some_iff.1 H).1 fun e1=>?_).trans H,E⟩;rcases h'.2 with⟨rfl,_⟩|⟨L,P,K,rfl,_,C,_⟩
  ·cases e1
  ·have:g=L:=by simpa[Value.ownBlock]using e1
   subst this;rw[H]at C;simp only[Option.some.injEq,Obj.cells.injEq]at C;exact I C.2.1
theorem k6g{w:World}{B e n m c:Nat}{A:Option Addr}{xs:List Value}(h:w.ownsRow B e 1 (.slice A m c) n xs)(h0:0<n):∃g,A=some ⟨g,0,none⟩/\B<=g/\g<w.heap.size/\n<=c/\∀i u,xs[i]?=some u->w.cell? ⟨g,i,none⟩=some u:=by
 rcases h.2 with⟨_,M⟩|⟨g,L,H,G,I,E,D,_,K,C⟩
 ·omega
 ·simp only[Value.slice.injEq]at G;obtain⟨rfl,rfl,rfl⟩:=G;refine⟨g,rfl,I,(Array.getElem?_eq_some_iff.1 E).1,D,fun i u hu=>?_⟩;rw[<-C]at hu
  have J:i<m*1:=by
   have:=(List.getElem?_eq_some_iff.1 hu).1
   rw[List.length_take]at this;omega
  rw[List.getElem?_take_of_lt J]at hu;simp only[World.cell?,E];simpa using hu
theorem v3z{B n:Nat}{A P:Option Addr}{ac pc:Nat}{ws:List Wd}{ps:List Nat}{k:Nat}{w:World}(hn:ws.length=n)(C:n<=60000)(H:ps.length=ws.length)(h1:q1n B (.slice A (n+1) ac) (ws.map wbS++[⟨#[]⟩]) w)(h2:z8n B (.slice P (n+1) pc) ((ps.map fun(k:Nat)=>(k:Int))++[(k:Int)]) w):
  ∃gw ga,A=some ⟨gw,0,none⟩/\P=some ⟨ga,0,none⟩/\B<=gw/\B<=ga/\gw<w.heap.size/\ga<w.heap.size/\Ry ⟨gw,ac,ga,pc⟩ ws (plE ps k) w.heap.size 0 (w.alloc (.cells #[.slice (some ⟨gw,0,none⟩) (n+1) ac,.slice (some ⟨ga,0,none⟩) (n+1) pc] 181)):=by
 subst hn;have D:(ws.map wbS++[(⟨#[]⟩:ByteArray)]).length=ws.length+1:=by simp
 have E:((ps.map fun(k:Nat)=>(k:Int))++[(k:Int)]).length=ws.length+1:=by simp[H]
 obtain⟨gw,rfl,L,J,N,Q⟩:=k6g h1 (by rw[D];omega);obtain⟨ga,rfl,M,K,O,R⟩:=k6g h2 (by rw[E];omega);rw[D]at N;rw[E]at O;have G:=heap_alloc_new w (.cells #[.slice (some ⟨gw,0,none⟩) (ws.length+1) ac,.slice (some ⟨ga,0,none⟩) (ws.length+1) pc] 181);obtain⟨I,_⟩:=q0t (q1c w (.cells #[.slice (some ⟨gw,0,none⟩) (ws.length+1) ac,.slice (some ⟨ga,0,none⟩) (ws.length+1) pc] 181));refine⟨gw,ga,rfl,rfl,L,M,J,K,Nat.zero_le _,by rw[Lib.cell_of_heap G];rfl,by rw[Lib.cell_of_heap G];rfl,⟨_,_,G,rfl⟩,fun i hi=>?_,fun i hi=>?_,by show gw≠w.heap.size;omega,by show ga≠w.heap.size;omega,by show ws.length<ac;omega,by show ws.length<pc;omega,C⟩
 ·refine(I _ _ J).trans (Q i _ ?_);by_cases e:i<ws.length
  ·rw[q3d e,q3l,List.getElem?_append_left (by simp[strCells];omega)];simp[strCells,e]
  ·have:i=ws.length:=by omega
   subst this;rw[q5q Zl,q3l,List.getElem?_append_right (by simp[strCells])];simp[strCells];rfl
 ·refine(I _ _ K).trans (R i _ ?_);unfold plE;by_cases e:i<ps.length
  ·rw[z1a,List.getElem?_append_left (by simp[q3o];omega)];simp[q3o,e]
  ·have:i=ps.length:=by omega
   subst this;rw[z1a,List.getElem?_append_right (by simp[q3o])];simp[q3o]
structure y7s(K:LwK)(ws:List Wd)(pl:Nat->Nat)(B H rb:Nat)(w:World)(q:Nat)(pv:Bool)(acc:List (List Td))(v:Value)(wr:World):Prop where
 rd:Ry K ws pl rb q wr
 o:z1c (rb+1) v acc wr
 b0:wr.heap[H]?=some (.cells #[v] 28 (0,0))
 b1:wr.heap[H+1]?=some (.cells #[.int .i64 0] 3 (0,0))
 b2:wr.heap[H+2]?=some (.cells #[.nilIface] 43 (0,0))
 bl:Below B w wr
 pg:∀r,PG pv acc (ws.drop q) r->PG false [] ws r
 nx:pv=true->∀x,ws[q]?=some x->x.headD 0≠35
 nl:acc.length<=q
 sz:rb<wr.heap.size
theorem y3x(w:World)(a b c d:Obj):((((w.alloc a).alloc b).alloc c).alloc d).heap[w.heap.size]?=some a/\((((w.alloc a).alloc b).alloc c).alloc d).heap[w.heap.size+1]?=some b/\((((w.alloc a).alloc b).alloc c).alloc d).heap[w.heap.size+2]?=some c:=by
 have C:(w.alloc a).heap.size=w.heap.size+1:=World.size_alloc ..;have D:((w.alloc a).alloc b).heap.size=w.heap.size+2:=by rw[World.size_alloc,C]
 have E:(((w.alloc a).alloc b).alloc c).heap.size=w.heap.size+3:=by rw[World.size_alloc,D]
 have A:=heap_alloc_new (w.alloc a) b;have B:=heap_alloc_new ((w.alloc a).alloc b) c;rw[C]at A;rw[D]at B;exact⟨(Lib.alloc_old _ _ _ (by omega)).trans ((Lib.alloc_old _ _ _ (by omega)).trans ((Lib.alloc_old _ _ _ (by omega)).trans (heap_alloc_new w a))),(Lib.alloc_old _ _ _ (by omega)).trans ((Lib.alloc_old _ _ _ (by omega)).trans A),(Lib.alloc_old _ _ _ (by omega)).trans B⟩
theorem But.undrew{B b:Nat}{w w':World}(h:But B b w.drew w'):But B b w w':=⟨h.os,h.tape,h.output,h.size,h.block⟩
section
variable {K:LwK} {ws:List Wd} {pl:Nat→Nat} {B H rb:Nat} {w wr:World} {q:Nat} {pv:Bool} {acc:List (List Td)} {A:Option Addr} {n c:Nat}
structure y7r(K:LwK)(ws:List Wd)(pl:Nat->Nat)(B H rb:Nat)(w:World)(q:Nat)(pv:Bool)(acc:List (List Td))(v:Value)(t:List Td)(g c4:Nat)(w4:World):Prop where
 rd:Ry K ws pl rb q w4
 o:z1c (rb+1) v acc w4
 tt:q1p (rb+1) (.slice (some ⟨g,0,none⟩) t.length c4) t w4
 b0:w4.heap[H]?=some (.cells #[v] 28 (0,0))
 b1:w4.heap[H+1]?=some (.cells #[.int .i64 0] 3 (0,0))
 b2:w4.heap[H+2]?=some (.cells #[.nilIface] 43 (0,0))
 bl:Below B w w4
 pg:∀r,PG pv (acc++[t]) (ws.drop q) r->PG false [] ws r
 nx:pv=true->∀x,ws[q]?=some x->x.headD 0≠35
 nl:acc.length+1<=q
 sz:rb<w4.heap.size
theorem y6c{n':Bool}{q':Nat}{t:List Td}{g c4:Nat}{w4:World}(h:y7s K ws pl B H rb w q pv acc (.slice A n c) wr)(hH:H+4<=rb)(D:B<=rb)(hG:y3n K ws pl rb q wr.drew q' n' t (.slice (some ⟨g,0,none⟩) t.length c4) w4):y7r K ws pl B H rb w q' n' acc (.slice A n c) t g c4 w4:=by
 have J:=h.sz;have I:wr.heap.size<=w4.heap.size:=hG.bt.size;have C:But wr rb wr w4:=hG.bt.undrew;have E:=hG.lt;have G:=h.nl;refine⟨hG.rd,h.o.but C (by omega),hG.o.down (by show rb+1<=wr.heap.size;omega),(C.block _ (by omega) (by omega)).trans h.b0,(C.block _ (by omega) (by omega)).trans h.b1,(C.block _ (by omega) (by omega)).trans h.b2,h.bl.trans (C.low (by omega) D),fun r hr=>h.pg r (hG.pg pv acc r h.nx hr),hG.nx,by omega,by omega⟩
theorem y2j{t:List Td}{g c4:Nat}{w4 w6:World}{A6:Option Addr}{c6:Nat}{O:Obj}(h:y7r K ws pl B H rb w q pv acc (.slice A n c) t g c4 w4)(hH:H+4<=rb)(M:B<=rb)(G:B<=H)(P:K.gw<rb)(N:K.ga<rb)(ho:z1c (rb+1) (.slice A6 (n+1) c6) (acc++[t]) w6)(hg:(w4.alloc O).grownBy w6 (Value.slice A n c).ownBlock):y7s K ws pl B H rb w q pv (acc++[t]) (.slice A6 (n+1) c6) (w6.setCell ⟨H,0,none⟩ (.slice A6 (n+1) c6)):=by
 have S:=h.sz;have R:(w4.alloc O).heap.size=w4.heap.size+1:=World.size_alloc ..;have C:Below (rb+1) w4 w6:=((q1c w4 O).mono (by omega)).grown hg (by omega) (fun k hk=>h.o.own_le hk);have D:∀j,j≠H->(w6.setCell ⟨H,0,none⟩ (.slice A6 (n+1) c6)).heap[j]?=w6.heap[j]?:=fun j hj=>Below.heap_setCell _ _ _ _ hj
 have I:w6.heap[H]?=some (.cells #[.slice A n c] 28 (0,0)):=(C.block _ (by omega)).trans h.b0;have Q:=hg.size;have E:w4.cell? ⟨H,0,none⟩=some (.slice A n c):=by rw[Lib.cell_of_heap h.b0];rfl
 have J:H≠K.gw:=fun e=>by
  have:=h.rd.wd 0 (Nat.zero_le _)
  rw[<-e,E]at this;cases this
 have L:H≠K.ga:=fun e=>by
  have:=h.rd.pt 0 (Nat.zero_le _)
  rw[<-e,E]at this;cases this
 refine⟨(h.rd.keepB C (by omega) (by omega) (by omega)).far (by omega) J L,ho.kept fun j h1 _=>D j (by omega),?_,(D _ (by omega)).trans ((C.block _ (by omega)).trans h.b1),(D _ (by omega)).trans ((C.block _ (by omega)).trans h.b2),(h.bl.trans (C.mono (by omega))).setCell (p:=⟨H,0,none⟩) G _,h.pg,h.nx,by rw[List.length_append];exact h.nl,by rw[World.size_setCell];omega⟩;simp[World.setCell,Array.getElem?_modify,I]
end
inductive z8o (ws:List Wd) (pl:Nat->Nat) (B:Nat) (w:World):Ending->World->Prop where
 | ok {qs A c w'} (pg:PG false [] ws (.ok qs)) (hp:Prg w' A qs) (hc:qs.length<=c) (hb:Below B w w'):z8o ws pl B w (.returned (.tuple #[.slice A qs.length c,.int .i64 0,.nilIface])) w'
 | bad {u w'} (pg:PG false [] ws (.bad u)) (hb:Below B w w'):z8o ws pl B w (.returned (.tuple #[.slice none 0 0,.int .i64 (pl (ws.length-u.length):Int),.iface 50 (.int .i64 5)])) w'
theorem j9r{B:Nat}{A P:Option Addr}{ac pc:Nat}{ws:List Wd}{ps:List Nat}{k:Nat}{w:World}(Bp:∀x∈ws,q3q x)(An:(ws.map List.length).sum<=60000)(Am:ws.length<=60000)(Bk:ps.length=ws.length)(hB:B<=w.heap.size)
  (h1:q1n B (.slice A ws.length ac) (ws.map wbS) w) (h2:z2g B (.slice P ws.length pc) ps w) (hT:∀w',Below B w w'->q7n w'):
  Calls prog 86 #[.slice A ws.length ac,.slice P ws.length pc,.int .i64 (k:Int)] w fun e w'=>z8o ws (plE ps k) B w e w':=by
 have B6:∀(fn:Fn)(first cap:Array Value)(w:World),(Instr.makeFunc fn first cap).run prog w=.ok (.func fn first cap) w:=fun _ _ _ _=>rfl
 have HT:Hid (∀w',Below B w w'->q7n w'):=hT;have A9:Hid (∀x∈ws,q3q x):=Bp;have Bv:Hid ((ws.map List.length).sum<=60000):=An;have H1:Hid (q1n B (.slice A ws.length ac) (ws.map wbS) w):=h1;have H2:Hid (z8n B (.slice P ws.length pc) (ps.map fun(k:Nat)=>(k:Int)) w):=j6j h2;have A2:Hid (ps.length=ws.length):=Bk;clear hT Bp An h1 h2 Bk;generalize Av:ws.length=nl at H1 H2;have Ag:Hid (ws.length=nl):=Av;rw[Av]at Am;clear Av;have A0:Hid ((ws.map wbS).length=nl):=(show _=_ by rw[List.length_map];exact Ag.o);go_enter_defers func86,ntmps86;have Ao:Hid (q1n B (.slice A nl ac) (ws.map wbS) ((((w.alloc (.cells #[.slice none 0 0] 28)).alloc (.cells #[.int .i64 0] 3)).alloc (.cells #[.nilIface] 43)).alloc (.cells #[.string ⟨#[]⟩] 9))):=q1z (q1z (q1z (q1z H1.o (q1c _ _)) (q1c _ _)) (q1c _ _)) (q1c _ _);have A7:Hid (z8n B (.slice P nl pc) (ps.map fun(k:Nat)=>(k:Int)) ((((w.alloc (.cells #[.slice none 0 0] 28)).alloc (.cells #[.int .i64 0] 3)).alloc (.cells #[.nilIface] 43)).alloc (.cells #[.string ⟨#[]⟩] 9))):=q1z (q1z (q1z (q1z H2.o (q1c _ _)) (q1c _ _)) (q1c _ _)) (q1c _ _)
 have Bb:Hid (Wds ((((w.alloc (.cells #[.slice none 0 0] 28)).alloc (.cells #[.int .i64 0] 3)).alloc (.cells #[.nilIface] 43)).alloc (.cells #[.string ⟨#[]⟩] 9)) (some ⟨w.heap.size+1+1+1,0,none⟩) [⟨#[]⟩]):=by
  intro i hi;have As:i=0:=by simp at hi;omega
  subst As;refine⟨w.heap.size+1+1+1,0,rfl,by simp,?_⟩;simp[go_sem]
 have Ay:Hid (Below w w ((((w.alloc (.cells #[.slice none 0 0] 28)).alloc (.cells #[.int .i64 0] 3)).alloc (.cells #[.nilIface] 43)).alloc (.cells #[.string ⟨#[]⟩] 9))):=(((Zb.alloc Zl _).alloc (by simp) _).alloc (by simp;omega) _).alloc (by simp;omega) _;have Ab:Hid (((((w.alloc (.cells #[.slice none 0 0] 28)).alloc (.cells #[.int .i64 0] 3)).alloc (.cells #[.nilIface] 43)).alloc (.cells #[.string ⟨#[]⟩] 9)).heap.size=w.heap.size+1+1+1+1):=(show _=_ by simp);go_wp2_with(at_builtin;refine z6k rfl _ _ rfl B _ (ws.map wbS) rfl Ao.o (some ⟨w.heap.size+1+1+1,0,none⟩) 1 [⟨#[]⟩] rfl 1 rfl Bb.o (fun e=>by cases e) (nl+1) (by rw[A0.o]) (by omega) (by rw[Ab.o];omega) ?_);intro A5 c5 Y Ae L;have At:∀k',(Value.slice A nl ac).ownBlock=some k'->B<=k'/\k'<w.heap.size:=fun k' hk=>World.ownsRow.lt H1.o k' hk
 have Au:∀k',(Value.slice P nl pc).ownBlock=some k'->B<=k'/\k'<w.heap.size:=fun k' hk=>World.ownsRow.lt H2.o k' hk
 have Bn:=L.size;rw[Ab.o]at Bn;have O:∀j,w.heap.size<=j->j<w.heap.size+4->Y.heap[j]?=((((w.alloc (.cells #[.slice none 0 0] 28)).alloc (.cells #[.int .i64 0] 3)).alloc (.cells #[.nilIface] 43)).alloc (.cells #[.string ⟨#[]⟩] 9)).heap[j]?:=fun j h1 h2=>L.block j (by rw[Ab.o];omega) (fun e=>by have:=(At j e.symm).2;omega)
 have Aj:Hid (Y.heap[w.heap.size]?=some (.cells #[.slice none 0 0] 28 (0,0))/\Y.heap[w.heap.size+1]?=some (.cells #[.int .i64 0] 3 (0,0))/\Y.heap[w.heap.size+2]?=some (.cells #[.nilIface] 43 (0,0))):=by
  obtain⟨e1,e2,e3⟩:=y3x w (.cells #[.slice none 0 0] 28) (.cells #[.int .i64 0] 3) (.cells #[.nilIface] 43) (.cells #[.string ⟨#[]⟩] 9);exact⟨(O _ (by omega) (by omega)).trans e1,(O _ (by omega) (by omega)).trans e2,(O _ (by omega) (by omega)).trans e3⟩
 have Az:Hid (Below B w Y):=(Ay.o.mono hB).grown L (by rw[Ab.o];omega) (fun k' hk=>(At k' hk).1);have A1:Hid (q1n B (.slice A5 (nl+1) c5) (ws.map wbS++[⟨#[]⟩]) (Y.alloc (.cells #[.int .i64 (k:Int)] 3))):=q1z Ae (q1c _ _);have Ap:Hid (z8n B (.slice P nl pc) (ps.map fun(k:Nat)=>(k:Int)) (Y.alloc (.cells #[.int .i64 (k:Int)] 3))):=q1z (k6i A7.o Ao.o (by decide) L) (q1c _ _)
 have Bc:Hid (z4j (Y.alloc (.cells #[.int .i64 (k:Int)] 3)) (some ⟨Y,0,none⟩) [(k:Int)]):=by
  intro i hi;have As:i=0:=by simp at hi;omega
  subst As;refine⟨Y.heap.size,0,rfl,by simp,?_⟩;simp[go_sem]
 have Ac:Hid ((Y.alloc (.cells #[.int .i64 (k:Int)] 3)).heap.size=Y.heap.size+1):=World.size_alloc ..;have A3:Hid ((ps.map fun(k:Nat)=>(k:Int)).length=nl):=(show _=_ by rw[List.length_map,A2.o,Ag.o]);clear Ae L O Ao A7 Bb Ay Ab;go_wp2_with(at_builtin;refine v0h rfl _ _ rfl B _ (ps.map fun(k:Nat)=>(k:Int)) rfl Ap.o (some ⟨Y,0,none⟩) 1 [(k:Int)] rfl 1 rfl Bc.o (fun e=>by cases e) (nl+1) (by rw[A3.o]) (by omega) (by rw[Ac.o];omega) ?_);intro P7 c7 w7 Af M;have Bo:=M.size;rw[Ac.o]at Bo;have Bh:q1n B (.slice A5 (nl+1) c5) (ws.map wbS++[⟨#[]⟩]) w7:=k6i A1.o Ap.o (by decide) M;obtain⟨gw,ga,rfl,rfl,B5,B4,Br,Bq,Bm⟩:=v3z Ag.o Am A2.o Bh Af;have s:∀j,w.heap.size<=j->j<w.heap.size+4->w7.heap[j]?=Y.heap[j]?:=fun j h1 h2=>(M.block j (by rw[Ac.o];omega) (fun e=>by have:=(Au j e.symm).2;omega)).trans (Lib.alloc_old Y _ j (by omega))
 have Ba:Hid (y7s ⟨gw,c5,ga,c7⟩ ws (plE ps k) B w.heap.size w7.heap.size w 0 false [] (.slice none 0 0) (w7.alloc (.cells #[.slice (some ⟨gw,0,none⟩) (nl+1) c5,.slice (some ⟨ga,0,none⟩) (nl+1) c7] 181))):=by
  have Ar:∀j,w.heap.size<=j->j<w.heap.size+4->(w7.alloc (.cells #[.slice (some ⟨gw,0,none⟩) (nl+1) c5,.slice (some ⟨ga,0,none⟩) (nl+1) c7] 181)).heap[j]?=Y.heap[j]?:=fun j h1 h2=>(Lib.alloc_old w7 _ j (by omega)).trans (s j h1 h2)
  refine⟨Bm,z1c.nil _ _,(Ar _ (by omega) (by omega)).trans Aj.o.1,(Ar _ (by omega) (by omega)).trans Aj.o.2.1,(Ar _ (by omega) (by omega)).trans Aj.o.2.2,?_,fun r hr=>hr,(fun e=>by cases e),Nat.zero_le _,by rw[World.size_alloc];omega⟩;have Bw:Below B w w7:=(Az.o.alloc (by omega) _).grown M (by rw[Ac.o];omega) (fun k' hk=>(Au k' hk).1);exact Bw.alloc (by omega) _
 have hH:w.heap.size+4<=w7.heap.size:=by omega
 clear Af M Bh Bm s Aj Az A1 Ap Bc Ac A3 H1 H2 A0;have m:gw<w7.heap.size:=Br;have d:ga<w7.heap.size:=Bq;have V:B<=w7.heap.size:=by omega
 have Ak:B<=w.heap.size:=hB;go_wp2_with fail;generalize Bl:w7.heap.size=rb at Ba hH m d V;have B3:Hid (w7.heap.size=rb):=Bl;clear Bl Br Bq At Au Bn Bo
 go_loopw [19] (fun _ wr=>∃(q:Nat)(pv:Bool)(G:List (List Td))(A:Option Addr)(n c:Nat),G.length=n/\y7s ⟨gw,c5,ga,c7⟩ ws (plE ps k) B w.heap.size rb w q pv G (.slice A n c) wr) (fun _ wr=>k9o wr rb)
 case atStart=>exact⟨0,false,[],none,0,0,rfl,Ba.o⟩
 case round=>
  obtain⟨q,pv,G,A,n,c,b,X⟩:=hrel;have a:=hid X;have Z:Hid (G.length=n):=b;have B1:=X.rd.le;have Bg:=X.nl;rw[b]at Bg;have B8:=X.sz;have e0:wr.cell? ⟨w,0,none⟩=some (.slice A n c):=by rw[Lib.cell_of_heap X.b0];rfl
  have f0:wr.frozen? ⟨w,0,none⟩=false:=Lib.frozen_of_heap X.b0 0;have z:Hid (Calls prog 117 #[.pointer (some ⟨rb,0,none⟩)] wr fun e w'=>e=.returned (.string (wbS (ws.getD q [])))/\wr=w'):=(q5m X.rd).mono fun _ _ h=>⟨h.1,h.2.symm⟩
  have B2:=Ag.o;by_cases hq:q<ws.length
  ·rw[q3d hq]at z
   have Be:¬(wbS ws[q]).toList=[]:=by
    rw[Lib.toList_data];exact v7q (A9.o _ (List.getElem_mem hq))
   have Bf:((wbS ws[q]).toList==[])=false:=by
    cases h:((wbS ws[q]).toList==[])with
    | false=>rfl
    | true=>exact absurd (by simpa using h) Be
   have B0:(⟨#[]⟩:ByteArray).toList=[]:=by rw[Lib.toList_data]
   have A8:Hid (Calls prog 118 #[.pointer (some ⟨rb,0,none⟩)] wr.drew fun e w'=>q9t ⟨gw,c5,ga,c7⟩ ws (plE ps k) rb q wr.drew e w'):=j9s A9.o Bv.o hq (fun w' hb=>HT.o w' (X.bl.trans ((show But wr rb wr w' from hb.undrew).low (by omega) V))) (X.rd.keep (Below.drew Zb));generalize wbS ws[q]=S at z Be Bf;clear X b;go_wp2_with fail;refine z.o.mono ?_;rintro e w1⟨rfl,rfl⟩;go_wp2_with fail;refine wp_region_any (by kernel_rfl) ?_
   try (change wpAny _ _ _ _ _ _ _ (World.drew _))
   refine wpAny_ready (rs:=[0,1]) (by kernel_rfl) (by simp) ?_;refine AllReady.cons rfl (fun K hK=>?_) (AllReady.cons rfl (fun K hK=>?_) AllReady.nil)
   ·go_simp
    refine hK _ _ ?_;clear hK K;refine wpAny_ready (rs:=[1]) (by kernel_rfl) (by simp) ?_;refine AllReady.cons rfl (fun K hK=>?_) AllReady.nil
    go_simp
    refine A8.o.mono ?_;intro e E hG;cases hG with
    | @bad u4 _ pg4 bt4=>
     have Aw:wr.heap.size<=E.heap.size:=bt4.size;have Q:But wr rb wr E:=bt4.undrew;have x0:E.heap[w.heap.size]?=some (.cells #[.slice A n c] 28 (0,0)):=(Q.block _ (by omega) (by omega)).trans a.o.b0;have x1:E.heap[w.heap.size+1]?=some (.cells #[.int .i64 0] 3 (0,0)):=(Q.block _ (by omega) (by omega)).trans a.o.b1;have x2:E.heap[w.heap.size+2]?=some (.cells #[.nilIface] 43 (0,0)):=(Q.block _ (by omega) (by omega)).trans a.o.b2;have Ad:Below B w E:=a.o.bl.trans (Q.low (by omega) V)
     have Aa:Hid (CallsD prog 116 #[.pointer (some ⟨w,0,none⟩),.pointer (some ⟨w.heap.size+1,0,none⟩),.pointer (some ⟨w.heap.size+1+1,0,none⟩)] (.panicking [q4c (plE ps k (ws.length-u4.length))]) E fun e u' w'=>e=.returned (.tuple #[])/\u'=.panicking [{v:=.iface 178 (.agg #[.int .i64 (plE ps k (ws.length-u4.length):Int)]),recovered:=true}]/\w'.cell? ⟨w,0,none⟩=some (.slice none 0 0)/\w'.cell? ⟨w.heap.size+1,0,none⟩=some (.int .i64 (plE ps k (ws.length-u4.length):Int))/\w'.cell? ⟨w.heap.size+1+1,0,none⟩=some (.iface 50 (.int .i64 5))/\z8o ws (plE ps k) B w (.returned (.tuple #[.slice none 0 0,.int .i64 (plE ps k (ws.length-u4.length):Int),.iface 50 (.int .i64 5)])) w'):=by
      refine(z4g w.heap.size (w.heap.size+1) (w.heap.size+1+1) _ E _ _ _ (by rw[Lib.cell_of_heap x0];rfl) (by rw[Lib.cell_of_heap x1];rfl) (by rw[Lib.cell_of_heap x2];rfl) (Lib.frozen_of_heap x0 0) (Lib.frozen_of_heap x1 0) (Lib.frozen_of_heap x2 0) (by omega) (by omega) (by omega) (by omega) (by omega) (by omega)).mono ?_;rintro e u' w'⟨r1,r2,r3,r4,r5,r6⟩;exact⟨r1,r2,r3,r4,r5,.bad (a.o.pg _ (pg4 pv G)) (Ad.trans (r6 B (by omega) (by omega) (by omega)))⟩
     clear Q x0 x1 x2 Ad pg4 bt4 hK;generalize plE ps k (ws.length-u4.length)=pp at Aa⊢;go_wp2;refine leaves_cons (f:=116) (args:=#[.pointer (some ⟨w,0,none⟩),.pointer (some ⟨w.heap.size+1,0,none⟩),.pointer (some ⟨w.heap.size+1+1,0,none⟩)]) (by simp) (by simp[go_sem]) ?_;refine Aa.o.mono ?_;rintro e u' w'⟨rfl,rfl,r3,r4,r5,r6⟩;simp[Leaves,settle,results,Tryz.results86,go_sem,r3,r4,r5];exact r6
    | @ok q4 n4 t A4 c4 _ hg=>
     obtain⟨g,rfl⟩:∃g,A4=some ⟨g,0,none⟩:=by
      cases t with
      | nil=>exact absurd rfl hg.ne
      | cons y r=>exact k1g hg.o
     have D:Hid (y7r ⟨gw,c5,ga,c7⟩ ws (plE ps k) B w.heap.size rb w q4 n4 G (.slice A n c) t g c4 E):=y6c a.o hH V hg;have Ah:Hid (q<q4/\q4<=ws.length):=⟨hg.lt,hg.rd.le⟩;have Aw:=D.o.sz;have e4:E.cell? ⟨w,0,none⟩=some (.slice A n c):=by rw[Lib.cell_of_heap D.o.b0];rfl
     have Bz:w.heap.size<E.heap.size:=by omega
     have Ax:=hg.l;generalize R:t.length=tl at Ax;have Ai:Hid (t.length=tl):=R
     have U:Hid (z1c (rb+1) (.slice A n c) G (E.alloc (.cells #[.slice (some ⟨g,0,none⟩) tl c4] 82))/\q1p (rb+1) (.slice (some ⟨g,0,none⟩) tl c4) t (E.alloc (.cells #[.slice (some ⟨g,0,none⟩) tl c4] 82))/\(E.alloc (.cells #[.slice (some ⟨g,0,none⟩) tl c4] 82)).cell? ⟨E,0,none⟩=some (.slice (some ⟨g,0,none⟩) tl c4)):=by
      have h8:=j7k D.o.o D.o.tt;rw[R]at h8;exact h8
     clear hg R;refine hK _ _ ?_;clear hK K;refine wpAny_ready (rs:=[2]) (by kernel_rfl) (by simp) ?_;refine AllReady.cons rfl (fun K hK=>?_) AllReady.nil
     go_simp
     refine hK _ _ ?_;clear hK K;refine wpAny_ready (rs:=[3]) (by kernel_rfl) (by simp) ?_;refine AllReady.cons rfl (fun K hK=>?_) AllReady.nil;refine q6u rfl _ _ rfl (rb+1) (.slice A n c) G rfl U.o.1 E.heap.size g tl c4 t Ai.o rfl U.o.2.2 U.o.2.1 (n+1) (by rw[Z.o]) (by omega) (by rw[World.size_alloc];omega) ?_;intro A6 c6 u I C;have J:=y2j D.o hH V Ak m d I C;have N:=hid J
     have d6:u.cell? ⟨w,0,none⟩=some (.slice A n c):=by
      have H:Below (rb+1) E u:=((q1c E _).mono (by omega)).grown C (by rw[World.size_alloc];omega) (fun k hk=>D.o.o.own_le hk);rw[Lib.cell_of_heap ((H.block _ (by omega)).trans D.o.b0)];rfl
     have f6:u.frozen? ⟨w,0,none⟩=false:=by
      have H:Below (rb+1) E u:=((q1c E _).mono (by omega)).grown C (by rw[World.size_alloc];omega) (fun k hk=>D.o.o.own_le hk);exact Lib.frozen_of_heap ((H.block _ (by omega)).trans D.o.b0) 0
     clear J I C;refine hK _ _ ?_;clear hK K;refine wpAny_ready (rs:=[4]) (by kernel_rfl) (by simp) ?_;refine AllReady.cons rfl (fun K hK=>?_) AllReady.nil
     go_simp
     refine hK _ _ ?_;clear hK K;refine wpAny_done (by kernel_rfl) ?_ _;go_wp2;refine⟨⟨_,_,G++[t],A6,n+1,c6,by rw[List.length_append,Z.o];rfl,N.o⟩,?_⟩;rw[N.o.rd.len_eq,a.o.rd.len_eq]
     have:=Ah.o
     omega
   ·go_simp
    refine A8.o.mono ?_;intro e E hG;cases hG with
    | @bad u4 _ pg4 bt4=>
     have Aw:wr.heap.size<=E.heap.size:=bt4.size;have Q:But wr rb wr E:=bt4.undrew;have x0:E.heap[w.heap.size]?=some (.cells #[.slice A n c] 28 (0,0)):=(Q.block _ (by omega) (by omega)).trans a.o.b0;have x1:E.heap[w.heap.size+1]?=some (.cells #[.int .i64 0] 3 (0,0)):=(Q.block _ (by omega) (by omega)).trans a.o.b1;have x2:E.heap[w.heap.size+2]?=some (.cells #[.nilIface] 43 (0,0)):=(Q.block _ (by omega) (by omega)).trans a.o.b2;have Ad:Below B w E:=a.o.bl.trans (Q.low (by omega) V)
     have Aa:Hid (CallsD prog 116 #[.pointer (some ⟨w,0,none⟩),.pointer (some ⟨w.heap.size+1,0,none⟩),.pointer (some ⟨w.heap.size+1+1,0,none⟩)] (.panicking [q4c (plE ps k (ws.length-u4.length))]) E fun e u' w'=>e=.returned (.tuple #[])/\u'=.panicking [{v:=.iface 178 (.agg #[.int .i64 (plE ps k (ws.length-u4.length):Int)]),recovered:=true}]/\w'.cell? ⟨w,0,none⟩=some (.slice none 0 0)/\w'.cell? ⟨w.heap.size+1,0,none⟩=some (.int .i64 (plE ps k (ws.length-u4.length):Int))/\w'.cell? ⟨w.heap.size+1+1,0,none⟩=some (.iface 50 (.int .i64 5))/\z8o ws (plE ps k) B w (.returned (.tuple #[.slice none 0 0,.int .i64 (plE ps k (ws.length-u4.length):Int),.iface 50 (.int .i64 5)])) w'):=by
      refine(z4g w.heap.size (w.heap.size+1) (w.heap.size+1+1) _ E _ _ _ (by rw[Lib.cell_of_heap x0];rfl) (by rw[Lib.cell_of_heap x1];rfl) (by rw[Lib.cell_of_heap x2];rfl) (Lib.frozen_of_heap x0 0) (Lib.frozen_of_heap x1 0) (Lib.frozen_of_heap x2 0) (by omega) (by omega) (by omega) (by omega) (by omega) (by omega)).mono ?_;rintro e u' w'⟨r1,r2,r3,r4,r5,r6⟩;exact⟨r1,r2,r3,r4,r5,.bad (a.o.pg _ (pg4 pv G)) (Ad.trans (r6 B (by omega) (by omega) (by omega)))⟩
     clear Q x0 x1 x2 Ad pg4 bt4 hK;generalize plE ps k (ws.length-u4.length)=pp at Aa⊢;go_wp2;refine leaves_cons (f:=116) (args:=#[.pointer (some ⟨w,0,none⟩),.pointer (some ⟨w.heap.size+1,0,none⟩),.pointer (some ⟨w.heap.size+1+1,0,none⟩)]) (by simp) (by simp[go_sem]) ?_;refine Aa.o.mono ?_;rintro e u' w'⟨rfl,rfl,r3,r4,r5,r6⟩;simp[Leaves,settle,results,Tryz.results86,go_sem,r3,r4,r5];exact r6
    | @ok q4 n4 t A4 c4 _ hg=>
     obtain⟨g,rfl⟩:∃g,A4=some ⟨g,0,none⟩:=by
      cases t with
      | nil=>exact absurd rfl hg.ne
      | cons y r=>exact k1g hg.o
     have D:Hid (y7r ⟨gw,c5,ga,c7⟩ ws (plE ps k) B w.heap.size rb w q4 n4 G (.slice A n c) t g c4 E):=y6c a.o hH V hg;have Ah:Hid (q<q4/\q4<=ws.length):=⟨hg.lt,hg.rd.le⟩;have Aw:=D.o.sz;have e4:E.cell? ⟨w,0,none⟩=some (.slice A n c):=by rw[Lib.cell_of_heap D.o.b0];rfl
     have Bz:w.heap.size<E.heap.size:=by omega
     have Ax:=hg.l;generalize R:t.length=tl at Ax;have Ai:Hid (t.length=tl):=R
     have U:Hid (z1c (rb+1) (.slice A n c) G (E.alloc (.cells #[.slice (some ⟨g,0,none⟩) tl c4] 82))/\q1p (rb+1) (.slice (some ⟨g,0,none⟩) tl c4) t (E.alloc (.cells #[.slice (some ⟨g,0,none⟩) tl c4] 82))/\(E.alloc (.cells #[.slice (some ⟨g,0,none⟩) tl c4] 82)).cell? ⟨E,0,none⟩=some (.slice (some ⟨g,0,none⟩) tl c4)):=by
      have h8:=j7k D.o.o D.o.tt;rw[R]at h8;exact h8
     clear hg R;refine hK _ _ ?_;clear hK K;refine wpAny_ready (rs:=[0,2]) (by kernel_rfl) (by simp) ?_;refine AllReady.cons rfl (fun K hK=>?_) (AllReady.cons rfl (fun K hK=>?_) AllReady.nil)
     ·go_simp
      refine hK _ _ ?_;clear hK K;refine wpAny_ready (rs:=[2]) (by kernel_rfl) (by simp) ?_;refine AllReady.cons rfl (fun K hK=>?_) AllReady.nil
      go_simp
      refine hK _ _ ?_;clear hK K;refine wpAny_ready (rs:=[3]) (by kernel_rfl) (by simp) ?_;refine AllReady.cons rfl (fun K hK=>?_) AllReady.nil;refine q6u rfl _ _ rfl (rb+1) (.slice A n c) G rfl U.o.1 E.heap.size g tl c4 t Ai.o rfl U.o.2.2 U.o.2.1 (n+1) (by rw[Z.o]) (by omega) (by rw[World.size_alloc];omega) ?_;intro A6 c6 u I C;have J:=y2j D.o hH V Ak m d I C;have N:=hid J
      have d6:u.cell? ⟨w,0,none⟩=some (.slice A n c):=by
       have H:Below (rb+1) E u:=((q1c E _).mono (by omega)).grown C (by rw[World.size_alloc];omega) (fun k hk=>D.o.o.own_le hk);rw[Lib.cell_of_heap ((H.block _ (by omega)).trans D.o.b0)];rfl
      have f6:u.frozen? ⟨w,0,none⟩=false:=by
       have H:Below (rb+1) E u:=((q1c E _).mono (by omega)).grown C (by rw[World.size_alloc];omega) (fun k hk=>D.o.o.own_le hk);exact Lib.frozen_of_heap ((H.block _ (by omega)).trans D.o.b0) 0
      clear J I C;refine hK _ _ ?_;clear hK K;refine wpAny_ready (rs:=[4]) (by kernel_rfl) (by simp) ?_;refine AllReady.cons rfl (fun K hK=>?_) AllReady.nil
      go_simp
      refine hK _ _ ?_;clear hK K;refine wpAny_done (by kernel_rfl) ?_ _;go_wp2;refine⟨⟨_,_,G++[t],A6,n+1,c6,by rw[List.length_append,Z.o];rfl,N.o⟩,?_⟩;rw[N.o.rd.len_eq,a.o.rd.len_eq]
      have:=Ah.o
      omega
     ·go_simp
      refine hK _ _ ?_;clear hK K;refine wpAny_ready (rs:=[0]) (by kernel_rfl) (by simp) ?_;refine AllReady.cons rfl (fun K hK=>?_) AllReady.nil
      go_simp
      refine hK _ _ ?_;clear hK K;refine wpAny_ready (rs:=[3]) (by kernel_rfl) (by simp) ?_;refine AllReady.cons rfl (fun K hK=>?_) AllReady.nil;refine q6u rfl _ _ rfl (rb+1) (.slice A n c) G rfl U.o.1 E.heap.size g tl c4 t Ai.o rfl U.o.2.2 U.o.2.1 (n+1) (by rw[Z.o]) (by omega) (by rw[World.size_alloc];omega) ?_;intro A6 c6 u I C;have J:=y2j D.o hH V Ak m d I C;have N:=hid J
      have d6:u.cell? ⟨w,0,none⟩=some (.slice A n c):=by
       have H:Below (rb+1) E u:=((q1c E _).mono (by omega)).grown C (by rw[World.size_alloc];omega) (fun k hk=>D.o.o.own_le hk);rw[Lib.cell_of_heap ((H.block _ (by omega)).trans D.o.b0)];rfl
      have f6:u.frozen? ⟨w,0,none⟩=false:=by
       have H:Below (rb+1) E u:=((q1c E _).mono (by omega)).grown C (by rw[World.size_alloc];omega) (fun k hk=>D.o.o.own_le hk);exact Lib.frozen_of_heap ((H.block _ (by omega)).trans D.o.b0) 0
      clear J I C;refine hK _ _ ?_;clear hK K;refine wpAny_ready (rs:=[4]) (by kernel_rfl) (by simp) ?_;refine AllReady.cons rfl (fun K hK=>?_) AllReady.nil
      go_simp
      refine hK _ _ ?_;clear hK K;refine wpAny_done (by kernel_rfl) ?_ _;go_wp2;refine⟨⟨_,_,G++[t],A6,n+1,c6,by rw[List.length_append,Z.o];rfl,N.o⟩,?_⟩;rw[N.o.rd.len_eq,a.o.rd.len_eq]
      have:=Ah.o
      omega
  ·have B7:q=ws.length:=by omega
   rw[q5q (by omega)]at z;have Al:wbS []=⟨#[]⟩:=rfl;rw[Al]at z;have Bd:ws.drop q=[]:=List.drop_eq_nil_of_le (by omega);have Bj:PG false [] ws (.ok G):=X.pg _ (by rw[Bd];exact .done);have x1:wr.heap[w.heap.size+1]?=some (.cells #[.int .i64 0] 3 (0,0)):=X.b1;have x2:wr.heap[w.heap.size+1+1]?=some (.cells #[.nilIface] 43 (0,0)):=X.b2;have e1:wr.cell? ⟨w.heap.size+1,0,none⟩=some (.int .i64 0):=by rw[Lib.cell_of_heap x1];rfl
   have e2:wr.cell? ⟨w.heap.size+1+1,0,none⟩=some .nilIface:=by rw[Lib.cell_of_heap x2];rfl
   have f1:wr.frozen? ⟨w.heap.size+1,0,none⟩=false:=Lib.frozen_of_heap x1 0;have f2:wr.frozen? ⟨w.heap.size+1+1,0,none⟩=false:=Lib.frozen_of_heap x2 0;have Bu:Hid (z1c (rb+1) (.slice A n c) G wr):=X.o;have Bs:Hid (Below B w wr):=X.bl;have Bt:Hid (PG false [] ws (.ok G)):=Bj;clear X b Bd Bj Al x1 x2;go_wp2_with fail;refine z.o.mono ?_;rintro e w1⟨rfl,rfl⟩;go_wp2;generalize hW:((wr.setCell ⟨w,0,none⟩ (.slice A n c)).setCell ⟨w.heap.size+1,0,none⟩ (.int .i64 0)).setCell ⟨w.heap.size+1+1,0,none⟩ .nilIface=W;have hz:W.heap.size=wr.heap.size:=by rw[<-hW,World.size_setCell,World.size_setCell,World.size_setCell]
   have r1:W.cell? ⟨w,0,none⟩=some (.slice A n c):=by
    rw[<-hW];exact(cso (.inl (by omega))).trans ((cso (.inl (by omega))).trans (css e0))
   have r2:W.cell? ⟨w.heap.size+1,0,none⟩=some (.int .i64 0):=by
    rw[<-hW];exact(cso (.inl (by omega))).trans (css ((cso (.inl (by omega))).trans e1))
   have r3:W.cell? ⟨w.heap.size+1+1,0,none⟩=some .nilIface:=by
    rw[<-hW];exact css ((cso (.inl (by omega))).trans ((cso (.inl (by omega))).trans e2))
   have By:∀j,rb+1<=j->W.heap[j]?=wr.heap[j]?:=fun j hj=>by
    rw[<-hW];exact(Below.heap_setCell _ _ _ _ (by show j≠w.heap.size+1+1;omega)).trans ((Below.heap_setCell _ _ _ _ (by show j≠w.heap.size+1;omega)).trans (Below.heap_setCell _ _ _ _ (by show j≠w.heap.size;omega)))
   have Bx:Below B w W:=by
    rw[<-hW];exact((Bs.o.setCell (p:=⟨w,0,none⟩) Ak _).setCell (p:=⟨w.heap.size+1,0,none⟩) (by show B<=w.heap.size+1;omega) _).setCell (p:=⟨w.heap.size+1+1,0,none⟩) (by show B<=w.heap.size+1+1;omega) _
   have Bi:z1c (rb+1) (.slice A n c) G W:=Bu.o.kept fun j h1 _=>By j h1
   clear hW;refine leaves_cons (f:=116) (args:=#[.pointer (some ⟨w,0,none⟩),.pointer (some ⟨w.heap.size+1,0,none⟩),.pointer (some ⟨w.heap.size+1+1,0,none⟩)]) (by simp) (by simp[go_sem]) ?_;refine(k4g ⟨w,0,none⟩ ⟨w.heap.size+1,0,none⟩ ⟨w.heap.size+1+1,0,none⟩ W).mono ?_;rintro e u' w'⟨rfl,rfl,bW⟩;obtain⟨Aq,_⟩:=q0t bW;have q1:=(Aq w.heap.size 0 (by omega)).trans r1;have q2:=(Aq (w.heap.size+1) 0 (by omega)).trans r2;have q3:=(Aq (w.heap.size+1+1) 0 (by omega)).trans r3
   have J:z8o ws (plE ps k) B w (.returned (.tuple #[.slice A n c,.int .i64 0,.nilIface])) w':=by
    have hn:=Z.o;subst hn;exact .ok Bt.o (Bi.prg.W bW) Bi.cell.2.1 (Bx.trans (bW.mono (by omega)))
   simp[Leaves,settle,results,Tryz.results86,go_sem,q1,q2,q3];exact J
abbrev y9y:Prop:=∀(t:List Td)(a:Option Addr)(cap:Nat)(wd:Int)(w:World),t.length<=cap->Tds w a t->z4i t->q7n w->
 Calls prog 89 #[.slice a t.length cap,.int .i64 wd] w fun e w'=>e=.returned (.tuple #[.string (j9y t wd),q0s (k0d t wd)])/\Below w w w'
def z2f(s:ByteArray)(wd:Int)(w:World)(e:Ending)(w':World):Prop:=∃T k f,e=.returned (.tuple #[.string T,.int .i64 k,q0s f])/\j9w s wd T k f/\Below w w w'
abbrev y9p:Prop:=∀(s:ByteArray)(wd:Int)(w:World),q7n w->Calls prog 65 #[.string s,.int .i64 wd] w fun e w'=>z2f s wd w e w'
theorem z7r{t:List Td}{wd:Int}(h:k0d t wd≠0):j9y t wd=⟨#[]⟩:=by rw[j9y,if_neg h]
theorem k3l{t:List Td}{n:Nat}(h:k0d t (n:Int)=0):j9y t (n:Int)=wbS (q5g n t):=by rw[j9y,if_pos h];rfl
theorem k5x{n:Nat}(h1:10<=n)(h2:n<=100):¬((n:Int)<10\/100<(n:Int)):=by omega
theorem y2l{t:List Td}{a:Option Addr}{A:Nat}{w:World}(hc:t.length<=A)(hN:Tds w a t):Prg (w.alloc (.cells #[.slice a t.length A] 82)) (some ⟨w,0,none⟩) [t]:=by
 intro i C;have B:i=0:=by simp at C;exact C
 subst B;refine⟨w.heap.size,0,a,A,rfl,by rw[World.size_alloc];omega,?_,hc,hN.alloc _⟩
 have D:(w.alloc (.cells #[.slice a t.length A] 82)).heap[w.heap.size]?=some (.cells #[.slice a t.length A] 82):=by
  show(w.heap.push _)[w.heap.size]?=_
  simp
 simp only[World.cell?,Option.isSome_none,Bool.false_eq_true,if_false,D,Nat.zero_add];rfl
end Go.Proofs.YtelcnplcpboonaaGreatDoor
