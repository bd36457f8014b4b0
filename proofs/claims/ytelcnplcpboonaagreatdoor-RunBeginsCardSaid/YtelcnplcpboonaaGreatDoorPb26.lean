import Derived.Test.YtelcnplcpboonaaGreatDoorPb24
import Derived.Test.YtelcnplcpboonaaGreatDoorPb18
import Derived.RegionDies
import Derived.Recover
open Go.Proofs.Tryz
namespace Go.Proofs.YtelcnplcpboonaaGreatDoor
open Go Go.RowKit
set_option maxRecDepth 100000
set_option maxHeartbeats 8000000
section
variable {K:LwK} {ws:List Wd} {pl:Nat→Nat} {b p q:Nat} {w:World}
theorem v5r(D:∀x∈ws,q3q x)(hq:q<ws.length)(hn:nmW ws[q]=true)(h:Ry K ws pl b q w):
  Calls prog 148 #[.pointer (some ⟨b,0,none⟩)] w fun e w'=>e=.returned (.string (wbS ws[q]))/\Ry K ws pl b (q+1) w'/\But w b w w':=by
 obtain⟨G,_,C⟩:=v5p h (q3d hq) (.inr (D _ (List.getElem_mem hq)));rw[hn]at C;have A:=(show Hid (Calls _ _ _ _ _)from G);have B:=(show Hid (Calls _ _ _ _ _)from C);have E:Hid (Calls prog 183 #[.pointer (some ⟨b,0,none⟩)] w fun e w'=>e=.returned (.string (wbS ws[q]))/\Ry K ws pl b (q+1) w'/\But w b w w'):=q6y h hq;generalize wbS ws[q]=S at A B E⊢;clear G C h hn;go_in;go_wp2_with fail;refine A.o.mono ?_;rintro e J⟨rfl,rfl⟩;go_wp2_with fail;refine B.o.mono ?_;rintro e J⟨rfl,rfl⟩;go_wp2_with fail;refine E.o.mono ?_;rintro e J⟨rfl,I,H⟩;have L:=hid (And.intro I H);clear I H;go_wp2;go_ret;exact⟨rfl,L.o⟩
theorem v5q(G:∀x∈ws,q3q x)(hn:∀x,ws[q]?=some x->nmW x=false)(h:Ry K ws pl b q w):
  Calls prog 148 #[.pointer (some ⟨b,0,none⟩)] w fun e w'=>e=.panicked [q4c (pl q)]/\w=w':=by
 have J:(ws.getD q [])=[]\/q3q (ws.getD q []):=by
  by_cases D:q<ws.length
  ·rw[q3d D];exact .inr (G _ (List.getElem_mem D))
  ·exact .inl (q5q (by omega))
 have C:nmW (ws.getD q [])=false:=by
  by_cases D:q<ws.length
  ·rw[q3d D];exact hn _ (List.getElem?_eq_getElem D)
  ·rw[q5q (by omega)];decide
 obtain⟨I,_,E⟩:=v5p h rfl J;rw[C]at E;have A:=(show Hid (Calls _ _ _ _ _)from I);have B:=(show Hid (Calls _ _ _ _ _)from E);have H:Hid (Calls prog 185 #[.pointer (some ⟨b,0,none⟩)] w fun e w'=>e=.panicked [q4c (pl q)]/\w=w'):=(k1l h).mono fun _ _ h=>⟨h.1,h.2.symm⟩
 generalize wbS (ws.getD q [])=S at A B;generalize pl q=pp at H⊢;clear I E h hn J C;go_in;go_wp2_with fail;refine A.o.mono ?_;rintro e L⟨rfl,rfl⟩;go_wp2_with fail;refine B.o.mono ?_;rintro e L⟨rfl,rfl⟩;go_wp2_with fail;refine H.o.mono ?_;rintro e L⟨rfl,rfl⟩;go_wp2;exact⟨rfl,rfl,rfl⟩
theorem j7t(h:j0z K ws pl b q):(∃m ns u,PR (.level 0) (ws.drop q) (.ok m ns u)/\∀w:World,Ry K ws pl b q w->Calls prog 150 #[.pointer (some ⟨b,0,none⟩)] w fun e w'=>∃A c,e=.returned (.slice A ns.length c)/\v0b K ws pl b (.level 0) q w m ns u (.slice A ns.length c) w')\/
  (∀w:World,Ry K ws pl b q w->Calls prog 150 #[.pointer (some ⟨b,0,none⟩)] w fun e w'=>∃u,e=.panicked [q4c (pl (ws.length-u.length))]/\PR (.level 0) (ws.drop q) (.bad u)/\But w b w w'):=by
 by_cases C:∃m ns u,PR (.level 0) (ws.drop q) (.ok m ns u)
 ·obtain⟨m,ns,u,B⟩:=C;refine .inl ⟨m,ns,u,B,fun w hw=>(h w hw).mono fun e w' hG=>?_⟩;cases hG with
  | bad pr _=>cases q2k B pr
  | @ok m2 ns2 u2 A c _ hg=>
   cases q2k B hg.pr;exact⟨A,c,rfl,hg⟩
 ·refine .inr fun w hw=>(h w hw).mono fun e w' hG=>?_
  cases hG with
  | @bad u _ pr bt=>exact⟨u,rfl,pr,bt⟩
  | ok hg=>exact absurd ⟨_,_,_,hg.pr⟩ C
structure z8m(K:LwK)(ws:List Wd)(pl:Nat->Nat)(b:Nat)(w:World)(q:Nat)(x:Td)(wc:World):Prop where
 rd:Ry K ws pl b q wc
 bt:But w b w wc
 bx:wc.heap[w.heap.size]?=some (.cells #[.int .i64 x.op,.string x.tx,.int .i64 x.n] 81 (0,0))
 gw:K.gw<w.heap.size
 ga:K.ga<w.heap.size
 lb:b<w.heap.size
theorem z8m.but{x:Td}{wc w':World}{q':Nat}(h:z8m K ws pl b w q x wc)(hb:But wc b wc w')(hr:Ry K ws pl b q' w'):z8m K ws pl b w q' x w':=by
 have A:=(Array.getElem?_eq_some_iff.1 h.bx).1
 have:=h.lb
 exact⟨hr,h.bt.trans (hb.mono (by omega)),(hb.block _ A (by omega)).trans h.bx,h.gw,h.ga,h.lb⟩
theorem z8m.put{x:Td}{wc:World}(h:z8m K ws pl b w q x wc)(y:Td):z8m K ws pl b w q y (((wc.setCell ⟨w,0,none⟩ (.int .i64 y.op)).setCell ⟨w,1,none⟩ (.string y.tx)).setCell ⟨w,2,none⟩ (.int .i64 y.n)):=by
 have A:=h.gw;have B:=h.ga;have C:=h.lb;refine⟨((h.rd.far (by omega) (by omega) (by omega)).far (by omega) (by omega) (by omega)).far (by omega) (by omega) (by omega),((h.bt.setCell (p:=⟨w,0,none⟩) (.inr Zl) _).setCell (p:=⟨w,1,none⟩) (.inr Zl) _).setCell (p:=⟨w,2,none⟩) (.inr Zl) _,?_,A,B,C⟩;simp[World.setCell,Array.getElem?_modify,h.bx]
structure v7z(K:LwK)(ws:List Wd)(pl:Nat->Nat)(b p:Nat)(w:World)(q:Nat)(x:Td)(wc:World):Prop where
 le:p<=q
 rd:Ry K ws pl b q wc
 bt:But w b w wc
 bx:wc.heap[w.heap.size]?=some (.cells #[.int .i64 x.op,.string x.tx,.int .i64 x.n] 81 (0,0))
 ok:∀m ns u,PR (.level 0) (ws.drop q) (.ok m ns ([59]::u))->∀pv acc r,PG false (acc++[x::ns]) u r->PG pv acc (ws.drop p) r
 bad1:∀u,PR (.level 0) (ws.drop q) (.bad u)->∀pv acc,PG pv acc (ws.drop p) (.bad u)
 bad2:∀m ns u,PR (.level 0) (ws.drop q) (.ok m ns u)->u.head?≠some [59]->∀pv acc,PG pv acc (ws.drop p) (.bad u)
theorem v7z.kept{x:Td}{wc w':World}(h:v7z K ws pl b p w q x wc)(hb:Below wc wc w')(hw:w.heap.size<=wc.heap.size):v7z K ws pl b p w q x w':=
 ⟨h.le,h.rd.keep hb,h.bt.trans (But.of (hb.mono hw)),(hb.block _ (Array.getElem?_eq_some_iff.1 h.bx).1).trans h.bx,h.ok,h.bad1,h.bad2⟩
structure k7k(K:LwK)(ws:List Wd)(pl:Nat->Nat)(b:Nat)(w:World)(q:Nat)(t:List Td)(v:Value)(w':World):Prop where
 o:q1p w v t w'
 rd:Ry K ws pl b q w'
 bt:But w b w w'
 sz:w.heap.size<=w'.heap.size
theorem k7k.grown{t t2:List Td}{v v2 v3:Value}{w1 w2:World}(h:k7k K ws pl b w q t v w1)(hw:w.heap.size<=w1.heap.size)(hb:b<w.heap.size)(C:K.gw<w.heap.size)(B:K.ga<w.heap.size)(hg:w1.grownBy w2 v2.ownBlock)(ho:∀k,v2.ownBlock=some k->w.heap.size<=k)(ht:q1p w v3 t2 w2):k7k K ws pl b w q t2 v3 w2:=by
 have A:Below w w1 w2:= Zb.grown hg hw ho;exact⟨ht,h.rd.keepB A hb C B,h.bt.trans (But.of A),Nat.le_trans hw hg.size⟩
end
theorem j9s{K:LwK}{ws:List Wd}{pl:Nat->Nat}{b p:Nat}{w:World}(j:∀x∈ws,q3q x)(l:(ws.map List.length).sum<=60000)(hp:p<ws.length)(Ak:∀w',But w b w w'->q7n w')(h:Ry K ws pl b p w):
  Calls prog 118 #[.pointer (some ⟨b,0,none⟩)] w fun e w'=>q9t K ws pl b p w e w':=by
 have hX:=q3d hp
 have i:Hid (Calls prog 117 #[.pointer (some ⟨b,0,none⟩)] w fun e w'=>e=.returned (.string (wbS ws[p]))/\w=w'):=by
  have v:=(q5m h).mono fun _ _ h=>And.intro h.1 h.2.symm
  rw[hX]at v;exact v
 have U:Hid (Calls prog 145 #[.string (wbS ws[p])] w fun e w'=>e=.returned (.bool (decide (ws[p].headD 0=35)))/\w=w'):=(z4h _ w).mono fun _ _ h=>⟨h.1,h.2.symm⟩
 have Y:b<w.heap.size:=h.row.lt;have z:=h.gwlt;have y:=h.galt;have A3:=h.few;by_cases d:ws[p].headD 0=35
 ·rw[decide_eq_true d]at U;have HN:Hid (Calls prog 146 #[.pointer (some ⟨b,0,none⟩)] w fun e w'=>q9t K ws pl b p w e w'):=j0p j l hp d Ak h;generalize wbS ws[p]=S at i U;clear h j Ak hX d l;go_in;go_wp2_with fail;refine i.o.mono ?_;rintro e w1⟨rfl,rfl⟩;go_wp2_with fail;refine U.o.mono ?_;rintro e w1⟨rfl,rfl⟩;go_wp2_with fail;refine HN.o.mono ?_;intro e w1 hG;cases hG with
  | @bad u _ pg bt=>
   have HB:Hid (q9t K ws pl b p w (.panicked [q4c (pl (ws.length-u.length))]) w1):=.bad pg bt;clear pg bt;go_wp2;exact⟨rfl,HB.o⟩
  | @ok q n t A c _ hg=>
   have HB:Hid (q9t K ws pl b p w (.returned (.slice A t.length c)) w1):=.ok hg;clear hg;generalize t.length=nl at HB⊢;go_wp2;go_ret;exact HB.o
 ·rw[decide_eq_false d]at U;have Ag:Ry K ws pl b p (w.alloc (.cells #[.int .i64 8,.string ⟨#[]⟩,.int .i64 0] 81)):=h.keep (q1c w _);have HD:Hid (ws.drop p=ws[p]::ws.drop (p+1)):=q3w hp;by_cases M:ws[p]=z1o
  ·have hm:ws[p]?=some z1o:=by rw[List.getElem?_eq_getElem hp,M]
   have HH:Hid (Calls prog 147 #[.pointer (some ⟨b,0,none⟩),.string ⟨#[108,101,116]⟩] (w.alloc (.cells #[.int .i64 8,.string ⟨#[]⟩,.int .i64 0] 81)) fun e w'=>e=.returned (.bool true)/\z8m K ws pl b w (p+1) doT w'):=by
    refine(q6f Ag z1o hm).mono ?_;rintro e w'⟨rfl,v,b1⟩;exact⟨rfl,z8m.but (q:=p) ⟨Ag,But.of (q1c w _),heap_alloc_new w _,z,y,Y⟩ b1 v⟩
   have Ae:Hid (ws.drop p=z1o::ws.drop (p+1)):=by
    show _=_;rw[HD.o,M]
   by_cases a:∃h:p+1<ws.length,nmW ws[p+1]=true
   ·obtain⟨Aw,a⟩:=a;have Aj:Hid (ws.drop (p+1)=ws[p+1]::ws.drop (p+2)):=q3w Aw
    have HN:Hid (∀W,z8m K ws pl b w (p+1) doT W->Calls prog 148 #[.pointer (some ⟨b,0,none⟩)] W fun e w'=>e=.returned (.string (wbS ws[p+1]))/\z8m K ws pl b w (p+2) doT w'):=fun W hW=>by
     refine(v5r j Aw a hW.rd).mono ?_;rintro e w'⟨rfl,v,b1⟩;exact⟨rfl,hW.but b1 v⟩
    by_cases Al:ws[p+2]?=some [61]
    ·obtain⟨Az,Av⟩:=List.getElem?_eq_some_iff.1 Al
     have Ap:Hid (ws.drop (p+2)=[61]::ws.drop (p+3)):=by
      show _=_;rw[q3w Az,Av]
     have HM:Hid (∀W,z8m K ws pl b w (p+2) (j0r ws[p+1]) W->Calls prog 149 #[.pointer (some ⟨b,0,none⟩),.string ⟨#[61]⟩] W fun e w'=>e=.returned (.tuple #[])/\v7z K ws pl b p w (p+3) (j0r ws[p+1]) w'):=fun W hW=>by
      refine(q5l hW.rd [61] Al).mono ?_;rintro e w'⟨rfl,v,b1⟩;have h2:=hW.but b1 v;refine⟨rfl,by omega,h2.rd,h2.bt,h2.bx,fun m I u G pv acc r hr=>?_,fun u G pv acc=>?_,fun m I u G hu pv acc=>?_⟩
      ·rw[Ae.o,Aj.o,Ap.o];exact .letO a G hr
      ·rw[Ae.o,Aj.o,Ap.o];exact .letB a G
      ·rw[Ae.o,Aj.o,Ap.o];exact .letX a G hu
     have Ar:Hid (j0z K ws pl b (p+3)):=k7j j (by omega);have Af:Hid (∀wc,z8m K ws pl b w (p+2) doT wc->z8m K ws pl b w (p+2) (j0r ws[p+1]) (((wc.setCell ⟨w,0,none⟩ (.int .i64 7)).setCell ⟨w,1,none⟩ (.string (wbS ws[p+1]))).setCell ⟨w,2,none⟩ (.int .i64 0))):=fun wc h=>h.put (j0r ws[p+1])
     have Aq:Hid ((j0r ws[p+1])=⟨7,wbS ws[p+1],0⟩):=rfl;generalize j0r ws[p+1]=xL at HM Af Aq;generalize wbS ws[p+1]=S1 at HN Af Aq;generalize wbS ws[p]=S at i U;clear h j Ak hX d l Ag M hm a Al Av HD Aj Ap Ae;go_in;go_wp2_with fail;refine i.o.mono ?_;rintro e w1⟨rfl,rfl⟩;go_wp2_with fail;refine U.o.mono ?_;rintro e w1⟨rfl,rfl⟩;go_wp2_with fail;refine HH.o.mono ?_;rintro e w1⟨rfl,v⟩;have K1:=hid v;clear v HH;go_wp2_with fail;refine(HN.o _ K1.o).mono ?_;rintro e w2⟨rfl,h2⟩;have K2:=hid h2;have N:=h2.bx;have d0:w2.cell? ⟨w,0,none⟩=some (.int .i64 8):=by rw[Lib.cell_of_heap N];rfl
     have d1:w2.cell? ⟨w,1,none⟩=some (.string ⟨#[]⟩):=by rw[Lib.cell_of_heap N];rfl
     have d2:w2.cell? ⟨w,2,none⟩=some (.int .i64 0):=by rw[Lib.cell_of_heap N];rfl
     have f0:w2.frozen? ⟨w,0,none⟩=false:=Lib.frozen_of_heap N 0;have f1:w2.frozen? ⟨w,1,none⟩=false:=Lib.frozen_of_heap N 1;have f2:w2.frozen? ⟨w,2,none⟩=false:=Lib.frozen_of_heap N 2;clear h2 N K1 HN;go_wp2_with fail;refine(HM.o _ (Af.o _ K2.o)).mono ?_;rintro e wc⟨rfl,hS⟩;have P:Hid (v7z K ws pl b p w (p+3) xL wc):=hS;clear hS HM Af K2 d0 d1 d2 f0 f1 f2;have Ax:=Aq.o;subst Ax;clear Aq;have Ad:=P.o.bt.size;have A2:w.heap.size<wc.heap.size:=(Array.getElem?_eq_some_iff.1 P.o.bx).1;have Am:b<wc.heap.size:=P.o.rd.row.lt;have s:=P.o.bx;have d0:wc.cell? ⟨w,0,none⟩=some (.int .i64 7):=by rw[Lib.cell_of_heap s];rfl
     have d1:wc.cell? ⟨w,1,none⟩=some (.string S1):=by rw[Lib.cell_of_heap s];rfl
     have d2:wc.cell? ⟨w,2,none⟩=some (.int .i64 0):=by rw[Lib.cell_of_heap s];rfl
     clear s;rcases j7t Ar.o with⟨m,I,u,G,J⟩|J
     ·have Ac:=q9f G;have hu:ws.drop (ws.length-u.length)=u:=q5w Ac.1;have O:=Ac.2 m I u rfl;rw[q0e]at O;simp only[Job.eats]at O;have Ay:=P.o.le;have Au:=P.o.rd.le
      have HC:Hid (∀W,Below wc wc W->Calls prog 150 #[.pointer (some ⟨b,0,none⟩)] W fun e w'=>∃A c,e=.returned (.slice A I.length c)/\k7k K ws pl b w (ws.length-u.length) I (.slice A I.length c) w'/\I.length<=60000/\w'.heap[w.heap.size]?=some (.cells #[.int .i64 7,.string S1,.int .i64 0] 81 (0,0))/\But W b W w'):=fun W hW=>by
       refine(J W (P.o.rd.keep hW)).mono ?_;rintro e w'⟨A,c,rfl,hg⟩;have A1:=hW.size;have hK:=P.o.kept hW Ad;have A0:=hg.bt.size;have As:=hg.n;rw[q0e]at As;exact⟨A,c,rfl,⟨hg.o.down (by omega),hg.rd,hK.bt.trans (hg.bt.mono (by omega)),by omega⟩,by omega,(hg.bt.block _ (by omega) (by omega)).trans hK.bx,hg.bt⟩
      clear J;generalize Ab:I.length=nl at HC;have V:Hid (I.length=nl):=Ab;clear Ab;by_cases R:ws[ws.length-u.length]?=some [59]
      ·obtain⟨Ah,An⟩:=List.getElem?_eq_some_iff.1 R
       have Ao:u=[59]::ws.drop (ws.length-u.length+1):=by
        have Q:=q3w Ah;rw[hu,An]at Q;exact Q
       have HM:Hid (∀A c f,k7k K ws pl b w (ws.length-u.length) ((⟨7,S1,0⟩:Td)::I) (.slice A (1+nl) c) f->nl<=60000->Calls prog 149 #[.pointer (some ⟨b,0,none⟩),.string ⟨#[59]⟩] f fun e w'=>e=.returned (.tuple #[])/\q9t K ws pl b p w (.returned (.slice A (1+nl) c)) w'):=fun A c f hF hnn=>by
        refine(q5l hF.rd [59] R).mono ?_;rintro e w7⟨rfl,h7,b7⟩;have Ab:=V.o;subst Ab;have hz:=hF.sz;refine⟨rfl,?_⟩;have Z:((⟨7,S1,0⟩:Td)::I).length=1+I.length:=by rw[List.length_cons];omega
        have Ai:=G;rw[Ao]at Ai;have Q:=q9t.ok (K:=K) (ws:=ws) (pl:=pl) (b:=b) (p:=p) (w:=w) (q:=ws.length-u.length+1) (n:=false) (t:=(⟨7,S1,0⟩:Td)::I) (A:=A) (c:=c) (w':=w7) ⟨by omega,by rw[Z];exact hF.o.but2 b7 Y,by simp,by rw[Z];omega,h7,hF.bt.trans (b7.mono hz),fun pv acc r _ hr=>P.o.ok m I _ Ai pv acc r hr,fun e=>by cases e⟩;rw[Z]at Q;exact Q
       clear Ao An R Ah hu Ac O G;go_wp2_with fail
       go_region_law (first
        | (refine q1m rfl _ _ rfl w.heap.size (.slice (some ⟨wc,0,none⟩) 1 1) [(⟨7,S1,0⟩:Td)] rfl (((show q1p wc (.slice (some ⟨wc,0,none⟩) 1 1) [(⟨7,S1,0⟩:Td)] (wc.alloc _).drew from q1p.one wc (⟨7,S1,0⟩:Td)).but2 X Am).down Ad) A4 nl I V.o c4 rfl B.o.tds B.o.none.2 (1+nl) rfl (by omega) B.sz ?_;intro A6 c6 f D C;have H:=B.grown B.sz Y z y C (fun k hk=>by have e9:wc.heap.size=k:=(by simpa[Value.ownBlock]using hk);omega) D)
        | (refine q1m rfl _ _ rfl w.heap.size (.slice (some ⟨L,0,none⟩) 1 1) [(⟨7,S1,0⟩:Td)] rfl ((q1p.one L (⟨7,S1,0⟩:Td)).down B.sz) A4 nl I V.o c4 rfl (B.o.tds.alloc _) B.o.none.2 (1+nl) rfl (by omega) (by rw[World.size_alloc];have:=B.sz;omega) ?_;intro A6 c6 f D C;have H:=k7k.grown ⟨B.o.kept fun g _ h5=>Lib.alloc_old L _ g h5,B.rd.keep (q1c L _),B.bt.alloc B.sz _,by rw[World.size_alloc];have:=B.sz;omega⟩ (by rw[World.size_alloc];have:=B.sz;omega) Y z y C (fun k hk=>by have e9:L.heap.size=k:=(by simpa[Value.ownBlock]using hk);have:=B.sz;omega) D)
        | (go_simp;refine(HC.o _ (by first|exact z1m _ _|exact Below.drew Zb)).mono ?_;rintro e L⟨A4,c4,rfl,B,Aa,E,X⟩;have g0:L.cell? ⟨w,0,none⟩=some (.int .i64 7):=(by rw[Lib.cell_of_heap E];rfl);have g1:L.cell? ⟨w,1,none⟩=some (.string S1):=(by rw[Lib.cell_of_heap E];rfl);have g2:L.cell? ⟨w,2,none⟩=some (.int .i64 0):=(by rw[Lib.cell_of_heap E];rfl);clear E))
       all_goals
        have K6:=hid (HM.o _ _ _ H Aa);clear H D C Aa B X;go_wp2_with fail;refine(Calls.mono K6.o ?_);rintro e w7⟨rfl,h7⟩;have K7:Hid (q9t K ws pl b p w (.returned (.slice A6 (1+nl) c6)) w7):=h7;clear h7;go_wp2;go_ret;exact K7.o
      ·have HM:Hid (∀A c f,k7k K ws pl b w (ws.length-u.length) ((⟨7,S1,0⟩:Td)::I) (.slice A (1+nl) c) f->Calls prog 149 #[.pointer (some ⟨b,0,none⟩),.string ⟨#[59]⟩] f fun e w'=>e=.panicked [q4c (pl (ws.length-u.length))]/\q9t K ws pl b p w (.panicked [q4c (pl (ws.length-u.length))]) w'):=fun A c f hF=>by
        refine(q6g hF.rd [59] (by simp) R).mono ?_;rintro e w7⟨rfl,rfl⟩;refine⟨rfl,.bad (fun pv acc=>P.o.bad2 m I u G ?_ pv acc) hF.bt⟩;rw[<-hu,q1r];exact R
       clear R hu Ac O G;generalize pl (ws.length-u.length)=pp at HM;go_wp2_with fail
       go_region_law (first
        | (refine q1m rfl _ _ rfl w.heap.size (.slice (some ⟨wc,0,none⟩) 1 1) [(⟨7,S1,0⟩:Td)] rfl (((show q1p wc (.slice (some ⟨wc,0,none⟩) 1 1) [(⟨7,S1,0⟩:Td)] (wc.alloc _).drew from q1p.one wc (⟨7,S1,0⟩:Td)).but2 X Am).down Ad) A4 nl I V.o c4 rfl B.o.tds B.o.none.2 (1+nl) rfl (by omega) B.sz ?_;intro A6 c6 f D C;have H:=B.grown B.sz Y z y C (fun k hk=>by have e9:wc.heap.size=k:=(by simpa[Value.ownBlock]using hk);omega) D)
        | (refine q1m rfl _ _ rfl w.heap.size (.slice (some ⟨L,0,none⟩) 1 1) [(⟨7,S1,0⟩:Td)] rfl ((q1p.one L (⟨7,S1,0⟩:Td)).down B.sz) A4 nl I V.o c4 rfl (B.o.tds.alloc _) B.o.none.2 (1+nl) rfl (by omega) (by rw[World.size_alloc];have:=B.sz;omega) ?_;intro A6 c6 f D C;have H:=k7k.grown ⟨B.o.kept fun g _ h5=>Lib.alloc_old L _ g h5,B.rd.keep (q1c L _),B.bt.alloc B.sz _,by rw[World.size_alloc];have:=B.sz;omega⟩ (by rw[World.size_alloc];have:=B.sz;omega) Y z y C (fun k hk=>by have e9:L.heap.size=k:=(by simpa[Value.ownBlock]using hk);have:=B.sz;omega) D)
        | (go_simp;refine(HC.o _ (by first|exact z1m _ _|exact Below.drew Zb)).mono ?_;rintro e L⟨A4,c4,rfl,B,Aa,E,X⟩;have g0:L.cell? ⟨w,0,none⟩=some (.int .i64 7):=(by rw[Lib.cell_of_heap E];rfl);have g1:L.cell? ⟨w,1,none⟩=some (.string S1):=(by rw[Lib.cell_of_heap E];rfl);have g2:L.cell? ⟨w,2,none⟩=some (.int .i64 0):=(by rw[Lib.cell_of_heap E];rfl);clear E))
       all_goals
        have K6:=hid (HM.o _ _ _ H);clear H D C Aa B X;go_wp2_with fail;refine(Calls.mono K6.o ?_);rintro e w7⟨rfl,h7⟩;have K7:Hid (q9t K ws pl b p w (.panicked [q4c pp]) w7):=h7;clear h7;go_wp2;exact⟨rfl,K7.o⟩
     ·have HC:Hid (∀W,Below wc wc W->Calls prog 150 #[.pointer (some ⟨b,0,none⟩)] W fun e w'=>∃u:List Wd,e=.panicked [q4c (pl (ws.length-u.length))]/\q9t K ws pl b p w (.panicked [q4c (pl (ws.length-u.length))]) w'):=fun W hW=>by
       refine(J W (P.o.rd.keep hW)).mono ?_;rintro e w'⟨u,rfl,pr,bt⟩
       have:=hW.size
       exact⟨u,rfl,.bad (P.o.bad1 u pr) ((P.o.kept hW Ad).bt.trans (bt.mono (by omega)))⟩
      clear J;go_wp2_with fail
      go_region_dies
      all_goals
       refine(HC.o _ (by first|exact z1m _ _|exact Below.drew Zb)).mono ?_;rintro e w'⟨u,rfl,Q⟩;exact⟨rfl,Q⟩
    ·have HM:Hid (∀W,z8m K ws pl b w (p+2) (j0r ws[p+1]) W->Calls prog 149 #[.pointer (some ⟨b,0,none⟩),.string ⟨#[61]⟩] W fun e w'=>e=.panicked [q4c (pl (p+2))]/\q9t K ws pl b p w (.panicked [q4c (pl (p+2))]) w'):=fun W hW=>by
      refine(q6g hW.rd [61] (by simp) Al).mono ?_;rintro e w'⟨rfl,rfl⟩;have Q:=q9t.bad (K:=K) (ws:=ws) (pl:=pl) (b:=b) (p:=p) (w:=w) (u:=ws.drop (p+2)) (w':=w') (fun pv acc=>by rw[Ae.o,Aj.o];exact .letE a (by rw[q1r];exact Al)) hW.bt;rw[q0e,show ws.length-(ws.length-(p+2))=p+2 by omega]at Q;exact⟨rfl,Q⟩
     have Af:Hid (∀wc,z8m K ws pl b w (p+2) doT wc->z8m K ws pl b w (p+2) (j0r ws[p+1]) (((wc.setCell ⟨w,0,none⟩ (.int .i64 7)).setCell ⟨w,1,none⟩ (.string (wbS ws[p+1]))).setCell ⟨w,2,none⟩ (.int .i64 0))):=fun wc h=>h.put (j0r ws[p+1])
     generalize j0r ws[p+1]=xL at HM Af;generalize wbS ws[p+1]=S1 at HN Af;generalize wbS ws[p]=S at i U;generalize pl (p+2)=pp at HM;clear h j Ak hX d l Ag M hm a Al HD Aj Ae;go_in;go_wp2_with fail;refine i.o.mono ?_;rintro e w1⟨rfl,rfl⟩;go_wp2_with fail;refine U.o.mono ?_;rintro e w1⟨rfl,rfl⟩;go_wp2_with fail;refine HH.o.mono ?_;rintro e w1⟨rfl,v⟩;have K1:=hid v;clear v HH;go_wp2_with fail;refine(HN.o _ K1.o).mono ?_;rintro e w2⟨rfl,h2⟩;have K2:=hid h2;have N:=h2.bx;have d0:w2.cell? ⟨w,0,none⟩=some (.int .i64 8):=by rw[Lib.cell_of_heap N];rfl
     have d1:w2.cell? ⟨w,1,none⟩=some (.string ⟨#[]⟩):=by rw[Lib.cell_of_heap N];rfl
     have d2:w2.cell? ⟨w,2,none⟩=some (.int .i64 0):=by rw[Lib.cell_of_heap N];rfl
     have f0:w2.frozen? ⟨w,0,none⟩=false:=Lib.frozen_of_heap N 0;have f1:w2.frozen? ⟨w,1,none⟩=false:=Lib.frozen_of_heap N 1;have f2:w2.frozen? ⟨w,2,none⟩=false:=Lib.frozen_of_heap N 2;clear h2 N K1 HN;go_wp2_with fail;refine(HM.o _ (Af.o _ K2.o)).mono ?_;rintro e wc⟨rfl,Q⟩;have K9:Hid (q9t K ws pl b p w (.panicked [q4c pp]) wc):=Q;clear Q;go_wp2;exact⟨rfl,K9.o⟩
   ·have At:∀x,ws[p+1]?=some x->nmW x=false:=fun x hx=>by
     obtain⟨v,rfl⟩:=List.getElem?_eq_some_iff.1 hx;cases hq:nmW ws[p+1]with
     | false=>rfl
     | true=>exact absurd ⟨v,hq⟩ a
    have HN:Hid (∀W,z8m K ws pl b w (p+1) doT W->Calls prog 148 #[.pointer (some ⟨b,0,none⟩)] W fun e w'=>e=.panicked [q4c (pl (p+1))]/\q9t K ws pl b p w (.panicked [q4c (pl (p+1))]) w'):=fun W hW=>by
     refine(v5q j At hW.rd).mono ?_;rintro e w'⟨rfl,rfl⟩;have Q:=q9t.bad (K:=K) (ws:=ws) (pl:=pl) (b:=b) (p:=p) (w:=w) (u:=ws.drop (p+1)) (w':=W) (fun pv acc=>by rw[Ae.o];exact .letN (fun x hx=>At x (by rw[<-q1r];exact hx))) hW.bt;rw[q0e,show ws.length-(ws.length-(p+1))=p+1 by omega]at Q;exact⟨rfl,Q⟩
    generalize wbS ws[p]=S at i U;generalize pl (p+1)=pp at HN;clear h j Ak hX d l Ag M hm a At HD Ae;go_in;go_wp2_with fail;refine i.o.mono ?_;rintro e w1⟨rfl,rfl⟩;go_wp2_with fail;refine U.o.mono ?_;rintro e w1⟨rfl,rfl⟩;go_wp2_with fail;refine HH.o.mono ?_;rintro e w1⟨rfl,v⟩;have K1:=hid v;clear v HH;go_wp2_with fail;refine(HN.o _ K1.o).mono ?_;rintro e w2⟨rfl,Q⟩;have K9:Hid (q9t K ws pl b p w (.panicked [q4c pp]) w2):=Q;clear Q;go_wp2;exact⟨rfl,K9.o⟩
  ·have hm:ws[p]?≠some z1o:=by rw[List.getElem?_eq_getElem hp];simpa using M
   have HH:Hid (Calls prog 147 #[.pointer (some ⟨b,0,none⟩),.string ⟨#[108,101,116]⟩] (w.alloc (.cells #[.int .i64 8,.string ⟨#[]⟩,.int .i64 0] 81)) fun e w'=>e=.returned (.bool false)/\v7z K ws pl b p w p doT w'):=by
    refine(q6x Ag z1o (by simp) hm).mono ?_;rintro e w'⟨rfl,rfl⟩;refine⟨rfl,Nat.le_refl _,Ag,But.of (q1c w _),heap_alloc_new w _,fun m I u G pv acc r hr=>?_,fun u G pv acc=>?_,fun m I u G hu pv acc=>?_⟩
    ·rw[HD.o]at G⊢;exact .doO d M G hr
    ·rw[HD.o]at G⊢;exact .doB d M G
    ·rw[HD.o]at G⊢;exact .doX d M G hu
   have Ar:Hid (j0z K ws pl b p):=k7j j (by omega);generalize wbS ws[p]=S at i U;clear h j Ak hX d l Ag M hm;go_in;go_wp2_with fail;refine i.o.mono ?_;rintro e w1⟨rfl,rfl⟩;go_wp2_with fail;refine U.o.mono ?_;rintro e w1⟨rfl,rfl⟩;go_wp2_with fail;refine HH.o.mono ?_;rintro e wc⟨rfl,hS⟩;have P:Hid (v7z K ws pl b p w p doT wc):=hS;clear hS HH;have Ad:=P.o.bt.size;have A2:w.heap.size<wc.heap.size:=(Array.getElem?_eq_some_iff.1 P.o.bx).1;have Am:b<wc.heap.size:=P.o.rd.row.lt;have s:=P.o.bx;have d0:wc.cell? ⟨w,0,none⟩=some (.int .i64 8):=by rw[Lib.cell_of_heap s];rfl
   have d1:wc.cell? ⟨w,1,none⟩=some (.string ⟨#[]⟩):=by rw[Lib.cell_of_heap s];rfl
   have d2:wc.cell? ⟨w,2,none⟩=some (.int .i64 0):=by rw[Lib.cell_of_heap s];rfl
   clear s;rcases j7t Ar.o with⟨m,I,u,G,J⟩|J
   ·have Ac:=q9f G;have hu:ws.drop (ws.length-u.length)=u:=q5w Ac.1;have O:=Ac.2 m I u rfl;rw[q0e]at O;simp only[Job.eats]at O;have Ay:=P.o.le;have Au:=P.o.rd.le
    have HC:Hid (∀W,Below wc wc W->Calls prog 150 #[.pointer (some ⟨b,0,none⟩)] W fun e w'=>∃A c,e=.returned (.slice A I.length c)/\k7k K ws pl b w (ws.length-u.length) I (.slice A I.length c) w'/\I.length<=60000/\w'.heap[w.heap.size]?=some (.cells #[.int .i64 8,.string ⟨#[]⟩,.int .i64 0] 81 (0,0))/\But W b W w'):=fun W hW=>by
     refine(J W (P.o.rd.keep hW)).mono ?_;rintro e w'⟨A,c,rfl,hg⟩;have A1:=hW.size;have hK:=P.o.kept hW Ad;have A0:=hg.bt.size;have As:=hg.n;rw[q0e]at As;exact⟨A,c,rfl,⟨hg.o.down (by omega),hg.rd,hK.bt.trans (hg.bt.mono (by omega)),by omega⟩,by omega,(hg.bt.block _ (by omega) (by omega)).trans hK.bx,hg.bt⟩
    clear J;generalize Ab:I.length=nl at HC;have V:Hid (I.length=nl):=Ab;clear Ab;by_cases R:ws[ws.length-u.length]?=some [59]
    ·obtain⟨Ah,An⟩:=List.getElem?_eq_some_iff.1 R
     have Ao:u=[59]::ws.drop (ws.length-u.length+1):=by
      have Q:=q3w Ah;rw[hu,An]at Q;exact Q
     have HM:Hid (∀A c f,k7k K ws pl b w (ws.length-u.length) (doT::I) (.slice A (1+nl) c) f->nl<=60000->Calls prog 149 #[.pointer (some ⟨b,0,none⟩),.string ⟨#[59]⟩] f fun e w'=>e=.returned (.tuple #[])/\q9t K ws pl b p w (.returned (.slice A (1+nl) c)) w'):=fun A c f hF hnn=>by
      refine(q5l hF.rd [59] R).mono ?_;rintro e w7⟨rfl,h7,b7⟩;have Ab:=V.o;subst Ab;have hz:=hF.sz;refine⟨rfl,?_⟩;have Z:(doT::I).length=1+I.length:=by rw[List.length_cons];omega
      have Ai:=G;rw[Ao]at Ai;have Q:=q9t.ok (K:=K) (ws:=ws) (pl:=pl) (b:=b) (p:=p) (w:=w) (q:=ws.length-u.length+1) (n:=false) (t:=doT::I) (A:=A) (c:=c) (w':=w7) ⟨by omega,by rw[Z];exact hF.o.but2 b7 Y,by simp,by rw[Z];omega,h7,hF.bt.trans (b7.mono hz),fun pv acc r _ hr=>P.o.ok m I _ Ai pv acc r hr,fun e=>by cases e⟩;rw[Z]at Q;exact Q
     clear Ao An R Ah hu Ac O G;go_wp2_with fail
     go_region_law (first
      | (refine q1m rfl _ _ rfl w.heap.size (.slice (some ⟨wc,0,none⟩) 1 1) [doT] rfl (((show q1p wc (.slice (some ⟨wc,0,none⟩) 1 1) [doT] (wc.alloc _).drew from q1p.one wc doT).but2 X Am).down Ad) A4 nl I V.o c4 rfl B.o.tds B.o.none.2 (1+nl) rfl (by omega) B.sz ?_;intro A6 c6 f D C;have H:=B.grown B.sz Y z y C (fun k hk=>by have e9:wc.heap.size=k:=(by simpa[Value.ownBlock]using hk);omega) D)
      | (refine q1m rfl _ _ rfl w.heap.size (.slice (some ⟨L,0,none⟩) 1 1) [doT] rfl ((q1p.one L doT).down B.sz) A4 nl I V.o c4 rfl (B.o.tds.alloc _) B.o.none.2 (1+nl) rfl (by omega) (by rw[World.size_alloc];have:=B.sz;omega) ?_;intro A6 c6 f D C;have H:=k7k.grown ⟨B.o.kept fun g _ h5=>Lib.alloc_old L _ g h5,B.rd.keep (q1c L _),B.bt.alloc B.sz _,by rw[World.size_alloc];have:=B.sz;omega⟩ (by rw[World.size_alloc];have:=B.sz;omega) Y z y C (fun k hk=>by have e9:L.heap.size=k:=(by simpa[Value.ownBlock]using hk);have:=B.sz;omega) D)
      | (go_simp;refine(HC.o _ (by first|exact z1m _ _|exact Below.drew Zb)).mono ?_;rintro e L⟨A4,c4,rfl,B,Aa,E,X⟩;have g0:L.cell? ⟨w,0,none⟩=some (.int .i64 8):=(by rw[Lib.cell_of_heap E];rfl);have g1:L.cell? ⟨w,1,none⟩=some (.string ⟨#[]⟩):=(by rw[Lib.cell_of_heap E];rfl);have g2:L.cell? ⟨w,2,none⟩=some (.int .i64 0):=(by rw[Lib.cell_of_heap E];rfl);clear E))
     all_goals
      have K6:=hid (HM.o _ _ _ H Aa);clear H D C Aa B X;go_wp2_with fail;refine(Calls.mono K6.o ?_);rintro e w7⟨rfl,h7⟩;have K7:Hid (q9t K ws pl b p w (.returned (.slice A6 (1+nl) c6)) w7):=h7;clear h7;go_wp2;go_ret;exact K7.o
    ·have HM:Hid (∀A c f,k7k K ws pl b w (ws.length-u.length) (doT::I) (.slice A (1+nl) c) f->Calls prog 149 #[.pointer (some ⟨b,0,none⟩),.string ⟨#[59]⟩] f fun e w'=>e=.panicked [q4c (pl (ws.length-u.length))]/\q9t K ws pl b p w (.panicked [q4c (pl (ws.length-u.length))]) w'):=fun A c f hF=>by
      refine(q6g hF.rd [59] (by simp) R).mono ?_;rintro e w7⟨rfl,rfl⟩;refine⟨rfl,.bad (fun pv acc=>P.o.bad2 m I u G ?_ pv acc) hF.bt⟩;rw[<-hu,q1r];exact R
     clear R hu Ac O G;generalize pl (ws.length-u.length)=pp at HM;go_wp2_with fail
     go_region_law (first
      | (refine q1m rfl _ _ rfl w.heap.size (.slice (some ⟨wc,0,none⟩) 1 1) [doT] rfl (((show q1p wc (.slice (some ⟨wc,0,none⟩) 1 1) [doT] (wc.alloc _).drew from q1p.one wc doT).but2 X Am).down Ad) A4 nl I V.o c4 rfl B.o.tds B.o.none.2 (1+nl) rfl (by omega) B.sz ?_;intro A6 c6 f D C;have H:=B.grown B.sz Y z y C (fun k hk=>by have e9:wc.heap.size=k:=(by simpa[Value.ownBlock]using hk);omega) D)
      | (refine q1m rfl _ _ rfl w.heap.size (.slice (some ⟨L,0,none⟩) 1 1) [doT] rfl ((q1p.one L doT).down B.sz) A4 nl I V.o c4 rfl (B.o.tds.alloc _) B.o.none.2 (1+nl) rfl (by omega) (by rw[World.size_alloc];have:=B.sz;omega) ?_;intro A6 c6 f D C;have H:=k7k.grown ⟨B.o.kept fun g _ h5=>Lib.alloc_old L _ g h5,B.rd.keep (q1c L _),B.bt.alloc B.sz _,by rw[World.size_alloc];have:=B.sz;omega⟩ (by rw[World.size_alloc];have:=B.sz;omega) Y z y C (fun k hk=>by have e9:L.heap.size=k:=(by simpa[Value.ownBlock]using hk);have:=B.sz;omega) D)
      | (go_simp;refine(HC.o _ (by first|exact z1m _ _|exact Below.drew Zb)).mono ?_;rintro e L⟨A4,c4,rfl,B,Aa,E,X⟩;have g0:L.cell? ⟨w,0,none⟩=some (.int .i64 8):=(by rw[Lib.cell_of_heap E];rfl);have g1:L.cell? ⟨w,1,none⟩=some (.string ⟨#[]⟩):=(by rw[Lib.cell_of_heap E];rfl);have g2:L.cell? ⟨w,2,none⟩=some (.int .i64 0):=(by rw[Lib.cell_of_heap E];rfl);clear E))
     all_goals
      have K6:=hid (HM.o _ _ _ H);clear H D C Aa B X;go_wp2_with fail;refine(Calls.mono K6.o ?_);rintro e w7⟨rfl,h7⟩;have K7:Hid (q9t K ws pl b p w (.panicked [q4c pp]) w7):=h7;clear h7;go_wp2;exact⟨rfl,K7.o⟩
   ·have HC:Hid (∀W,Below wc wc W->Calls prog 150 #[.pointer (some ⟨b,0,none⟩)] W fun e w'=>∃u:List Wd,e=.panicked [q4c (pl (ws.length-u.length))]/\q9t K ws pl b p w (.panicked [q4c (pl (ws.length-u.length))]) w'):=fun W hW=>by
     refine(J W (P.o.rd.keep hW)).mono ?_;rintro e w'⟨u,rfl,pr,bt⟩
     have:=hW.size
     exact⟨u,rfl,.bad (P.o.bad1 u pr) ((P.o.kept hW Ad).bt.trans (bt.mono (by omega)))⟩
    clear J;go_wp2_with fail
    go_region_dies
    all_goals
     refine(HC.o _ (by first|exact z1m _ _|exact Below.drew Zb)).mono ?_;rintro e w'⟨u,rfl,Q⟩;exact⟨rfl,Q⟩
theorem k4g(a c d:Addr)(w:World):CallsD prog 116 #[.pointer (some a),.pointer (some c),.pointer (some d)] .returning w fun e u' w'=>e=.returned (.tuple #[])/\u'=.returning/\Below w w w':=by
 have A:∀W:World,(Instr.typeAssert .nilIface 20 178 true).run prog W=.ok (.tuple #[.agg #[.int .i64 0],.bool false]) W:=fun W=>by kernel_rfl
 refine callsD_of_wpS func116 rfl fun c₀ cs hu=>?_
 apply wpS_seq;apply wpS_region;simp[wpOpsS,go_sem,recoverD,hu,ntmps116,Exit.thenS];refine wpS_of_wp ?_;change Code.wp _ _ _ {tmps:=#[.pointer (some a),.pointer (some c),.pointer (some d),.nilIface,undef,undef,.nilIface,undef,undef,undef,undef,undef,undef,undef,undef,undef,undef,undef,undef],defers:=[]} _;go_wp2;refine⟨rfl,.returning,?_,_,results_none rfl _ _ _,rfl,rfl,q1c w _⟩;cases c₀;simp_all
theorem z4g(ba bc bd:Nat)(k:Nat)(w:World)(va vc vd:Value)(ha:w.cell? ⟨ba,0,none⟩=some va)(hc:w.cell? ⟨bc,0,none⟩=some vc)(hd:w.cell? ⟨bd,0,none⟩=some vd)(fa:w.frozen? ⟨ba,0,none⟩=false)(fc:w.frozen? ⟨bc,0,none⟩=false)(fd:w.frozen? ⟨bd,0,none⟩=false)(la:ba<w.heap.size)(lc:bc<w.heap.size)(ld:bd<w.heap.size)(n1:¬ba=bc)(n2:¬ba=bd)(n3:¬bc=bd):
  CallsD prog 116 #[.pointer (some ⟨ba,0,none⟩),.pointer (some ⟨bc,0,none⟩),.pointer (some ⟨bd,0,none⟩)] (.panicking [q4c k]) w fun e u' w'=>e=.returned (.tuple #[])/\u'=.panicking [{v:=.iface 178 (.agg #[.int .i64 (k:Int)]),recovered:=true}]/\w'.cell? ⟨ba,0,none⟩=some (.slice none 0 0)/\w'.cell? ⟨bc,0,none⟩=some (.int .i64 (k:Int))/\w'.cell? ⟨bd,0,none⟩=some (.iface 50 (.int .i64 5))/\∀B,B<=ba->B<=bc->B<=bd->Below B w w':=by
 have E:∀W:World,(Instr.typeAssert (.iface 178 (.agg #[.int .i64 (k:Int)])) 20 178 true).run prog W=.ok (.tuple #[.agg #[.int .i64 (k:Int)],.bool true]) W:=fun W=>by kernel_rfl
 refine callsD_of_wpS func116 rfl fun c₀ cs hu=>?_
 apply wpS_seq;apply wpS_region;simp[wpOpsS,go_sem,recoverD,hu,ntmps116,Exit.thenS];refine wpS_of_wp ?_;change Code.wp _ _ _ {tmps:=#[.pointer (some ⟨ba,0,none⟩),.pointer (some ⟨bc,0,none⟩),.pointer (some ⟨bd,0,none⟩),.iface 178 (.agg #[.int .i64 (k:Int)]),undef,undef,.iface 178 (.agg #[.int .i64 (k:Int)]),undef,undef,undef,undef,undef,undef,undef,undef,undef,undef,undef,undef],defers:=[]} _;go_wp2_with fail
 go_region
 all_goals go_wp2
 generalize C:((w.setCell ⟨ba,0,none⟩ (.slice none 0 0)).setCell ⟨bc,0,none⟩ (.int .i64 (k:Int))).setCell ⟨bd,0,none⟩ (.iface 50 (.int .i64 5))=W;have K:W.heap.size=w.heap.size:=by rw[<-C,World.size_setCell,World.size_setCell,World.size_setCell]
 have G:W.cell? ⟨ba,0,none⟩=some (.slice none 0 0):=by
  rw[<-C];exact(cso (.inl (Ne.symm n2))).trans ((cso (.inl (Ne.symm n1))).trans (css ha))
 have H:W.cell? ⟨bc,0,none⟩=some (.int .i64 (k:Int)):=by
  rw[<-C];exact(cso (.inl (Ne.symm n3))).trans (css ((cso (.inl n1)).trans hc))
 have I:W.cell? ⟨bd,0,none⟩=some (.iface 50 (.int .i64 5)):=by
  rw[<-C];exact css ((cso (.inl n3)).trans ((cso (.inl n2)).trans hd))
 have J:∀B,B<=ba->B<=bc->B<=bd->Below B w W:=fun B h1 h2 h3=>by
  rw[<-C];exact(((Below.refl B w).setCell (p:=⟨ba,0,none⟩) h1 _).setCell (p:=⟨bc,0,none⟩) h2 _).setCell (p:=⟨bd,0,none⟩) h3 _
 clear C;have D:=z1m W (.cells #[.int .i64 (k:Int)] 178);obtain⟨A,_⟩:=q0t D;refine⟨rfl,_,rfl,_,results_none rfl _ _ _,rfl,rfl,(A _ _ (by omega)).trans G,(A _ _ (by omega)).trans H,(A _ _ (by omega)).trans I,fun B h1 h2 h3=>(J B h1 h2 h3).trans (D.mono (by omega))⟩
end Go.Proofs.YtelcnplcpboonaaGreatDoor
