import Derived.Test.YtchdplceopegoaaGreatDoorPi13
import Derived.Test.YtchdplceopegoaaGreatDoorPi14
import Derived.RegionDies
import Derived.Recover
open Go.Proofs.Tryz
namespace Go.Proofs.YtchdplceopegoaaGreatDoor
open Go Go.RowKit
set_option maxRecDepth 100000
set_option maxHeartbeats 8000000
section
variable {K:LwK} {ws:List Wd} {pl:Nat→Nat} {b p q:Nat} {w:World}
theorem v9q(D:∀x∈ws,q3l x)(hq:q<ws.length)(hn:nmW ws[q]=true)(h:Ry K ws pl b q w):
  Calls prog 107 #[.pointer b] w fun e w'=>e=.returned (.string (wbS ws[q]))/\Ry K ws pl b (q+1) w'/\But w b w w':=by
 obtain⟨G,_,C⟩:=v9o h (q3z hq) (.inr (D _ (List.getElem_mem hq)));rw[hn]at C;have A:=(show Hid (Calls _ _ _ _ _)from G);have B:=(show Hid (Calls _ _ _ _ _)from C);have E:=hid (q8r h hq);generalize wbS ws[q]=S at A B E⊢;clear G C h hn;go_in;go_wp2_with fail;refine A.o.mono ?_;rintro e J⟨rfl,rfl⟩;go_wp2_with fail;refine B.o.mono ?_;rintro e J⟨rfl,rfl⟩;go_wp2_with fail;refine E.o.mono ?_;rintro e J⟨rfl,I,H⟩;have L:=hid (And.intro I H);clear I H;go_wp2;go_ret;exact⟨rfl,L.o⟩
theorem v9p(G:∀x∈ws,q3l x)(hn:∀x,ws[q]?=some x->nmW x=false)(h:Ry K ws pl b q w):
  Calls prog 107 #[.pointer b] w fun e w'=>e=.panicked [q5w (pl q)]/\w=w':=by
 have J:(ws.getD q [])=[]\/q3l (ws.getD q []):=by
  by_cases D:q<ws.length
  ·rw[q3z D];exact .inr (G _ (List.getElem_mem D))
  ·exact .inl (q6y (by omega))
 have C:nmW (ws.getD q [])=false:=by
  by_cases D:q<ws.length
  ·rw[q3z D];exact hn _ (List.getElem?_eq_getElem D)
  ·rw[q6y (by omega)];decide
 obtain⟨I,_,E⟩:=v9o h rfl J;rw[C]at E;have A:=(show Hid (Calls _ _ _ _ _)from I);have B:=(show Hid (Calls _ _ _ _ _)from E);have H:Hid (Cp 147 #[.pointer b] w fun e w'=>e=.panicked [q5w (pl q)]/\w=w'):=(k4u h).mono fun _ _ h=>⟨h.1,h.2.symm⟩
 generalize wbS (ws.getD q [])=S at A B;generalize pl q=pp at H⊢;clear I E h hn J C;go_in;go_wp2_with fail;refine A.o.mono ?_;rintro e L⟨rfl,rfl⟩;go_wp2_with fail;refine B.o.mono ?_;rintro e L⟨rfl,rfl⟩;go_wp2_with fail;refine H.o.mono ?_;rintro e L⟨rfl,rfl⟩;go_wp2;exact⟨rfl,rfl,rfl⟩
theorem v2a(h:v4h K ws pl b q):(∃m ns u,PR (.level 0) (ws.drop q) (.ok m ns u)/\∀w:World,Ry K ws pl b q w->Calls prog 109 #[.pointer b] w fun e w'=>∃A c,e=.returned (.slice A ns.length c)/\v4f K ws pl b (.level 0) q w m ns u (.slice A ns.length c) w')\/
  (∀w:World,Ry K ws pl b q w->Calls prog 109 #[.pointer b] w fun e w'=>∃u,e=.panicked [q5w (pl (ws.length-u.length))]/\PR (.level 0) (ws.drop q) (.bad u)/\But w b w w'):=by
 by_cases C:∃m ns u,PR (.level 0) (ws.drop q) (.ok m ns u)
 ·obtain⟨m,ns,u,B⟩:=C;refine .inl ⟨m,ns,u,B,fun w hw=>(h w hw).mono fun e w' hG=>?_⟩;cases hG with
  | bad pr _=>cases q3i B pr
  | @ok m2 ns2 u2 A c _ hg=>
   cases q3i B hg.pr;exact⟨A,c,rfl,hg⟩
 ·refine .inr fun w hw=>(h w hw).mono fun e w' hG=>?_
  cases hG with
  | @bad u _ pr bt=>exact⟨u,rfl,pr,bt⟩
  | ok hg=>exact absurd ⟨_,_,_,hg.pr⟩ C
structure k1l(K:LwK)(ws:List Wd)(pl:Nat->Nat)(b:Nat)(w:World)(q:Nat)(x:Td)(wc:World):Prop where
 rd:Ry K ws pl b q wc
 bt:But w b w wc
 bx:wc.heap[w.heap.size]?=some (.cells #[.int .i64 x.op,.string x.tx,.int .i64 x.n] 71 (0,0))
 gw:K.gw<w.heap.size
 ga:K.ga<w.heap.size
 lb:b<w.heap.size
theorem k1l.but{x:Td}{wc w':World}{q':Nat}(h:k1l K ws pl b w q x wc)(hb:But wc b wc w')(hr:Ry K ws pl b q' w'):k1l K ws pl b w q' x w':=by
 have A:=(Array.getElem?_eq_some_iff.1 h.bx).1
 have:=h.lb
 exact⟨hr,h.bt.trans (hb.mono (by omega)),(hb.block _ A (by omega)).trans h.bx,h.gw,h.ga,h.lb⟩
theorem k1l.put{x:Td}{wc:World}(h:k1l K ws pl b w q x wc)(y:Td):k1l K ws pl b w q y (((wc.setCell w.heap.size y.op).setCell (w.heap.size,1) (.string y.tx)).setCell (w.heap.size,2) y.n):=by
 have A:=h.gw;have B:=h.ga;have C:=h.lb;refine⟨((h.rd.far (by omega) (by omega) (by omega)).far (by omega) (by omega) (by omega)).far (by omega) (by omega) (by omega),((h.bt.setCell (p:=w.heap.size) (.inr Zl) _).setCell (p:=(w.heap.size,1)) (.inr Zl) _).setCell (p:=(w.heap.size,2)) (.inr Zl) _,?_,A,B,C⟩;simp[World.setCell,Array.getElem?_modify,h.bx]
structure y7b(K:LwK)(ws:List Wd)(pl:Nat->Nat)(b p:Nat)(w:World)(q:Nat)(x:Td)(wc:World):Prop where
 le:p<=q
 rd:Ry K ws pl b q wc
 bt:But w b w wc
 bx:wc.heap[w.heap.size]?=some (.cells #[.int .i64 x.op,.string x.tx,.int .i64 x.n] 71 (0,0))
 ok:∀m ns u,PR (.level 0) (ws.drop q) (.ok m ns ([59]::u))->∀pv acc r,PG false (acc++[x::ns]) u r->PG pv acc (ws.drop p) r
 bad1:∀u,PR (.level 0) (ws.drop q) (.bad u)->∀pv acc,PG pv acc (ws.drop p) (.bad u)
 bad2:∀m ns u,PR (.level 0) (ws.drop q) (.ok m ns u)->u.head?≠some [59]->∀pv acc,PG pv acc (ws.drop p) (.bad u)
theorem y7b.kept{x:Td}{wc w':World}(h:y7b K ws pl b p w q x wc)(hb:Below wc wc w')(hw:w.heap.size<=wc.heap.size):y7b K ws pl b p w q x w':=
 ⟨h.le,h.rd.keep hb,h.bt.trans (But.of (hb.mono hw)),(hb.block _ (Array.getElem?_eq_some_iff.1 h.bx).1).trans h.bx,h.ok,h.bad1,h.bad2⟩
structure j0u(K:LwK)(ws:List Wd)(pl:Nat->Nat)(b:Nat)(w:World)(q:Nat)(t:List Td)(v:Value)(w':World):Prop where
 o:q1b w v t w'
 rd:Ry K ws pl b q w'
 bt:But w b w w'
 sz:w.heap.size<=w'.heap.size
theorem j0u.grown{t t2:List Td}{v v2 v3:Value}{w1 w2:World}(h:j0u K ws pl b w q t v w1)(hw:w.heap.size<=w1.heap.size)(hb:b<w.heap.size)(C:K.gw<w.heap.size)(B:K.ga<w.heap.size)(hg:w1.grownBy w2 v2.ownBlock)(ho:∀k,v2.ownBlock=some k->w.heap.size<=k)(ht:q1b w v3 t2 w2):j0u K ws pl b w q t2 v3 w2:=by
 have A:= Zb.grown hg hw ho;exact⟨ht,h.rd.keepB A hb C B,h.bt.trans (But.of A),Nat.le_trans hw hg.size⟩
end
theorem v4b{K:LwK}{ws:List Wd}{pl:Nat->Nat}{b p:Nat}{w:World}(j:∀x∈ws,q3l x)(l:(ws.map List.length).sum<=60000)(hp:p<ws.length)(Ak:∀w',But w b w w'->z2c w')(h:Ry K ws pl b p w):
  Calls prog 80 #[.pointer b] w fun e w'=>z6j K ws pl b p w e w':=by
 have hX:=q3z hp
 have i:Hid (Cw 79 #[.pointer b] w (.string (wbS ws[p]))):=by
  have v:=(q6t h).mono fun _ _ h=>And.intro h.1 h.2.symm
  rw[hX]at v;exact v
 have U:Hid (Cw 104 #[.string (wbS ws[p])] w (.bool (decide (ws[p].headD 0=35)))):=(z6h _ w).mono fun _ _ h=>⟨h.1,h.2.symm⟩
 have Y:=h.row.lt;have z:=h.gwlt;have y:=h.galt;have A3:=h.few;by_cases d:ws[p].headD 0=35
 ·rw[decide_eq_true d]at U;have HN:=hid (j3y j l hp d Ak h);generalize wbS ws[p]=S at i U;clear h j Ak hX d l;go_in;go_wp2_with fail;refine i.o.mono ?_;rintro e w1⟨rfl,rfl⟩;go_wp2_with fail;refine U.o.mono ?_;rintro e w1⟨rfl,rfl⟩;go_wp2_with fail;refine HN.o.mono ?_;intro e w1 hG;cases hG with
  | @bad u _ pg bt=>
   have HB:Hid (z6j K ws pl b p w (.panicked [q5w (pl (ws.length-u.length))]) w1):=.bad pg bt;clear pg bt;go_wp2;exact⟨rfl,HB.o⟩
  | @ok q n t A c _ hg=>
   have HB:Hid (z6j K ws pl b p w (.returned (.slice A t.length c)) w1):=.ok hg;clear hg;generalize t.length=nl at HB⊢;go_wp2;go_ret;exact HB.o
 ·rw[decide_eq_false d]at U;have Ag:Ry K ws pl b p (w.alloc (.cells #[.int .i64 8,.string ⟨#[]⟩,.int .i64 0] 71)):=h.keep (q1w w _);have HD:=hid (q4s hp);by_cases M:ws[p]=q9n
  ·have hm:ws[p]?=some q9n:=by rw[List.getElem?_eq_getElem hp,M]
   have HH:Hid (Cp 106 #[.pointer b,.string ⟨#[108,101,116]⟩] (w.alloc (.cells #[.int .i64 8,.string ⟨#[]⟩,.int .i64 0] 71)) fun e w'=>e=.returned (.bool true)/\k1l K ws pl b w (p+1) doT w'):=by
    refine(q7q Ag q9n hm).mono ?_;rintro e w'⟨rfl,v,b1⟩;exact⟨rfl,k1l.but (q:=p) ⟨Ag,But.of (q1w w _),heap_alloc_new w _,z,y,Y⟩ b1 v⟩
   have Ae:Hid (ws.drop p=q9n::ws.drop (p+1)):=by
    show _=_;rw[HD.o,M]
   by_cases a:∃h:p+1<ws.length,nmW ws[p+1]=true
   ·obtain⟨Aw,a⟩:=a;have Aj:=hid (q4s Aw)
    have HN:Hid (∀W,k1l K ws pl b w (p+1) doT W->Cp 107 #[.pointer b] W fun e w'=>e=.returned (.string (wbS ws[p+1]))/\k1l K ws pl b w (p+2) doT w'):=fun W hW=>by
     refine(v9q j Aw a hW.rd).mono ?_;rintro e w'⟨rfl,v,b1⟩;exact⟨rfl,hW.but b1 v⟩
    by_cases Al:ws[p+2]?=some [61]
    ·obtain⟨Az,Av⟩:=List.getElem?_eq_some_iff.1 Al
     have Ap:Hid (ws.drop (p+2)=[61]::ws.drop (p+3)):=by
      show _=_;rw[q4s Az,Av]
     have HM:Hid (∀W,k1l K ws pl b w (p+2) (j2b ws[p+1]) W->Cp 108 #[.pointer b,.string ⟨#[61]⟩] W fun e w'=>e=.returned (.tuple #[])/\y7b K ws pl b p w (p+3) (j2b ws[p+1]) w'):=fun W hW=>by
      refine(q6s hW.rd [61] Al).mono ?_;rintro e w'⟨rfl,v,b1⟩;have h2:=hW.but b1 v;refine⟨rfl,by omega,h2.rd,h2.bt,h2.bx,fun m I u G pv acc r hr=>?_,fun u G pv acc=>?_,fun m I u G hu pv acc=>?_⟩
      ·rw[Ae.o,Aj.o,Ap.o];exact .letO a G hr
      ·rw[Ae.o,Aj.o,Ap.o];exact .letB a G
      ·rw[Ae.o,Aj.o,Ap.o];exact .letX a G hu
     have Ar:Hid (v4h K ws pl b (p+3)):=j0s j (by omega);have Af:Hid (∀wc,k1l K ws pl b w (p+2) doT wc->k1l K ws pl b w (p+2) (j2b ws[p+1]) (((wc.setCell w.heap.size (.int .i64 7)).setCell (w.heap.size,1) (.string (wbS ws[p+1]))).setCell (w.heap.size,2) (.int .i64 0))):=fun wc h=>h.put (j2b ws[p+1])
     have Aq:Hid ((j2b ws[p+1])=⟨7,wbS ws[p+1],0⟩):=rfl;generalize j2b ws[p+1]=xL at HM Af Aq;generalize wbS ws[p+1]=S1 at HN Af Aq;generalize wbS ws[p]=S at i U;clear h j Ak hX d l Ag M hm a Al Av HD Aj Ap Ae;go_in;go_wp2_with fail;refine i.o.mono ?_;rintro e w1⟨rfl,rfl⟩;go_wp2_with fail;refine U.o.mono ?_;rintro e w1⟨rfl,rfl⟩;go_wp2_with fail;refine HH.o.mono ?_;rintro e w1⟨rfl,v⟩;have K1:=hid v;clear v HH;go_wp2_with fail;refine(HN.o _ K1.o).mono ?_;rintro e w2⟨rfl,h2⟩;have K2:=hid h2;have N:=h2.bx;have d0:w2.cell? w.heap.size=some (.int .i64 8):=by rw[Lib.cell_of_heap N];rfl
     have d1:w2.cell? (w.heap.size,1)=some (.string ⟨#[]⟩):=by rw[Lib.cell_of_heap N];rfl
     have d2:w2.cell? (w.heap.size,2)=some (.int .i64 0):=by rw[Lib.cell_of_heap N];rfl
     have f0:=Lib.frozen_of_heap N 0;have f1:=Lib.frozen_of_heap N 1;have f2:=Lib.frozen_of_heap N 2;clear h2 N K1 HN;go_wp2_with fail;refine(HM.o _ (Af.o _ K2.o)).mono ?_;rintro e wc⟨rfl,hS⟩;have P:=hid hS;clear hS HM Af K2 d0 d1 d2 f0 f1 f2;have Ax:=Aq.o;subst Ax;clear Aq;have Ad:=P.o.bt.size;have A2:=(Array.getElem?_eq_some_iff.1 P.o.bx).1;have Am:=P.o.rd.row.lt;have s:=P.o.bx;have d0:wc.cell? w.heap.size=some (.int .i64 7):=by rw[Lib.cell_of_heap s];rfl
     have d1:wc.cell? (w.heap.size,1)=some (.string S1):=by rw[Lib.cell_of_heap s];rfl
     have d2:wc.cell? (w.heap.size,2)=some (.int .i64 0):=by rw[Lib.cell_of_heap s];rfl
     clear s;rcases v2a Ar.o with⟨m,I,u,G,J⟩|J
     ·have Ac:=q5o G;have hu:ws.drop (ws.length-u.length)=u:=q7h Ac.1;have O:=Ac.2 m I u rfl;rw[q0h]at O;simp only[Job.eats]at O;have Ay:=P.o.le;have Au:=P.o.rd.le
      have HC:Hid (∀W,Below wc wc W->Cp 109 #[.pointer b] W fun e w'=>∃A c,e=.returned (.slice A I.length c)/\j0u K ws pl b w (ws.length-u.length) I (.slice A I.length c) w'/\I.length<=60000/\w'.heap[w.heap.size]?=some (.cells #[.int .i64 7,.string S1,.int .i64 0] 71 (0,0))/\But W b W w'):=fun W hW=>by
       refine(J W (P.o.rd.keep hW)).mono ?_;rintro e w'⟨A,c,rfl,hg⟩;have A1:=hW.size;have hK:=P.o.kept hW Ad;have A0:=hg.bt.size;have As:=hg.n;rw[q0h]at As;exact⟨A,c,rfl,⟨hg.o.down (by omega),hg.rd,hK.bt.trans (hg.bt.mono (by omega)),by omega⟩,by omega,(hg.bt.block _ (by omega) (by omega)).trans hK.bx,hg.bt⟩
      clear J;generalize Ab:I.length=nl at HC;have V:=hid Ab;clear Ab;by_cases R:ws[ws.length-u.length]?=some [59]
      ·obtain⟨Ah,An⟩:=List.getElem?_eq_some_iff.1 R
       have Ao:u=[59]::ws.drop (ws.length-u.length+1):=by
        have Q:=q4s Ah;rw[hu,An]at Q;exact Q
       have HM:Hid (∀A c f,j0u K ws pl b w (ws.length-u.length) ((⟨7,S1,0⟩:Td)::I) (.slice A (1+nl) c) f->nl<=60000->Cp 108 #[.pointer b,.string ⟨#[59]⟩] f fun e w'=>e=.returned (.tuple #[])/\z6j K ws pl b p w (.returned (.slice A (1+nl) c)) w'):=fun A c f hF hnn=>by
        refine(q6s hF.rd [59] R).mono ?_;rintro e w7⟨rfl,h7,b7⟩;have Ab:=V.o;subst Ab;have hz:=hF.sz;refine⟨rfl,?_⟩;have Z:((⟨7,S1,0⟩:Td)::I).length=1+I.length:=by rw[List.length_cons];omega
        have Ai:=G;rw[Ao]at Ai;have Q:=z6j.ok (K:=K) (ws:=ws) (pl:=pl) (b:=b) (p:=p) (w:=w) (q:=ws.length-u.length+1) (n:=false) (t:=(⟨7,S1,0⟩:Td)::I) (A:=A) (c:=c) (w':=w7) ⟨by omega,by rw[Z];exact hF.o.but2 b7 Y,by simp,by rw[Z];omega,h7,hF.bt.trans (b7.mono hz),fun pv acc r _ hr=>P.o.ok m I _ Ai pv acc r hr,fun e=>by cases e⟩;rw[Z]at Q;exact Q
       clear Ao An R Ah hu Ac O G;go_wp2_with fail
       go_region_law (first
        | (refine q2e rfl _ _ rfl w.heap.size (.slice (some ⟨wc,0,none⟩) 1 1) [(⟨7,S1,0⟩:Td)] rfl (((show q1b wc (.slice (some ⟨wc,0,none⟩) 1 1) [(⟨7,S1,0⟩:Td)] (wc.alloc _).drew from q1b.one wc (⟨7,S1,0⟩:Td)).but2 X Am).down Ad) A4 nl I V.o c4 rfl B.o.tds B.o.none.2 (1+nl) rfl (by omega) B.sz ?_;intro A6 c6 f D C;have H:=B.grown B.sz Y z y C (fun k hk=>by have e9:wc.heap.size=k:=(by simpa[Value.ownBlock]using hk);omega) D)
        | (refine q2e rfl _ _ rfl w.heap.size (.slice (some ⟨L,0,none⟩) 1 1) [(⟨7,S1,0⟩:Td)] rfl ((q1b.one L (⟨7,S1,0⟩:Td)).down B.sz) A4 nl I V.o c4 rfl (B.o.tds.alloc _) B.o.none.2 (1+nl) rfl (by omega) (by rw[World.size_alloc];have:=B.sz;omega) ?_;intro A6 c6 f D C;have H:=j0u.grown ⟨B.o.kept fun g _ h5=>Lib.alloc_old L _ g h5,B.rd.keep (q1w L _),B.bt.alloc B.sz _,by rw[World.size_alloc];have:=B.sz;omega⟩ (by rw[World.size_alloc];have:=B.sz;omega) Y z y C (fun k hk=>by have e9:L.heap.size=k:=(by simpa[Value.ownBlock]using hk);have:=B.sz;omega) D)
        | (go_simp;refine(HC.o _ (by first|exact z3s _ _|exact Below.drew Zb)).mono ?_;rintro e L⟨A4,c4,rfl,B,Aa,E,X⟩;have g0:L.cell? ⟨w,0,none⟩=some (.int .i64 7):=(by rw[Lib.cell_of_heap E];rfl);have g1:L.cell? ⟨w,1,none⟩=some (.string S1):=(by rw[Lib.cell_of_heap E];rfl);have g2:L.cell? ⟨w,2,none⟩=some (.int .i64 0):=(by rw[Lib.cell_of_heap E];rfl);clear E))
       all_goals
        have K6:=hid (HM.o _ _ _ H Aa);clear H D C Aa B X;go_wp2_with fail;refine(Calls.mono K6.o ?_);rintro e w7⟨rfl,h7⟩;have K7:=hid h7;clear h7;go_wp2;go_ret;exact K7.o
      ·have HM:Hid (∀A c f,j0u K ws pl b w (ws.length-u.length) ((⟨7,S1,0⟩:Td)::I) (.slice A (1+nl) c) f->Cp 108 #[.pointer b,.string ⟨#[59]⟩] f fun e w'=>e=.panicked [q5w (pl (ws.length-u.length))]/\z6j K ws pl b p w (.panicked [q5w (pl (ws.length-u.length))]) w'):=fun A c f hF=>by
        refine(q7r hF.rd [59] (by simp) R).mono ?_;rintro e w7⟨rfl,rfl⟩;refine⟨rfl,.bad (fun pv acc=>P.o.bad2 m I u G ?_ pv acc) hF.bt⟩;rw[<-hu,q2l];exact R
       clear R hu Ac O G;generalize pl (ws.length-u.length)=pp at HM;go_wp2_with fail
       go_region_law (first
        | (refine q2e rfl _ _ rfl w.heap.size (.slice (some ⟨wc,0,none⟩) 1 1) [(⟨7,S1,0⟩:Td)] rfl (((show q1b wc (.slice (some ⟨wc,0,none⟩) 1 1) [(⟨7,S1,0⟩:Td)] (wc.alloc _).drew from q1b.one wc (⟨7,S1,0⟩:Td)).but2 X Am).down Ad) A4 nl I V.o c4 rfl B.o.tds B.o.none.2 (1+nl) rfl (by omega) B.sz ?_;intro A6 c6 f D C;have H:=B.grown B.sz Y z y C (fun k hk=>by have e9:wc.heap.size=k:=(by simpa[Value.ownBlock]using hk);omega) D)
        | (refine q2e rfl _ _ rfl w.heap.size (.slice (some ⟨L,0,none⟩) 1 1) [(⟨7,S1,0⟩:Td)] rfl ((q1b.one L (⟨7,S1,0⟩:Td)).down B.sz) A4 nl I V.o c4 rfl (B.o.tds.alloc _) B.o.none.2 (1+nl) rfl (by omega) (by rw[World.size_alloc];have:=B.sz;omega) ?_;intro A6 c6 f D C;have H:=j0u.grown ⟨B.o.kept fun g _ h5=>Lib.alloc_old L _ g h5,B.rd.keep (q1w L _),B.bt.alloc B.sz _,by rw[World.size_alloc];have:=B.sz;omega⟩ (by rw[World.size_alloc];have:=B.sz;omega) Y z y C (fun k hk=>by have e9:L.heap.size=k:=(by simpa[Value.ownBlock]using hk);have:=B.sz;omega) D)
        | (go_simp;refine(HC.o _ (by first|exact z3s _ _|exact Below.drew Zb)).mono ?_;rintro e L⟨A4,c4,rfl,B,Aa,E,X⟩;have g0:L.cell? ⟨w,0,none⟩=some (.int .i64 7):=(by rw[Lib.cell_of_heap E];rfl);have g1:L.cell? ⟨w,1,none⟩=some (.string S1):=(by rw[Lib.cell_of_heap E];rfl);have g2:L.cell? ⟨w,2,none⟩=some (.int .i64 0):=(by rw[Lib.cell_of_heap E];rfl);clear E))
       all_goals
        have K6:=hid (HM.o _ _ _ H);clear H D C Aa B X;go_wp2_with fail;refine(Calls.mono K6.o ?_);rintro e w7⟨rfl,h7⟩;have K7:=hid h7;clear h7;go_wp2;exact⟨rfl,K7.o⟩
     ·have HC:Hid (∀W,Below wc wc W->Cp 109 #[.pointer b] W fun e w'=>∃u:List Wd,e=.panicked [q5w (pl (ws.length-u.length))]/\z6j K ws pl b p w (.panicked [q5w (pl (ws.length-u.length))]) w'):=fun W hW=>by
       refine(J W (P.o.rd.keep hW)).mono ?_;rintro e w'⟨u,rfl,pr,bt⟩
       have:=hW.size
       exact⟨u,rfl,.bad (P.o.bad1 u pr) ((P.o.kept hW Ad).bt.trans (bt.mono (by omega)))⟩
      clear J;go_wp2_with fail
      go_region_dies
      all_goals
       refine(HC.o _ (by first|exact z3s _ _|exact Below.drew Zb)).mono ?_;rintro e w'⟨u,rfl,Q⟩;exact⟨rfl,Q⟩
    ·have HM:Hid (∀W,k1l K ws pl b w (p+2) (j2b ws[p+1]) W->Cp 108 #[.pointer b,.string ⟨#[61]⟩] W fun e w'=>e=.panicked [q5w (pl (p+2))]/\z6j K ws pl b p w (.panicked [q5w (pl (p+2))]) w'):=fun W hW=>by
      refine(q7r hW.rd [61] (by simp) Al).mono ?_;rintro e w'⟨rfl,rfl⟩;have Q:=z6j.bad (K:=K) (ws:=ws) (pl:=pl) (b:=b) (p:=p) (w:=w) (u:=ws.drop (p+2)) (w':=w') (fun pv acc=>by rw[Ae.o,Aj.o];exact .letE a (by rw[q2l];exact Al)) hW.bt;rw[q0h,show ws.length-(ws.length-(p+2))=p+2 by omega]at Q;exact⟨rfl,Q⟩
     have Af:Hid (∀wc,k1l K ws pl b w (p+2) doT wc->k1l K ws pl b w (p+2) (j2b ws[p+1]) (((wc.setCell w.heap.size (.int .i64 7)).setCell (w.heap.size,1) (.string (wbS ws[p+1]))).setCell (w.heap.size,2) (.int .i64 0))):=fun wc h=>h.put (j2b ws[p+1])
     generalize j2b ws[p+1]=xL at HM Af;generalize wbS ws[p+1]=S1 at HN Af;generalize wbS ws[p]=S at i U;generalize pl (p+2)=pp at HM;clear h j Ak hX d l Ag M hm a Al HD Aj Ae;go_in;go_wp2_with fail;refine i.o.mono ?_;rintro e w1⟨rfl,rfl⟩;go_wp2_with fail;refine U.o.mono ?_;rintro e w1⟨rfl,rfl⟩;go_wp2_with fail;refine HH.o.mono ?_;rintro e w1⟨rfl,v⟩;have K1:=hid v;clear v HH;go_wp2_with fail;refine(HN.o _ K1.o).mono ?_;rintro e w2⟨rfl,h2⟩;have K2:=hid h2;have N:=h2.bx;have d0:w2.cell? w.heap.size=some (.int .i64 8):=by rw[Lib.cell_of_heap N];rfl
     have d1:w2.cell? (w.heap.size,1)=some (.string ⟨#[]⟩):=by rw[Lib.cell_of_heap N];rfl
     have d2:w2.cell? (w.heap.size,2)=some (.int .i64 0):=by rw[Lib.cell_of_heap N];rfl
     have f0:=Lib.frozen_of_heap N 0;have f1:=Lib.frozen_of_heap N 1;have f2:=Lib.frozen_of_heap N 2;clear h2 N K1 HN;go_wp2_with fail;refine(HM.o _ (Af.o _ K2.o)).mono ?_;rintro e wc⟨rfl,Q⟩;have K9:=hid Q;clear Q;go_wp2;exact⟨rfl,K9.o⟩
   ·have At:∀x,ws[p+1]?=some x->nmW x=false:=fun x hx=>by
     obtain⟨v,rfl⟩:=List.getElem?_eq_some_iff.1 hx;cases hq:nmW ws[p+1]with
     | false=>rfl
     | true=>exact absurd ⟨v,hq⟩ a
    have HN:Hid (∀W,k1l K ws pl b w (p+1) doT W->Cp 107 #[.pointer b] W fun e w'=>e=.panicked [q5w (pl (p+1))]/\z6j K ws pl b p w (.panicked [q5w (pl (p+1))]) w'):=fun W hW=>by
     refine(v9p j At hW.rd).mono ?_;rintro e w'⟨rfl,rfl⟩;have Q:=z6j.bad (K:=K) (ws:=ws) (pl:=pl) (b:=b) (p:=p) (w:=w) (u:=ws.drop (p+1)) (w':=W) (fun pv acc=>by rw[Ae.o];exact .letN (fun x hx=>At x (by rw[<-q2l];exact hx))) hW.bt;rw[q0h,show ws.length-(ws.length-(p+1))=p+1 by omega]at Q;exact⟨rfl,Q⟩
    generalize wbS ws[p]=S at i U;generalize pl (p+1)=pp at HN;clear h j Ak hX d l Ag M hm a At HD Ae;go_in;go_wp2_with fail;refine i.o.mono ?_;rintro e w1⟨rfl,rfl⟩;go_wp2_with fail;refine U.o.mono ?_;rintro e w1⟨rfl,rfl⟩;go_wp2_with fail;refine HH.o.mono ?_;rintro e w1⟨rfl,v⟩;have K1:=hid v;clear v HH;go_wp2_with fail;refine(HN.o _ K1.o).mono ?_;rintro e w2⟨rfl,Q⟩;have K9:=hid Q;clear Q;go_wp2;exact⟨rfl,K9.o⟩
  ·have hm:ws[p]?≠some q9n:=by rw[List.getElem?_eq_getElem hp];simpa using M
   have HH:Hid (Cp 106 #[.pointer b,.string ⟨#[108,101,116]⟩] (w.alloc (.cells #[.int .i64 8,.string ⟨#[]⟩,.int .i64 0] 71)) fun e w'=>e=.returned (.bool false)/\y7b K ws pl b p w p doT w'):=by
    refine(q8q Ag q9n (by simp) hm).mono ?_;rintro e w'⟨rfl,rfl⟩;refine⟨rfl,Nat.le_refl _,Ag,But.of (q1w w _),heap_alloc_new w _,fun m I u G pv acc r hr=>?_,fun u G pv acc=>?_,fun m I u G hu pv acc=>?_⟩
    ·rw[HD.o]at G⊢;exact .doO d M G hr
    ·rw[HD.o]at G⊢;exact .doB d M G
    ·rw[HD.o]at G⊢;exact .doX d M G hu
   have Ar:Hid (v4h K ws pl b p):=j0s j (by omega);generalize wbS ws[p]=S at i U;clear h j Ak hX d l Ag M hm;go_in;go_wp2_with fail;refine i.o.mono ?_;rintro e w1⟨rfl,rfl⟩;go_wp2_with fail;refine U.o.mono ?_;rintro e w1⟨rfl,rfl⟩;go_wp2_with fail;refine HH.o.mono ?_;rintro e wc⟨rfl,hS⟩;have P:=hid hS;clear hS HH;have Ad:=P.o.bt.size;have A2:=(Array.getElem?_eq_some_iff.1 P.o.bx).1;have Am:=P.o.rd.row.lt;have s:=P.o.bx;have d0:wc.cell? w.heap.size=some (.int .i64 8):=by rw[Lib.cell_of_heap s];rfl
   have d1:wc.cell? (w.heap.size,1)=some (.string ⟨#[]⟩):=by rw[Lib.cell_of_heap s];rfl
   have d2:wc.cell? (w.heap.size,2)=some (.int .i64 0):=by rw[Lib.cell_of_heap s];rfl
   clear s;rcases v2a Ar.o with⟨m,I,u,G,J⟩|J
   ·have Ac:=q5o G;have hu:ws.drop (ws.length-u.length)=u:=q7h Ac.1;have O:=Ac.2 m I u rfl;rw[q0h]at O;simp only[Job.eats]at O;have Ay:=P.o.le;have Au:=P.o.rd.le
    have HC:Hid (∀W,Below wc wc W->Cp 109 #[.pointer b] W fun e w'=>∃A c,e=.returned (.slice A I.length c)/\j0u K ws pl b w (ws.length-u.length) I (.slice A I.length c) w'/\I.length<=60000/\w'.heap[w.heap.size]?=some (.cells #[.int .i64 8,.string ⟨#[]⟩,.int .i64 0] 71 (0,0))/\But W b W w'):=fun W hW=>by
     refine(J W (P.o.rd.keep hW)).mono ?_;rintro e w'⟨A,c,rfl,hg⟩;have A1:=hW.size;have hK:=P.o.kept hW Ad;have A0:=hg.bt.size;have As:=hg.n;rw[q0h]at As;exact⟨A,c,rfl,⟨hg.o.down (by omega),hg.rd,hK.bt.trans (hg.bt.mono (by omega)),by omega⟩,by omega,(hg.bt.block _ (by omega) (by omega)).trans hK.bx,hg.bt⟩
    clear J;generalize Ab:I.length=nl at HC;have V:=hid Ab;clear Ab;by_cases R:ws[ws.length-u.length]?=some [59]
    ·obtain⟨Ah,An⟩:=List.getElem?_eq_some_iff.1 R
     have Ao:u=[59]::ws.drop (ws.length-u.length+1):=by
      have Q:=q4s Ah;rw[hu,An]at Q;exact Q
     have HM:Hid (∀A c f,j0u K ws pl b w (ws.length-u.length) (doT::I) (.slice A (1+nl) c) f->nl<=60000->Cp 108 #[.pointer b,.string ⟨#[59]⟩] f fun e w'=>e=.returned (.tuple #[])/\z6j K ws pl b p w (.returned (.slice A (1+nl) c)) w'):=fun A c f hF hnn=>by
      refine(q6s hF.rd [59] R).mono ?_;rintro e w7⟨rfl,h7,b7⟩;have Ab:=V.o;subst Ab;have hz:=hF.sz;refine⟨rfl,?_⟩;have Z:(doT::I).length=1+I.length:=by rw[List.length_cons];omega
      have Ai:=G;rw[Ao]at Ai;have Q:=z6j.ok (K:=K) (ws:=ws) (pl:=pl) (b:=b) (p:=p) (w:=w) (q:=ws.length-u.length+1) (n:=false) (t:=doT::I) (A:=A) (c:=c) (w':=w7) ⟨by omega,by rw[Z];exact hF.o.but2 b7 Y,by simp,by rw[Z];omega,h7,hF.bt.trans (b7.mono hz),fun pv acc r _ hr=>P.o.ok m I _ Ai pv acc r hr,fun e=>by cases e⟩;rw[Z]at Q;exact Q
     clear Ao An R Ah hu Ac O G;go_wp2_with fail
     go_region_law (first
      | (refine q2e rfl _ _ rfl w.heap.size (.slice (some ⟨wc,0,none⟩) 1 1) [doT] rfl (((show q1b wc (.slice (some ⟨wc,0,none⟩) 1 1) [doT] (wc.alloc _).drew from q1b.one wc doT).but2 X Am).down Ad) A4 nl I V.o c4 rfl B.o.tds B.o.none.2 (1+nl) rfl (by omega) B.sz ?_;intro A6 c6 f D C;have H:=B.grown B.sz Y z y C (fun k hk=>by have e9:wc.heap.size=k:=(by simpa[Value.ownBlock]using hk);omega) D)
      | (refine q2e rfl _ _ rfl w.heap.size (.slice (some ⟨L,0,none⟩) 1 1) [doT] rfl ((q1b.one L doT).down B.sz) A4 nl I V.o c4 rfl (B.o.tds.alloc _) B.o.none.2 (1+nl) rfl (by omega) (by rw[World.size_alloc];have:=B.sz;omega) ?_;intro A6 c6 f D C;have H:=j0u.grown ⟨B.o.kept fun g _ h5=>Lib.alloc_old L _ g h5,B.rd.keep (q1w L _),B.bt.alloc B.sz _,by rw[World.size_alloc];have:=B.sz;omega⟩ (by rw[World.size_alloc];have:=B.sz;omega) Y z y C (fun k hk=>by have e9:L.heap.size=k:=(by simpa[Value.ownBlock]using hk);have:=B.sz;omega) D)
      | (go_simp;refine(HC.o _ (by first|exact z3s _ _|exact Below.drew Zb)).mono ?_;rintro e L⟨A4,c4,rfl,B,Aa,E,X⟩;have g0:L.cell? ⟨w,0,none⟩=some (.int .i64 8):=(by rw[Lib.cell_of_heap E];rfl);have g1:L.cell? ⟨w,1,none⟩=some (.string ⟨#[]⟩):=(by rw[Lib.cell_of_heap E];rfl);have g2:L.cell? ⟨w,2,none⟩=some (.int .i64 0):=(by rw[Lib.cell_of_heap E];rfl);clear E))
     all_goals
      have K6:=hid (HM.o _ _ _ H Aa);clear H D C Aa B X;go_wp2_with fail;refine(Calls.mono K6.o ?_);rintro e w7⟨rfl,h7⟩;have K7:=hid h7;clear h7;go_wp2;go_ret;exact K7.o
    ·have HM:Hid (∀A c f,j0u K ws pl b w (ws.length-u.length) (doT::I) (.slice A (1+nl) c) f->Cp 108 #[.pointer b,.string ⟨#[59]⟩] f fun e w'=>e=.panicked [q5w (pl (ws.length-u.length))]/\z6j K ws pl b p w (.panicked [q5w (pl (ws.length-u.length))]) w'):=fun A c f hF=>by
      refine(q7r hF.rd [59] (by simp) R).mono ?_;rintro e w7⟨rfl,rfl⟩;refine⟨rfl,.bad (fun pv acc=>P.o.bad2 m I u G ?_ pv acc) hF.bt⟩;rw[<-hu,q2l];exact R
     clear R hu Ac O G;generalize pl (ws.length-u.length)=pp at HM;go_wp2_with fail
     go_region_law (first
      | (refine q2e rfl _ _ rfl w.heap.size (.slice (some ⟨wc,0,none⟩) 1 1) [doT] rfl (((show q1b wc (.slice (some ⟨wc,0,none⟩) 1 1) [doT] (wc.alloc _).drew from q1b.one wc doT).but2 X Am).down Ad) A4 nl I V.o c4 rfl B.o.tds B.o.none.2 (1+nl) rfl (by omega) B.sz ?_;intro A6 c6 f D C;have H:=B.grown B.sz Y z y C (fun k hk=>by have e9:wc.heap.size=k:=(by simpa[Value.ownBlock]using hk);omega) D)
      | (refine q2e rfl _ _ rfl w.heap.size (.slice (some ⟨L,0,none⟩) 1 1) [doT] rfl ((q1b.one L doT).down B.sz) A4 nl I V.o c4 rfl (B.o.tds.alloc _) B.o.none.2 (1+nl) rfl (by omega) (by rw[World.size_alloc];have:=B.sz;omega) ?_;intro A6 c6 f D C;have H:=j0u.grown ⟨B.o.kept fun g _ h5=>Lib.alloc_old L _ g h5,B.rd.keep (q1w L _),B.bt.alloc B.sz _,by rw[World.size_alloc];have:=B.sz;omega⟩ (by rw[World.size_alloc];have:=B.sz;omega) Y z y C (fun k hk=>by have e9:L.heap.size=k:=(by simpa[Value.ownBlock]using hk);have:=B.sz;omega) D)
      | (go_simp;refine(HC.o _ (by first|exact z3s _ _|exact Below.drew Zb)).mono ?_;rintro e L⟨A4,c4,rfl,B,Aa,E,X⟩;have g0:L.cell? ⟨w,0,none⟩=some (.int .i64 8):=(by rw[Lib.cell_of_heap E];rfl);have g1:L.cell? ⟨w,1,none⟩=some (.string ⟨#[]⟩):=(by rw[Lib.cell_of_heap E];rfl);have g2:L.cell? ⟨w,2,none⟩=some (.int .i64 0):=(by rw[Lib.cell_of_heap E];rfl);clear E))
     all_goals
      have K6:=hid (HM.o _ _ _ H);clear H D C Aa B X;go_wp2_with fail;refine(Calls.mono K6.o ?_);rintro e w7⟨rfl,h7⟩;have K7:=hid h7;clear h7;go_wp2;exact⟨rfl,K7.o⟩
   ·have HC:Hid (∀W,Below wc wc W->Cp 109 #[.pointer b] W fun e w'=>∃u:List Wd,e=.panicked [q5w (pl (ws.length-u.length))]/\z6j K ws pl b p w (.panicked [q5w (pl (ws.length-u.length))]) w'):=fun W hW=>by
     refine(J W (P.o.rd.keep hW)).mono ?_;rintro e w'⟨u,rfl,pr,bt⟩
     have:=hW.size
     exact⟨u,rfl,.bad (P.o.bad1 u pr) ((P.o.kept hW Ad).bt.trans (bt.mono (by omega)))⟩
    clear J;go_wp2_with fail
    go_region_dies
    all_goals
     refine(HC.o _ (by first|exact z3s _ _|exact Below.drew Zb)).mono ?_;rintro e w'⟨u,rfl,Q⟩;exact⟨rfl,Q⟩
theorem k7o(a c d:Addr)(w:World):CallsD prog 78 #[.pointer (some a),.pointer (some c),.pointer (some d)] .returning w fun e u' w'=>e=.returned (.tuple #[])/\u'=.returning/\Below w w w':=by
 have A:∀W:World,(Instr.typeAssert .nilIface 20 156 true).run prog W=.ok (.tuple #[.agg #[.int .i64 0],.bool false]) W:=fun W=>by kernel_rfl
 refine callsD_of_wpS func78 rfl fun c₀ cs hu=>?_
 apply wpS_seq;apply wpS_region;simp[wpOpsS,go_sem,recoverD,hu,ntmps78,Exit.thenS];refine wpS_of_wp ?_;change Code.wp _ _ _ {tmps:=#[.pointer (some a),.pointer (some c),.pointer (some d),.nilIface,undef,undef,.nilIface,undef,undef,undef,undef,undef,undef,undef,undef,undef,undef,undef,undef],defers:=[]} _;go_wp2;refine⟨rfl,.returning,?_,_,results_none rfl _ _ _,rfl,rfl,q1w w _⟩;cases c₀;simp_all
theorem z6g(ba bc bd:Nat)(k:Nat)(w:World)(va vc vd:Value)(ha:w.cell? ba=some va)(hc:w.cell? bc=some vc)(hd:w.cell? bd=some vd)(fa:w.frozen? ba=false)(fc:w.frozen? bc=false)(fd:w.frozen? bd=false)(la:ba<w.heap.size)(lc:bc<w.heap.size)(ld:bd<w.heap.size)(n1:¬ba=bc)(n2:¬ba=bd)(n3:¬bc=bd):
  CallsD prog 78 #[.pointer ba,.pointer bc,.pointer bd] (.panicking [q5w k]) w fun e u' w'=>e=.returned (.tuple #[])/\u'=.panicking [{v:=.iface 156 (.agg #[(k:Int)]),recovered:=true}]/\w'.cell? ba=some (.slice none 0 0)/\w'.cell? bc=some ↑(k:Int)/\w'.cell? bd=some (.iface 24 (.int .i64 5))/\∀B,B<=ba->B<=bc->B<=bd->Below B w w':=by
 have E:∀W:World,(Instr.typeAssert (.iface 156 (.agg #[(k:Int)])) 20 156 true).run prog W=.ok (.tuple #[.agg #[(k:Int)],.bool true]) W:=fun W=>by kernel_rfl
 refine callsD_of_wpS func78 rfl fun c₀ cs hu=>?_
 apply wpS_seq;apply wpS_region;simp[wpOpsS,go_sem,recoverD,hu,ntmps78,Exit.thenS];refine wpS_of_wp ?_;change Code.wp _ _ _ {tmps:=#[.pointer ba,.pointer bc,.pointer bd,.iface 156 (.agg #[(k:Int)]),undef,undef,.iface 156 (.agg #[(k:Int)]),undef,undef,undef,undef,undef,undef,undef,undef,undef,undef,undef,undef],defers:=[]} _;go_wp2_with fail
 go_region
 all_goals go_wp2
 generalize C:((w.setCell ba (.slice none 0 0)).setCell bc (k:Int)).setCell bd (.iface 24 (.int .i64 5))=W;have K:W.heap.size=w.heap.size:=by rw[<-C,World.size_setCell,World.size_setCell,World.size_setCell]
 have G:W.cell? ba=some (.slice none 0 0):=by
  rw[<-C];exact(cso (.inl (Ne.symm n2))).trans ((cso (.inl (Ne.symm n1))).trans (css ha))
 have H:W.cell? bc=some ↑(k:Int):=by
  rw[<-C];exact(cso (.inl (Ne.symm n3))).trans (css ((cso (.inl n1)).trans hc))
 have I:W.cell? bd=some (.iface 24 (.int .i64 5)):=by
  rw[<-C];exact css ((cso (.inl n3)).trans ((cso (.inl n2)).trans hd))
 have J:∀B,B<=ba->B<=bc->B<=bd->Below B w W:=fun B h1 h2 h3=>by
  rw[<-C];exact(((Below.refl B w).setCell (p:=ba) h1 _).setCell (p:=bc) h2 _).setCell (p:=bd) h3 _
 clear C;have D:=z3s W (.cells #[(k:Int)] 156);obtain⟨A,_⟩:=q0s D;refine⟨rfl,_,rfl,_,results_none rfl _ _ _,rfl,rfl,(A _ _ (by omega)).trans G,(A _ _ (by omega)).trans H,(A _ _ (by omega)).trans I,fun B h1 h2 h3=>(J B h1 h2 h3).trans (D.mono (by omega))⟩
def plE(ps:List Nat)(k:Nat)(i:Nat):Nat:=(ps[i]?).getD k
theorem v0k{B:Nat}{v:Value}{ks:List Nat}{w:World}(h:z2b B v ks w):k5b B v (ks.map fun(k:Nat)=>(k:Int)) w:=by
 have e:q4k (ks.map fun(k:Nat)=>(k:Int))=q3b ks:=by simp[q4k,q3b]
 show w.ownsRow _ _ _ _ _ _;rw[List.length_map,e];exact h
theorem k9t{w w':World}{B B' e e' A D n n':Nat}{v v':Value}{xs J:List Value}(h:w.ownsRow B e A v n xs)(h':w.ownsRow B' e' D v' n' J)(I:e≠e')(hg:w.grownBy w' v'.ownBlock):w'.ownsRow B e A v n xs:=by
 refine⟨h.1,?_⟩;rcases h.2 with M|⟨g,c,G,O,N,H,E⟩
 ·exact .inl M
 ·refine .inr ⟨g,c,G,O,N,(hg.block g (Array.getElem?_eq_some_iff.1 H).1 fun e1=>?_).trans H,E⟩;rcases h'.2 with⟨rfl,_⟩|⟨L,P,K,rfl,_,C,_⟩
  ·cases e1
  ·have:g=L:=by simpa[Value.ownBlock]using e1
   subst this;rw[H]at C;simp only[Option.some.injEq,Obj.cells.injEq]at C;exact I C.2.1
theorem k9q{w:World}{B e n m c:Nat}{A:Option Addr}{xs:List Value}(h:w.ownsRow B e 1 (.slice A m c) n xs)(h0:0<n):∃g,A=some ⟨g,0,none⟩/\B<=g/\g<w.heap.size/\n<=c/\∀i u,xs[i]?=some u->w.cell? ⟨g,i,none⟩=some u:=by
 rcases h.2 with⟨_,M⟩|⟨g,L,H,G,I,E,D,_,K,C⟩
 ·omega
 ·simp only[Value.slice.injEq]at G;obtain⟨rfl,rfl,rfl⟩:=G;refine⟨g,rfl,I,(Array.getElem?_eq_some_iff.1 E).1,D,fun i u hu=>?_⟩;rw[<-C]at hu
  have J:i<m*1:=by
   have:=(List.getElem?_eq_some_iff.1 hu).1
   rw[List.length_take]at this;omega
  rw[List.getElem?_take_of_lt J]at hu;simp only[World.cell?,E];simpa using hu
theorem v7v{B n:Nat}{A P:Option Addr}{ac pc:Nat}{ws:List Wd}{ps:List Nat}{k:Nat}{w:World}(hn:ws.length=n)(C:n<=60000)(H:ps.length=ws.length)(h1:q2i B (.slice A (n+1) ac) (ws.map wbS++[⟨#[]⟩]) w)(h2:k5b B (.slice P (n+1) pc) ((ps.map fun(k:Nat)=>(k:Int))++[(k:Int)]) w):
  ∃gw ga,A=some ⟨gw,0,none⟩/\P=some ⟨ga,0,none⟩/\B<=gw/\B<=ga/\gw<w.heap.size/\ga<w.heap.size/\Ry ⟨gw,ac,ga,pc⟩ ws (plE ps k) w.heap.size 0 (w.alloc (.cells #[.slice (some ⟨gw,0,none⟩) (n+1) ac,.slice (some ⟨ga,0,none⟩) (n+1) pc] 159)):=by
 subst hn;have D:(ws.map wbS++[(⟨#[]⟩:ByteArray)]).length=ws.length+1:=by simp
 have E:((ps.map fun(k:Nat)=>(k:Int))++[(k:Int)]).length=ws.length+1:=by simp[H]
 obtain⟨gw,rfl,L,J,N,Q⟩:=k9q h1 (by rw[D];omega);obtain⟨ga,rfl,M,K,O,R⟩:=k9q h2 (by rw[E];omega);rw[D]at N;rw[E]at O;have G:=heap_alloc_new w (.cells #[.slice (some ⟨gw,0,none⟩) (ws.length+1) ac,.slice (some ⟨ga,0,none⟩) (ws.length+1) pc] 159);obtain⟨I,_⟩:=q0s (q1w w (.cells #[.slice (some ⟨gw,0,none⟩) (ws.length+1) ac,.slice (some ⟨ga,0,none⟩) (ws.length+1) pc] 159));refine⟨gw,ga,rfl,rfl,L,M,J,K,Nat.zero_le _,by rw[Lib.cell_of_heap G];rfl,by rw[Lib.cell_of_heap G];rfl,⟨_,_,G,rfl⟩,fun i hi=>?_,fun i hi=>?_,by show gw≠w.heap.size;omega,by show ga≠w.heap.size;omega,by show ws.length<ac;omega,by show ws.length<pc;omega,C⟩
 ·refine(I _ _ J).trans (Q i _ ?_);by_cases e:i<ws.length
  ·rw[q3z e,q2f,List.getElem?_append_left (by simp[strCells];omega)];simp[strCells,e]
  ·have:i=ws.length:=by omega
   subst this;rw[q6y Zl,q2f,List.getElem?_append_right (by simp[strCells])];simp[strCells];rfl
 ·refine(I _ _ K).trans (R i _ ?_);unfold plE;by_cases e:i<ps.length
  ·rw[z3c,List.getElem?_append_left (by simp[q4k];omega)];simp[q4k,e]
  ·have:i=ps.length:=by omega
   subst this;rw[z3c,List.getElem?_append_right (by simp[q4k])];simp[q4k]
structure g0x(K:LwK)(ws:List Wd)(pl:Nat->Nat)(B H rb:Nat)(w:World)(q:Nat)(pv:Bool)(acc:List (List Td))(v:Value)(wr:World):Prop where
 rd:Ry K ws pl rb q wr
 o:q4f (rb+1) v acc wr
 b0:wr.heap[H]?=some (.cells #[v] 31 (0,0))
 b1:wr.heap[H+1]?=some (.cells #[.int .i64 0] 3 (0,0))
 b2:wr.heap[H+2]?=some (.cells #[.nilIface] 27 (0,0))
 bl:Below B w wr
 pg:∀r,PG pv acc (ws.drop q) r->PG false [] ws r
 nx:pv=true->∀x,ws[q]?=some x->x.headD 0≠35
 nl:acc.length<=q
 sz:rb<wr.heap.size
theorem y7j(w:World)(a b c d:Obj):((((w.alloc a).alloc b).alloc c).alloc d).heap[w.heap.size]?=some a/\((((w.alloc a).alloc b).alloc c).alloc d).heap[w.heap.size+1]?=some b/\((((w.alloc a).alloc b).alloc c).alloc d).heap[w.heap.size+2]?=some c:=by
 have C:(w.alloc a).heap.size=w.heap.size+1:=World.size_alloc ..;have D:((w.alloc a).alloc b).heap.size=w.heap.size+2:=by rw[World.size_alloc,C]
 have E:(((w.alloc a).alloc b).alloc c).heap.size=w.heap.size+3:=by rw[World.size_alloc,D]
 have A:=heap_alloc_new (w.alloc a) b;have B:=heap_alloc_new ((w.alloc a).alloc b) c;rw[C]at A;rw[D]at B;exact⟨(Lib.alloc_old _ _ _ (by omega)).trans ((Lib.alloc_old _ _ _ (by omega)).trans ((Lib.alloc_old _ _ _ (by omega)).trans (heap_alloc_new w a))),(Lib.alloc_old _ _ _ (by omega)).trans ((Lib.alloc_old _ _ _ (by omega)).trans A),(Lib.alloc_old _ _ _ (by omega)).trans B⟩
theorem But.undrew{B b:Nat}{w w':World}(h:But B b w.drew w'):But B b w w':=⟨h.os,h.tape,h.output,h.size,h.block⟩
section
variable {K:LwK} {ws:List Wd} {pl:Nat→Nat} {B H rb:Nat} {w wr:World} {q:Nat} {pv:Bool} {acc:List (List Td)} {A:Option Addr} {n c:Nat}
structure g0w(K:LwK)(ws:List Wd)(pl:Nat->Nat)(B H rb:Nat)(w:World)(q:Nat)(pv:Bool)(acc:List (List Td))(v:Value)(t:List Td)(g c4:Nat)(w4:World):Prop where
 rd:Ry K ws pl rb q w4
 o:q4f (rb+1) v acc w4
 tt:q1b (rb+1) (.slice (some ⟨g,0,none⟩) t.length c4) t w4
 b0:w4.heap[H]?=some (.cells #[v] 31 (0,0))
 b1:w4.heap[H+1]?=some (.cells #[.int .i64 0] 3 (0,0))
 b2:w4.heap[H+2]?=some (.cells #[.nilIface] 27 (0,0))
 bl:Below B w w4
 pg:∀r,PG pv (acc++[t]) (ws.drop q) r->PG false [] ws r
 nx:pv=true->∀x,ws[q]?=some x->x.headD 0≠35
 nl:acc.length+1<=q
 sz:rb<w4.heap.size
theorem y8t{n':Bool}{q':Nat}{t:List Td}{g c4:Nat}{w4:World}(h:g0x K ws pl B H rb w q pv acc (.slice A n c) wr)(hH:H+4<=rb)(D:B<=rb)(hG:y6v K ws pl rb q wr.drew q' n' t (.slice g t.length c4) w4):g0w K ws pl B H rb w q' n' acc (.slice A n c) t g c4 w4:=by
 have J:=h.sz;have I:wr.heap.size<=w4.heap.size:=hG.bt.size;have C:But wr rb wr w4:=hG.bt.undrew;have E:=hG.lt;have G:=h.nl;refine⟨hG.rd,h.o.but C (by omega),hG.o.down (by show rb+1<=wr.heap.size;omega),(C.block _ (by omega) (by omega)).trans h.b0,(C.block _ (by omega) (by omega)).trans h.b1,(C.block _ (by omega) (by omega)).trans h.b2,h.bl.trans (C.low (by omega) D),fun r hr=>h.pg r (hG.pg pv acc r h.nx hr),hG.nx,by omega,by omega⟩
theorem y5h{t:List Td}{g c4:Nat}{w4 w6:World}{A6:Option Addr}{c6:Nat}{O:Obj}(h:g0w K ws pl B H rb w q pv acc (.slice A n c) t g c4 w4)(hH:H+4<=rb)(M:B<=rb)(G:B<=H)(P:K.gw<rb)(N:K.ga<rb)(ho:q4f (rb+1) (.slice A6 (n+1) c6) (acc++[t]) w6)(hg:(w4.alloc O).grownBy w6 (Value.slice A n c).ownBlock):g0x K ws pl B H rb w q pv (acc++[t]) (.slice A6 (n+1) c6) (w6.setCell H (.slice A6 (n+1) c6)):=by
 have S:=h.sz;have R:(w4.alloc O).heap.size=w4.heap.size+1:=World.size_alloc ..;have C:Below (rb+1) w4 w6:=((q1w w4 O).mono (by omega)).grown hg (by omega) (fun k hk=>h.o.own_le hk);have D:∀j,j≠H->(w6.setCell H (.slice A6 (n+1) c6)).heap[j]?=w6.heap[j]?:=fun j hj=>Below.heap_setCell _ _ _ _ hj
 have I:w6.heap[H]?=some (.cells #[.slice A n c] 31 (0,0)):=(C.block _ (by omega)).trans h.b0;have Q:=hg.size;have E:w4.cell? H=some (.slice A n c):=by rw[Lib.cell_of_heap h.b0];rfl
 have J:H≠K.gw:=fun e=>by
  have:=h.rd.wd 0 (Nat.zero_le _)
  rw[<-e,E]at this;cases this
 have L:H≠K.ga:=fun e=>by
  have:=h.rd.pt 0 (Nat.zero_le _)
  rw[<-e,E]at this;cases this
 refine⟨(h.rd.keepB C (by omega) (by omega) (by omega)).far (by omega) J L,ho.kept fun j h1 _=>D j (by omega),?_,(D _ (by omega)).trans ((C.block _ (by omega)).trans h.b1),(D _ (by omega)).trans ((C.block _ (by omega)).trans h.b2),(h.bl.trans (C.mono (by omega))).setCell (p:=H) G _,h.pg,h.nx,by rw[List.length_append];exact h.nl,by rw[World.size_setCell];omega⟩;simp[World.setCell,Array.getElem?_modify,I]
end
inductive k5d (ws:List Wd) (pl:Nat->Nat) (B:Nat) (w:World):Ending->World->Prop where
 | ok {qs A c w'} (pg:PG false [] ws (.ok qs)) (hp:Prg w' A qs) (hc:qs.length<=c) (hb:Below B w w'):k5d ws pl B w (.returned (.tuple #[.slice A qs.length c,.int .i64 0,.nilIface])) w'
 | bad {u w'} (pg:PG false [] ws (.bad u)) (hb:Below B w w'):k5d ws pl B w (.returned (.tuple #[.slice none 0 0,.int .i64 (pl (ws.length-u.length):Int),.iface 24 (.int .i64 5)])) w'
theorem v4a{B:Nat}{A P:Option Addr}{ac pc:Nat}{ws:List Wd}{ps:List Nat}{k:Nat}{w:World}(By:∀x∈ws,q3l x)(A9:(ws.map List.length).sum<=60000)(Ai:ws.length<=60000)(Bt:ps.length=ws.length)(hB:B<=w.heap.size)
  (h1:q2i B (.slice A ws.length ac) (ws.map wbS) w) (h2:z2b B (.slice P ws.length pc) ps w) (hT:∀w',Below B w w'->z2c w'):
  Calls prog 49 #[.slice A ws.length ac,.slice P ws.length pc,.int .i64 (k:Int)] w fun e w'=>k5d ws (plE ps k) B w e w':=by
 have B7:∀(fn:Fn)(first cap:Array Value)(w:World),(Instr.makeFunc fn first cap).run prog w=.ok (.func fn first cap) w:=fun _ _ _ _=>rfl
 have HT:=hid hT;have Aw:=hid By;have Bj:=hid A9;have H1:=hid h1;have H2:=hid (v0k h2);have At:Hid (ps.length=ws.length):=Bt;generalize A3:ws.length=nl at H1 H2;have Aa:Hid (ws.length=nl):=A3;rw[A3]at Ai;have Bd:Hid ((ws.map wbS).length=nl):=(show _=_ by rw[List.length_map];exact Aa.o);go_enter_defers func49,ntmps49;have As:Hid (q2i B (.slice A nl ac) (ws.map wbS) ((((w.alloc (.cells #[.slice none 0 0] 31)).alloc (.cells #[.int .i64 0] 3)).alloc (.cells #[.nilIface] 27)).alloc (.cells #[.string ⟨#[]⟩] 9))):=q2r (q2r (q2r (q2r H1.o (q1w _ _)) (q1w _ _)) (q1w _ _)) (q1w _ _);have Bi:Hid (k5b B (.slice P nl pc) (ps.map fun(k:Nat)=>(k:Int)) ((((w.alloc (.cells #[.slice none 0 0] 31)).alloc (.cells #[.int .i64 0] 3)).alloc (.cells #[.nilIface] 27)).alloc (.cells #[.string ⟨#[]⟩] 9))):=q2r (q2r (q2r (q2r H2.o (q1w _ _)) (q1w _ _)) (q1w _ _)) (q1w _ _)
 have Bk:Hid (Wds ((((w.alloc (.cells #[.slice none 0 0] 31)).alloc (.cells #[.int .i64 0] 3)).alloc (.cells #[.nilIface] 27)).alloc (.cells #[.string ⟨#[]⟩] 9)) (some ⟨w.heap.size+1+1+1,0,none⟩) [⟨#[]⟩]):=by
  intro i hi;have An:i=0:=by simp at hi;omega
  subst An;refine⟨w.heap.size+1+1+1,0,rfl,by simp,?_⟩;simp[go_sem]
 have Ba:Hid (Below w w ((((w.alloc (.cells #[.slice none 0 0] 31)).alloc (.cells #[.int .i64 0] 3)).alloc (.cells #[.nilIface] 27)).alloc (.cells #[.string ⟨#[]⟩] 9))):=(((Zb.alloc Zl _).alloc (by simp) _).alloc (by simp;omega) _).alloc (by simp;omega) _;have Ac:Hid (((((w.alloc (.cells #[.slice none 0 0] 31)).alloc (.cells #[.int .i64 0] 3)).alloc (.cells #[.nilIface] 27)).alloc (.cells #[.string ⟨#[]⟩] 9)).heap.size=w.heap.size+1+1+1+1):=(show _=_ by simp);go_wp2_with(at_builtin;refine z8r rfl _ _ rfl B _ (ws.map wbS) rfl As.o (some ⟨w.heap.size+1+1+1,0,none⟩) 1 [⟨#[]⟩] rfl 1 rfl Bk.o (fun e=>by cases e) (nl+1) (by rw[Bd.o]) (by omega) (by rw[Ac.o];omega) ?_);intro A5 c5 X Ao J;have Az:∀k',(Value.slice A nl ac).ownBlock=some k'->B<=k'/\k'<w.heap.size:=fun k' hk=>World.ownsRow.lt H1.o k' hk
 have A0:∀k',(Value.slice P nl pc).ownBlock=some k'->B<=k'/\k'<w.heap.size:=fun k' hk=>World.ownsRow.lt H2.o k' hk
 have Bw:=J.size;rw[Ac.o]at Bw;have U:∀j,w.heap.size<=j->j<w.heap.size+4->X.heap[j]?=((((w.alloc (.cells #[.slice none 0 0] 31)).alloc (.cells #[.int .i64 0] 3)).alloc (.cells #[.nilIface] 27)).alloc (.cells #[.string ⟨#[]⟩] 9)).heap[j]?:=fun j h1 h2=>J.block j (by rw[Ac.o];omega) (fun e=>by have:=(Az j e.symm).2;omega)
 have Aj:Hid (X.heap[w.heap.size]?=some (.cells #[.slice none 0 0] 31 (0,0))/\X.heap[w.heap.size+1]?=some (.cells #[.int .i64 0] 3 (0,0))/\X.heap[w.heap.size+2]?=some (.cells #[.nilIface] 27 (0,0))):=by
  obtain⟨e1,e2,e3⟩:=y7j w (.cells #[.slice none 0 0] 31) (.cells #[.int .i64 0] 3) (.cells #[.nilIface] 27) (.cells #[.string ⟨#[]⟩] 9);exact⟨(U _ (by omega) (by omega)).trans e1,(U _ (by omega) (by omega)).trans e2,(U _ (by omega) (by omega)).trans e3⟩
 have Bb:Hid (Below B w X):=(Ba.o.mono hB).grown J (by rw[Ac.o];omega) (fun k' hk=>(Az k' hk).1);have Be:Hid (q2i B (.slice A5 (nl+1) c5) (ws.map wbS++[⟨#[]⟩]) (X.alloc (.cells #[.int .i64 (k:Int)] 3))):=q2r Ao (q1w _ _);have Au:Hid (k5b B (.slice P nl pc) (ps.map fun(k:Nat)=>(k:Int)) (X.alloc (.cells #[.int .i64 (k:Int)] 3))):=q2r (k9t Bi.o As.o (by decide) J) (q1w _ _)
 have Bl:Hid (q9s (X.alloc (.cells #[.int .i64 (k:Int)] 3)) (some ⟨X,0,none⟩) [(k:Int)]):=by
  intro i hi;have An:i=0:=by simp at hi;omega
  subst An;refine⟨X.heap.size,0,rfl,by simp,?_⟩;simp[go_sem]
 have Ad:Hid ((X.alloc (.cells #[.int .i64 (k:Int)] 3)).heap.size=X.heap.size+1):=World.size_alloc ..;have Bg:Hid ((ps.map fun(k:Nat)=>(k:Int)).length=nl):=(show _=_ by rw[List.length_map,At.o,Aa.o]);go_wp2_with(at_builtin;refine v4j rfl _ _ rfl B _ (ps.map fun(k:Nat)=>(k:Int)) rfl Au.o (some ⟨X,0,none⟩) 1 [(k:Int)] rfl 1 rfl Bl.o (fun e=>by cases e) (nl+1) (by rw[Bg.o]) (by omega) (by rw[Ad.o];omega) ?_);intro P7 c7 u Ap L;have Bx:=L.size;rw[Ad.o]at Bx;have Br:=k9t Be.o Au.o (by decide) L;obtain⟨gw,ga,rfl,rfl,B6,B5,B0,Bz,Bv⟩:=v7v Aa.o Ai At.o Br Ap;have Ag:∀j,w.heap.size<=j->j<w.heap.size+4->u.heap[j]?=X.heap[j]?:=fun j h1 h2=>(L.block j (by rw[Ad.o];omega) (fun e=>by have:=(A0 j e.symm).2;omega)).trans (Lib.alloc_old X _ j (by omega))
 have Ax:Hid (g0x ⟨gw,c5,ga,c7⟩ ws (plE ps k) B w.heap.size u.heap.size w 0 false [] (.slice none 0 0) (u.alloc (.cells #[.slice (some ⟨gw,0,none⟩) (nl+1) c5,.slice (some ⟨ga,0,none⟩) (nl+1) c7] 159))):=by
  have Al:∀j,w.heap.size<=j->j<w.heap.size+4->(u.alloc (.cells #[.slice (some ⟨gw,0,none⟩) (nl+1) c5,.slice (some ⟨ga,0,none⟩) (nl+1) c7] 159)).heap[j]?=X.heap[j]?:=fun j h1 h2=>(Lib.alloc_old u _ j (by omega)).trans (Ag j h1 h2)
  refine⟨Bv,q4f.nil _ _,(Al _ (by omega) (by omega)).trans Aj.o.1,(Al _ (by omega) (by omega)).trans Aj.o.2.1,(Al _ (by omega) (by omega)).trans Aj.o.2.2,?_,fun r hr=>hr,(fun e=>by cases e),Nat.zero_le _,by rw[World.size_alloc];omega⟩;have Bm:Below B w u:=(Bb.o.alloc (by omega) _).grown L (by rw[Ad.o];omega) (fun k' hk=>(A0 k' hk).1);exact Bm.alloc (by omega) _
 have hH:w.heap.size+4<=u.heap.size:=by omega
 have d:gw<u.heap.size:=B0;have b:ga<u.heap.size:=Bz;have Q:B<=u.heap.size:=by omega
 have Af:B<=w.heap.size:=hB;go_wp2_with fail;generalize Bu:u.heap.size=rb at Ax hH d b Q;have B4:Hid (u.heap.size=rb):=Bu
 go_loopw [19] (fun _ wr=>∃(q:Nat)(pv:Bool)(H:List (List Td))(A:Option Addr)(n c:Nat),H.length=n/\g0x ⟨gw,c5,ga,c7⟩ ws (plE ps k) B w.heap.size rb w q pv H (.slice A n c) wr) (fun _ wr=>j2w wr rb)
 case atStart=>exact⟨0,false,[],none,0,0,rfl,Ax.o⟩
 case round=>
  obtain⟨q,pv,H,A,n,c,Ah,a⟩:=hrel;have Z:=hid a;have Y:Hid (H.length=n):=Ah;have B2:=a.rd.le;have A7:=a.nl;rw[Ah]at A7;have B9:=a.sz;have e0:wr.cell? ⟨w,0,none⟩=some (.slice A n c):=by rw[Lib.cell_of_heap a.b0];rfl
  have f0:wr.frozen? ⟨w,0,none⟩=false:=Lib.frozen_of_heap a.b0 0;have s:Hid (Cw 79 #[.pointer (some ⟨rb,0,none⟩)] wr (.string (wbS (ws.getD q [])))):=(q6t a.rd).mono fun _ _ h=>⟨h.1,h.2.symm⟩
  have B3:=Aa.o;by_cases hq:q<ws.length
  ·rw[q3z hq]at s
   have A1:¬(wbS ws[q]).toList=[]:=by
    rw[Lib.toList_data];exact y1v (Aw.o _ (List.getElem_mem hq))
   have A2:((wbS ws[q]).toList==[])=false:=by
    cases h:((wbS ws[q]).toList==[])with
    | false=>rfl
    | true=>exact absurd (by simpa using h) A1
   have B1:(⟨#[]⟩:ByteArray).toList=[]:=by rw[Lib.toList_data]
   have Av:Hid (Cp 80 #[.pointer (some ⟨rb,0,none⟩)] wr.drew fun e w'=>z6j ⟨gw,c5,ga,c7⟩ ws (plE ps k) rb q wr.drew e w'):=v4b Aw.o Bj.o hq (fun w' hb=>HT.o w' (a.bl.trans ((show But wr rb wr w' from hb.undrew).low (by omega) Q))) (a.rd.keep (Below.drew Zb));generalize wbS ws[q]=S at s A1 A2;go_wp2_with fail;refine s.o.mono ?_;rintro e w1⟨rfl,rfl⟩;go_wp2_with fail;refine wp_region_any (by kernel_rfl) ?_
   try (change wpAny _ _ _ _ _ _ _ (World.drew _))
   refine wpAny_ready (rs:=[0,1]) (by kernel_rfl) (by simp) ?_;refine AllReady.cons rfl (fun K hK=>?_) (AllReady.cons rfl (fun K hK=>?_) AllReady.nil)
   ·go_simp
    refine hK _ _ ?_;refine wpAny_ready (rs:=[1]) (by kernel_rfl) (by simp) ?_;refine AllReady.cons rfl (fun K hK=>?_) AllReady.nil
    go_simp
    refine Av.o.mono ?_;intro e E hG;cases hG with
    | @bad u4 _ pg4 bt4=>
     have Aq:wr.heap.size<=E.heap.size:=bt4.size;have R:But wr rb wr E:=bt4.undrew;have x0:E.heap[w.heap.size]?=some (.cells #[.slice A n c] 31 (0,0)):=(R.block _ (by omega) (by omega)).trans Z.o.b0;have x1:E.heap[w.heap.size+1]?=some (.cells #[.int .i64 0] 3 (0,0)):=(R.block _ (by omega) (by omega)).trans Z.o.b1;have x2:E.heap[w.heap.size+2]?=some (.cells #[.nilIface] 27 (0,0)):=(R.block _ (by omega) (by omega)).trans Z.o.b2;have Am:Below B w E:=Z.o.bl.trans (R.low (by omega) Q)
     have z:Hid (CallsD prog 78 #[.pointer (some ⟨w,0,none⟩),.pointer (some ⟨w.heap.size+1,0,none⟩),.pointer (some ⟨w.heap.size+1+1,0,none⟩)] (.panicking [q5w (plE ps k (ws.length-u4.length))]) E fun e u' w'=>e=.returned (.tuple #[])/\u'=.panicking [{v:=.iface 156 (.agg #[.int .i64 (plE ps k (ws.length-u4.length):Int)]),recovered:=true}]/\w'.cell? ⟨w,0,none⟩=some (.slice none 0 0)/\w'.cell? ⟨w.heap.size+1,0,none⟩=some (.int .i64 (plE ps k (ws.length-u4.length):Int))/\w'.cell? ⟨w.heap.size+1+1,0,none⟩=some (.iface 24 (.int .i64 5))/\k5d ws (plE ps k) B w (.returned (.tuple #[.slice none 0 0,.int .i64 (plE ps k (ws.length-u4.length):Int),.iface 24 (.int .i64 5)])) w'):=by
      refine(z6g w.heap.size (w.heap.size+1) (w.heap.size+1+1) _ E _ _ _ (by rw[Lib.cell_of_heap x0];rfl) (by rw[Lib.cell_of_heap x1];rfl) (by rw[Lib.cell_of_heap x2];rfl) (Lib.frozen_of_heap x0 0) (Lib.frozen_of_heap x1 0) (Lib.frozen_of_heap x2 0) (by omega) (by omega) (by omega) (by omega) (by omega) (by omega)).mono ?_;rintro e u' w'⟨r1,r2,r3,r4,r5,r6⟩;exact⟨r1,r2,r3,r4,r5,.bad (Z.o.pg _ (pg4 pv H)) (Am.trans (r6 B (by omega) (by omega) (by omega)))⟩
     generalize plE ps k (ws.length-u4.length)=pp at z⊢;go_wp2;refine leaves_cons (f:=78) (args:=#[.pointer (some ⟨w,0,none⟩),.pointer (some ⟨w.heap.size+1,0,none⟩),.pointer (some ⟨w.heap.size+1+1,0,none⟩)]) (by simp) (by simp[go_sem]) ?_;refine z.o.mono ?_;rintro e u' w'⟨rfl,rfl,r3,r4,r5,r6⟩;simp[Leaves,settle,results,Tryz.results49,go_sem,r3,r4,r5];exact r6
    | @ok q4 n4 t A4 c4 _ hg=>
     obtain⟨g,rfl⟩:∃g,A4=some ⟨g,0,none⟩:=by
      cases t with
      | nil=>exact absurd rfl hg.ne
      | cons y r=>exact z1p hg.o
     have D:Hid (g0w ⟨gw,c5,ga,c7⟩ ws (plE ps k) B w.heap.size rb w q4 n4 H (.slice A n c) t g c4 E):=y8t Z.o hH Q hg;have Ab:Hid (q<q4/\q4<=ws.length):=⟨hg.lt,hg.rd.le⟩;have Aq:=D.o.sz;have e4:E.cell? ⟨w,0,none⟩=some (.slice A n c):=by rw[Lib.cell_of_heap D.o.b0];rfl
     have Bq:w.heap.size<E.heap.size:=by omega
     have Ar:=hg.l;generalize V:t.length=tl at Ar;have Ae:Hid (t.length=tl):=V
     have O:Hid (q4f (rb+1) (.slice A n c) H (E.alloc (.cells #[.slice (some ⟨g,0,none⟩) tl c4] 59))/\q1b (rb+1) (.slice (some ⟨g,0,none⟩) tl c4) t (E.alloc (.cells #[.slice (some ⟨g,0,none⟩) tl c4] 59))/\(E.alloc (.cells #[.slice (some ⟨g,0,none⟩) tl c4] 59)).cell? ⟨E,0,none⟩=some (.slice (some ⟨g,0,none⟩) tl c4)):=by
      have h8:=k0j D.o.o D.o.tt;rw[V]at h8;exact h8
     refine hK _ _ ?_;refine wpAny_ready (rs:=[2]) (by kernel_rfl) (by simp) ?_;refine AllReady.cons rfl (fun K hK=>?_) AllReady.nil
     go_simp
     refine hK _ _ ?_;refine wpAny_ready (rs:=[3]) (by kernel_rfl) (by simp) ?_;refine AllReady.cons rfl (fun K hK=>?_) AllReady.nil;refine q8l rfl _ _ rfl (rb+1) (.slice A n c) H rfl O.o.1 E.heap.size g tl c4 t Ae.o rfl O.o.2.2 O.o.2.1 (n+1) (by rw[Y.o]) (by omega) (by rw[World.size_alloc];omega) ?_;intro A6 c6 m N C;have M:=y5h D.o hH Q Af d b N C;have I:=hid M
     have d6:m.cell? ⟨w,0,none⟩=some (.slice A n c):=by
      have G:Below (rb+1) E m:=((q1w E _).mono (by omega)).grown C (by rw[World.size_alloc];omega) (fun k hk=>D.o.o.own_le hk);rw[Lib.cell_of_heap ((G.block _ (by omega)).trans D.o.b0)];rfl
     have f6:m.frozen? ⟨w,0,none⟩=false:=by
      have G:Below (rb+1) E m:=((q1w E _).mono (by omega)).grown C (by rw[World.size_alloc];omega) (fun k hk=>D.o.o.own_le hk);exact Lib.frozen_of_heap ((G.block _ (by omega)).trans D.o.b0) 0
     refine hK _ _ ?_;refine wpAny_ready (rs:=[4]) (by kernel_rfl) (by simp) ?_;refine AllReady.cons rfl (fun K hK=>?_) AllReady.nil
     go_simp
     refine hK _ _ ?_;refine wpAny_done (by kernel_rfl) ?_ _;go_wp2;refine⟨⟨_,_,H++[t],A6,n+1,c6,by rw[List.length_append,Y.o];rfl,I.o⟩,?_⟩;rw[I.o.rd.len_eq,Z.o.rd.len_eq]
     have:=Ab.o
     omega
   ·go_simp
    refine Av.o.mono ?_;intro e E hG;cases hG with
    | @bad u4 _ pg4 bt4=>
     have Aq:wr.heap.size<=E.heap.size:=bt4.size;have R:But wr rb wr E:=bt4.undrew;have x0:E.heap[w.heap.size]?=some (.cells #[.slice A n c] 31 (0,0)):=(R.block _ (by omega) (by omega)).trans Z.o.b0;have x1:E.heap[w.heap.size+1]?=some (.cells #[.int .i64 0] 3 (0,0)):=(R.block _ (by omega) (by omega)).trans Z.o.b1;have x2:E.heap[w.heap.size+2]?=some (.cells #[.nilIface] 27 (0,0)):=(R.block _ (by omega) (by omega)).trans Z.o.b2;have Am:Below B w E:=Z.o.bl.trans (R.low (by omega) Q)
     have z:Hid (CallsD prog 78 #[.pointer (some ⟨w,0,none⟩),.pointer (some ⟨w.heap.size+1,0,none⟩),.pointer (some ⟨w.heap.size+1+1,0,none⟩)] (.panicking [q5w (plE ps k (ws.length-u4.length))]) E fun e u' w'=>e=.returned (.tuple #[])/\u'=.panicking [{v:=.iface 156 (.agg #[.int .i64 (plE ps k (ws.length-u4.length):Int)]),recovered:=true}]/\w'.cell? ⟨w,0,none⟩=some (.slice none 0 0)/\w'.cell? ⟨w.heap.size+1,0,none⟩=some (.int .i64 (plE ps k (ws.length-u4.length):Int))/\w'.cell? ⟨w.heap.size+1+1,0,none⟩=some (.iface 24 (.int .i64 5))/\k5d ws (plE ps k) B w (.returned (.tuple #[.slice none 0 0,.int .i64 (plE ps k (ws.length-u4.length):Int),.iface 24 (.int .i64 5)])) w'):=by
      refine(z6g w.heap.size (w.heap.size+1) (w.heap.size+1+1) _ E _ _ _ (by rw[Lib.cell_of_heap x0];rfl) (by rw[Lib.cell_of_heap x1];rfl) (by rw[Lib.cell_of_heap x2];rfl) (Lib.frozen_of_heap x0 0) (Lib.frozen_of_heap x1 0) (Lib.frozen_of_heap x2 0) (by omega) (by omega) (by omega) (by omega) (by omega) (by omega)).mono ?_;rintro e u' w'⟨r1,r2,r3,r4,r5,r6⟩;exact⟨r1,r2,r3,r4,r5,.bad (Z.o.pg _ (pg4 pv H)) (Am.trans (r6 B (by omega) (by omega) (by omega)))⟩
     generalize plE ps k (ws.length-u4.length)=pp at z⊢;go_wp2;refine leaves_cons (f:=78) (args:=#[.pointer (some ⟨w,0,none⟩),.pointer (some ⟨w.heap.size+1,0,none⟩),.pointer (some ⟨w.heap.size+1+1,0,none⟩)]) (by simp) (by simp[go_sem]) ?_;refine z.o.mono ?_;rintro e u' w'⟨rfl,rfl,r3,r4,r5,r6⟩;simp[Leaves,settle,results,Tryz.results49,go_sem,r3,r4,r5];exact r6
    | @ok q4 n4 t A4 c4 _ hg=>
     obtain⟨g,rfl⟩:∃g,A4=some ⟨g,0,none⟩:=by
      cases t with
      | nil=>exact absurd rfl hg.ne
      | cons y r=>exact z1p hg.o
     have D:Hid (g0w ⟨gw,c5,ga,c7⟩ ws (plE ps k) B w.heap.size rb w q4 n4 H (.slice A n c) t g c4 E):=y8t Z.o hH Q hg;have Ab:Hid (q<q4/\q4<=ws.length):=⟨hg.lt,hg.rd.le⟩;have Aq:=D.o.sz;have e4:E.cell? ⟨w,0,none⟩=some (.slice A n c):=by rw[Lib.cell_of_heap D.o.b0];rfl
     have Bq:w.heap.size<E.heap.size:=by omega
     have Ar:=hg.l;generalize V:t.length=tl at Ar;have Ae:Hid (t.length=tl):=V
     have O:Hid (q4f (rb+1) (.slice A n c) H (E.alloc (.cells #[.slice (some ⟨g,0,none⟩) tl c4] 59))/\q1b (rb+1) (.slice (some ⟨g,0,none⟩) tl c4) t (E.alloc (.cells #[.slice (some ⟨g,0,none⟩) tl c4] 59))/\(E.alloc (.cells #[.slice (some ⟨g,0,none⟩) tl c4] 59)).cell? ⟨E,0,none⟩=some (.slice (some ⟨g,0,none⟩) tl c4)):=by
      have h8:=k0j D.o.o D.o.tt;rw[V]at h8;exact h8
     refine hK _ _ ?_;refine wpAny_ready (rs:=[0,2]) (by kernel_rfl) (by simp) ?_;refine AllReady.cons rfl (fun K hK=>?_) (AllReady.cons rfl (fun K hK=>?_) AllReady.nil)
     ·go_simp
      refine hK _ _ ?_;refine wpAny_ready (rs:=[2]) (by kernel_rfl) (by simp) ?_;refine AllReady.cons rfl (fun K hK=>?_) AllReady.nil
      go_simp
      refine hK _ _ ?_;refine wpAny_ready (rs:=[3]) (by kernel_rfl) (by simp) ?_;refine AllReady.cons rfl (fun K hK=>?_) AllReady.nil;refine q8l rfl _ _ rfl (rb+1) (.slice A n c) H rfl O.o.1 E.heap.size g tl c4 t Ae.o rfl O.o.2.2 O.o.2.1 (n+1) (by rw[Y.o]) (by omega) (by rw[World.size_alloc];omega) ?_;intro A6 c6 m N C;have M:=y5h D.o hH Q Af d b N C;have I:=hid M
      have d6:m.cell? ⟨w,0,none⟩=some (.slice A n c):=by
       have G:Below (rb+1) E m:=((q1w E _).mono (by omega)).grown C (by rw[World.size_alloc];omega) (fun k hk=>D.o.o.own_le hk);rw[Lib.cell_of_heap ((G.block _ (by omega)).trans D.o.b0)];rfl
      have f6:m.frozen? ⟨w,0,none⟩=false:=by
       have G:Below (rb+1) E m:=((q1w E _).mono (by omega)).grown C (by rw[World.size_alloc];omega) (fun k hk=>D.o.o.own_le hk);exact Lib.frozen_of_heap ((G.block _ (by omega)).trans D.o.b0) 0
      refine hK _ _ ?_;refine wpAny_ready (rs:=[4]) (by kernel_rfl) (by simp) ?_;refine AllReady.cons rfl (fun K hK=>?_) AllReady.nil
      go_simp
      refine hK _ _ ?_;refine wpAny_done (by kernel_rfl) ?_ _;go_wp2;refine⟨⟨_,_,H++[t],A6,n+1,c6,by rw[List.length_append,Y.o];rfl,I.o⟩,?_⟩;rw[I.o.rd.len_eq,Z.o.rd.len_eq]
      have:=Ab.o
      omega
     ·go_simp
      refine hK _ _ ?_;refine wpAny_ready (rs:=[0]) (by kernel_rfl) (by simp) ?_;refine AllReady.cons rfl (fun K hK=>?_) AllReady.nil
      go_simp
      refine hK _ _ ?_;refine wpAny_ready (rs:=[3]) (by kernel_rfl) (by simp) ?_;refine AllReady.cons rfl (fun K hK=>?_) AllReady.nil;refine q8l rfl _ _ rfl (rb+1) (.slice A n c) H rfl O.o.1 E.heap.size g tl c4 t Ae.o rfl O.o.2.2 O.o.2.1 (n+1) (by rw[Y.o]) (by omega) (by rw[World.size_alloc];omega) ?_;intro A6 c6 m N C;have M:=y5h D.o hH Q Af d b N C;have I:=hid M
      have d6:m.cell? ⟨w,0,none⟩=some (.slice A n c):=by
       have G:Below (rb+1) E m:=((q1w E _).mono (by omega)).grown C (by rw[World.size_alloc];omega) (fun k hk=>D.o.o.own_le hk);rw[Lib.cell_of_heap ((G.block _ (by omega)).trans D.o.b0)];rfl
      have f6:m.frozen? ⟨w,0,none⟩=false:=by
       have G:Below (rb+1) E m:=((q1w E _).mono (by omega)).grown C (by rw[World.size_alloc];omega) (fun k hk=>D.o.o.own_le hk);exact Lib.frozen_of_heap ((G.block _ (by omega)).trans D.o.b0) 0
      refine hK _ _ ?_;refine wpAny_ready (rs:=[4]) (by kernel_rfl) (by simp) ?_;refine AllReady.cons rfl (fun K hK=>?_) AllReady.nil
      go_simp
      refine hK _ _ ?_;refine wpAny_done (by kernel_rfl) ?_ _;go_wp2;refine⟨⟨_,_,H++[t],A6,n+1,c6,by rw[List.length_append,Y.o];rfl,I.o⟩,?_⟩;rw[I.o.rd.len_eq,Z.o.rd.len_eq]
      have:=Ab.o
      omega
  ·have B8:q=ws.length:=by omega
   rw[q6y (by omega)]at s;have Ay:wbS []=⟨#[]⟩:=rfl;rw[Ay]at s;have Bo:ws.drop q=[]:=List.drop_eq_nil_of_le (by omega);have Bs:=a.pg _ (by rw[Bo];exact .done);have x1:=a.b1;have x2:=a.b2;have e1:wr.cell? ⟨w.heap.size+1,0,none⟩=some (.int .i64 0):=by rw[Lib.cell_of_heap x1];rfl
   have e2:wr.cell? ⟨w.heap.size+1+1,0,none⟩=some .nilIface:=by rw[Lib.cell_of_heap x2];rfl
   have f1:=Lib.frozen_of_heap x1 0;have f2:=Lib.frozen_of_heap x2 0;have Bh:=hid a.o;have Bc:=hid a.bl;have Bf:=hid Bs;go_wp2_with fail;refine s.o.mono ?_;rintro e w1⟨rfl,rfl⟩;go_wp2;generalize hW:((wr.setCell ⟨w,0,none⟩ (.slice A n c)).setCell ⟨w.heap.size+1,0,none⟩ (.int .i64 0)).setCell ⟨w.heap.size+1+1,0,none⟩ .nilIface=W;have hz:W.heap.size=wr.heap.size:=by rw[<-hW,World.size_setCell,World.size_setCell,World.size_setCell]
   have r1:W.cell? ⟨w,0,none⟩=some (.slice A n c):=by
    rw[<-hW];exact(cso (.inl (by omega))).trans ((cso (.inl (by omega))).trans (css e0))
   have r2:W.cell? ⟨w.heap.size+1,0,none⟩=some (.int .i64 0):=by
    rw[<-hW];exact(cso (.inl (by omega))).trans (css ((cso (.inl (by omega))).trans e1))
   have r3:W.cell? ⟨w.heap.size+1+1,0,none⟩=some .nilIface:=by
    rw[<-hW];exact css ((cso (.inl (by omega))).trans ((cso (.inl (by omega))).trans e2))
   have Bp:∀j,rb+1<=j->W.heap[j]?=wr.heap[j]?:=fun j hj=>by
    rw[<-hW];exact(Below.heap_setCell _ _ _ _ (by show j≠w.heap.size+1+1;omega)).trans ((Below.heap_setCell _ _ _ _ (by show j≠w.heap.size+1;omega)).trans (Below.heap_setCell _ _ _ _ (by show j≠w.heap.size;omega)))
   have Bn:Below B w W:=by
    rw[<-hW];exact((Bc.o.setCell (p:=⟨w,0,none⟩) Af _).setCell (p:=⟨w.heap.size+1,0,none⟩) (by show B<=w.heap.size+1;omega) _).setCell (p:=⟨w.heap.size+1+1,0,none⟩) (by show B<=w.heap.size+1+1;omega) _
   have A8:=Bh.o.kept fun j h1 _=>Bp j h1
   refine leaves_cons (f:=78) (args:=#[.pointer (some ⟨w,0,none⟩),.pointer (some ⟨w.heap.size+1,0,none⟩),.pointer (some ⟨w.heap.size+1+1,0,none⟩)]) (by simp) (by simp[go_sem]) ?_;refine(k7o ⟨w,0,none⟩ ⟨w.heap.size+1,0,none⟩ ⟨w.heap.size+1+1,0,none⟩ W).mono ?_;rintro e u' w'⟨rfl,rfl,bW⟩;obtain⟨Ak,_⟩:=q0s bW;have q1:=(Ak w.heap.size 0 (by omega)).trans r1;have q2:=(Ak (w.heap.size+1) 0 (by omega)).trans r2;have q3:=(Ak (w.heap.size+1+1) 0 (by omega)).trans r3
   have M:k5d ws (plE ps k) B w (.returned (.tuple #[.slice A n c,.int .i64 0,.nilIface])) w':=by
    have hn:=Y.o;subst hn;exact .ok Bf.o (A8.prg.W bW) A8.cell.2.1 (Bn.trans (bW.mono (by omega)))
   simp[Leaves,settle,results,Tryz.results49,go_sem,q1,q2,q3];exact M
end Go.Proofs.YtchdplceopegoaaGreatDoor
