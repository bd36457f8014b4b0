import Derived.Test.YtfdppahhbpfnoaaGreatDoorPi30
import Derived.RegionDies
open Go.Proofs.Tryz
namespace Go.Proofs.YtfdppahhbpfnoaaGreatDoor
open Go Go.RowKit
set_option maxRecDepth 100000
set_option maxHeartbeats 8000000
section
variable {K:LwK} {ws:List Wd} {pl:Nat→Nat} {b p q:Nat} {w:World}
theorem v6l(D:∀x∈ws,q3b x)(hq:q<ws.length)(hn:nmW ws[q]=true)(h:Ry K ws pl b q w):
  Calls prog 128 #[.pointer (some ⟨b,0,none⟩)] w fun e w'=>e=.returned (.string (wbS ws[q]))/\Ry K ws pl b (q+1) w'/\But w b w w':=by
 obtain⟨G,_,C⟩:=v6j h (q3x hq) (.inr (D _ (List.getElem_mem hq)));rw[hn]at C;have A:=(show Hid (Calls _ _ _ _ _)from G);have B:=(show Hid (Calls _ _ _ _ _)from C);have E:Hid (Calls prog 175 #[.pointer (some ⟨b,0,none⟩)] w fun e w'=>e=.returned (.string (wbS ws[q]))/\Ry K ws pl b (q+1) w'/\But w b w w'):=q8l h hq;generalize wbS ws[q]=S at A B E⊢;clear G C h hn;go_in;go_wp2_with fail;refine A.o.mono ?_;rintro e J⟨rfl,rfl⟩;go_wp2_with fail;refine B.o.mono ?_;rintro e J⟨rfl,rfl⟩;go_wp2_with fail;refine E.o.mono ?_;rintro e J⟨rfl,I,H⟩;have L:=hid (And.intro I H);clear I H;go_wp2;go_ret;exact⟨rfl,L.o⟩
theorem v6k(G:∀x∈ws,q3b x)(hn:∀x,ws[q]?=some x->nmW x=false)(h:Ry K ws pl b q w):
  Calls prog 128 #[.pointer (some ⟨b,0,none⟩)] w fun e w'=>e=.panicked [q4u (pl q)]/\w=w':=by
 have J:(ws.getD q [])=[]\/q3b (ws.getD q []):=by
  by_cases D:q<ws.length
  ·rw[q3x D];exact .inr (G _ (List.getElem_mem D))
  ·exact .inl (q6x (by omega))
 have C:nmW (ws.getD q [])=false:=by
  by_cases D:q<ws.length
  ·rw[q3x D];exact hn _ (List.getElem?_eq_getElem D)
  ·rw[q6x (by omega)];decide
 obtain⟨I,_,E⟩:=v6j h rfl J;rw[C]at E;have A:=(show Hid (Calls _ _ _ _ _)from I);have B:=(show Hid (Calls _ _ _ _ _)from E);have H:Hid (Calls prog 177 #[.pointer (some ⟨b,0,none⟩)] w fun e w'=>e=.panicked [q4u (pl q)]/\w=w'):=(k2r h).mono fun _ _ h=>⟨h.1,h.2.symm⟩
 generalize wbS (ws.getD q [])=S at A B;generalize pl q=pp at H⊢;clear I E h hn J C;go_in;go_wp2_with fail;refine A.o.mono ?_;rintro e L⟨rfl,rfl⟩;go_wp2_with fail;refine B.o.mono ?_;rintro e L⟨rfl,rfl⟩;go_wp2_with fail;refine H.o.mono ?_;rintro e L⟨rfl,rfl⟩;go_wp2;exact⟨rfl,rfl,rfl⟩
theorem j9h(h:j1w K ws pl b q):(∃m ns u,PR (.level 0) (ws.drop q) (.ok m ns u)/\∀w:World,Ry K ws pl b q w->Calls prog 130 #[.pointer (some ⟨b,0,none⟩)] w fun e w'=>∃A c,e=.returned (.slice A ns.length c)/\v1f K ws pl b (.level 0) q w m ns u (.slice A ns.length c) w')\/
  (∀w:World,Ry K ws pl b q w->Calls prog 130 #[.pointer (some ⟨b,0,none⟩)] w fun e w'=>∃u,e=.panicked [q4u (pl (ws.length-u.length))]/\PR (.level 0) (ws.drop q) (.bad u)/\But w b w w'):=by
 by_cases C:∃m ns u,PR (.level 0) (ws.drop q) (.ok m ns u)
 ·obtain⟨m,ns,u,B⟩:=C;refine .inl ⟨m,ns,u,B,fun w hw=>(h w hw).mono fun e w' hG=>?_⟩;cases hG with
  | bad pr _=>cases q3h B pr
  | @ok m2 ns2 u2 A c _ hg=>
   cases q3h B hg.pr;exact⟨A,c,rfl,hg⟩
 ·refine .inr fun w hw=>(h w hw).mono fun e w' hG=>?_
  cases hG with
  | @bad u _ pr bt=>exact⟨u,rfl,pr,bt⟩
  | ok hg=>exact absurd ⟨_,_,_,hg.pr⟩ C
structure z9y(K:LwK)(ws:List Wd)(pl:Nat->Nat)(b:Nat)(w:World)(q:Nat)(x:Td)(wc:World):Prop where
 rd:Ry K ws pl b q wc
 bt:But w b w wc
 bx:wc.heap[w.heap.size]?=some (.cells #[.int .i64 x.op,.string x.tx,.int .i64 x.n] 47 (0,0))
 gw:K.gw<w.heap.size
 ga:K.ga<w.heap.size
 lb:b<w.heap.size
theorem z9y.but{x:Td}{wc w':World}{q':Nat}(h:z9y K ws pl b w q x wc)(hb:But wc b wc w')(hr:Ry K ws pl b q' w'):z9y K ws pl b w q' x w':=by
 have A:=(Array.getElem?_eq_some_iff.1 h.bx).1
 have:=h.lb
 exact⟨hr,h.bt.trans (hb.mono (by omega)),(hb.block _ A (by omega)).trans h.bx,h.gw,h.ga,h.lb⟩
theorem z9y.put{x:Td}{wc:World}(h:z9y K ws pl b w q x wc)(y:Td):z9y K ws pl b w q y (((wc.setCell ⟨w,0,none⟩ (.int .i64 y.op)).setCell ⟨w,1,none⟩ (.string y.tx)).setCell ⟨w,2,none⟩ (.int .i64 y.n)):=by
 have A:=h.gw;have B:=h.ga;have C:=h.lb;refine⟨((h.rd.far (by omega) (by omega) (by omega)).far (by omega) (by omega) (by omega)).far (by omega) (by omega) (by omega),((h.bt.setCell (p:=⟨w,0,none⟩) (.inr Zl) _).setCell (p:=⟨w,1,none⟩) (.inr Zl) _).setCell (p:=⟨w,2,none⟩) (.inr Zl) _,?_,A,B,C⟩;simp[World.setCell,Array.getElem?_modify,h.bx]
structure v8v(K:LwK)(ws:List Wd)(pl:Nat->Nat)(b p:Nat)(w:World)(q:Nat)(x:Td)(wc:World):Prop where
 le:p<=q
 rd:Ry K ws pl b q wc
 bt:But w b w wc
 bx:wc.heap[w.heap.size]?=some (.cells #[.int .i64 x.op,.string x.tx,.int .i64 x.n] 47 (0,0))
 ok:∀m ns u,PR (.level 0) (ws.drop q) (.ok m ns ([59]::u))->∀pv acc r,PG false (acc++[x::ns]) u r->PG pv acc (ws.drop p) r
 bad1:∀u,PR (.level 0) (ws.drop q) (.bad u)->∀pv acc,PG pv acc (ws.drop p) (.bad u)
 bad2:∀m ns u,PR (.level 0) (ws.drop q) (.ok m ns u)->u.head?≠some [59]->∀pv acc,PG pv acc (ws.drop p) (.bad u)
theorem v8v.kept{x:Td}{wc w':World}(h:v8v K ws pl b p w q x wc)(hb:Below wc wc w')(hw:w.heap.size<=wc.heap.size):v8v K ws pl b p w q x w':=
 ⟨h.le,h.rd.keep hb,h.bt.trans (But.of (hb.mono hw)),(hb.block _ (Array.getElem?_eq_some_iff.1 h.bx).1).trans h.bx,h.ok,h.bad1,h.bad2⟩
structure k8h(K:LwK)(ws:List Wd)(pl:Nat->Nat)(b:Nat)(w:World)(q:Nat)(t:List Td)(v:Value)(w':World):Prop where
 o:q0w w v t w'
 rd:Ry K ws pl b q w'
 bt:But w b w w'
 sz:w.heap.size<=w'.heap.size
theorem k8h.grown{t t2:List Td}{v v2 v3:Value}{w1 w2:World}(h:k8h K ws pl b w q t v w1)(hw:w.heap.size<=w1.heap.size)(hb:b<w.heap.size)(C:K.gw<w.heap.size)(B:K.ga<w.heap.size)(hg:w1.grownBy w2 v2.ownBlock)(ho:∀k,v2.ownBlock=some k->w.heap.size<=k)(ht:q0w w v3 t2 w2):k8h K ws pl b w q t2 v3 w2:=by
 have A:Below w w1 w2:= Zb.grown hg hw ho;exact⟨ht,h.rd.keepB A hb C B,h.bt.trans (But.of A),Nat.le_trans hw hg.size⟩
end
theorem v1b{K:LwK}{ws:List Wd}{pl:Nat->Nat}{b p:Nat}{w:World}(j:∀x∈ws,q3b x)(l:(ws.map List.length).sum<=60000)(hp:p<ws.length)(Ak:∀w',But w b w w'->z2u w')(h:Ry K ws pl b p w):
  Calls prog 81 #[.pointer (some ⟨b,0,none⟩)] w fun e w'=>z1g K ws pl b p w e w':=by
 have hX:=q3x hp
 have i:Hid (Calls prog 80 #[.pointer (some ⟨b,0,none⟩)] w fun e w'=>e=.returned (.string (wbS ws[p]))/\w=w'):=by
  have v:=(q6o h).mono fun _ _ h=>And.intro h.1 h.2.symm
  rw[hX]at v;exact v
 have U:Hid (Calls prog 125 #[.string (wbS ws[p])] w fun e w'=>e=.returned (.bool (decide (ws[p].headD 0=35)))/\w=w'):=(z5n _ w).mono fun _ _ h=>⟨h.1,h.2.symm⟩
 have Y:b<w.heap.size:=h.row.lt;have z:=h.gwlt;have y:=h.galt;have A3:=h.few;by_cases d:ws[p].headD 0=35
 ·rw[decide_eq_true d]at U;have HN:Hid (Calls prog 126 #[.pointer (some ⟨b,0,none⟩)] w fun e w'=>z1g K ws pl b p w e w'):=j1k j l hp d Ak h;generalize wbS ws[p]=S at i U;clear h j Ak hX d l;go_in;go_wp2_with fail;refine i.o.mono ?_;rintro e w1⟨rfl,rfl⟩;go_wp2_with fail;refine U.o.mono ?_;rintro e w1⟨rfl,rfl⟩;go_wp2_with fail;refine HN.o.mono ?_;intro e w1 hG;cases hG with
  | @bad u _ pg bt=>
   have HB:Hid (z1g K ws pl b p w (.panicked [q4u (pl (ws.length-u.length))]) w1):=.bad pg bt;clear pg bt;go_wp2;exact⟨rfl,HB.o⟩
  | @ok q n t A c _ hg=>
   have HB:Hid (z1g K ws pl b p w (.returned (.slice A t.length c)) w1):=.ok hg;clear hg;generalize t.length=nl at HB⊢;go_wp2;go_ret;exact HB.o
 ·rw[decide_eq_false d]at U;have Ag:Ry K ws pl b p (w.alloc (.cells #[.int .i64 8,.string ⟨#[]⟩,.int .i64 0] 47)):=h.keep (q4b w _);have HD:Hid (ws.drop p=ws[p]::ws.drop (p+1)):=q4p hp;by_cases M:ws[p]=z1x
  ·have hm:ws[p]?=some z1x:=by rw[List.getElem?_eq_getElem hp,M]
   have HH:Hid (Calls prog 127 #[.pointer (some ⟨b,0,none⟩),.string ⟨#[108,101,116]⟩] (w.alloc (.cells #[.int .i64 8,.string ⟨#[]⟩,.int .i64 0] 47)) fun e w'=>e=.returned (.bool true)/\z9y K ws pl b w (p+1) doT w'):=by
    refine(q7n Ag z1x hm).mono ?_;rintro e w'⟨rfl,v,b1⟩;exact⟨rfl,z9y.but (q:=p) ⟨Ag,But.of (q4b w _),heap_alloc_new w _,z,y,Y⟩ b1 v⟩
   have Ae:Hid (ws.drop p=z1x::ws.drop (p+1)):=by
    show _=_;rw[HD.o,M]
   by_cases a:∃h:p+1<ws.length,nmW ws[p+1]=true
   ·obtain⟨Aw,a⟩:=a;have Aj:Hid (ws.drop (p+1)=ws[p+1]::ws.drop (p+2)):=q4p Aw
    have HN:Hid (∀W,z9y K ws pl b w (p+1) doT W->Calls prog 128 #[.pointer (some ⟨b,0,none⟩)] W fun e w'=>e=.returned (.string (wbS ws[p+1]))/\z9y K ws pl b w (p+2) doT w'):=fun W hW=>by
     refine(v6l j Aw a hW.rd).mono ?_;rintro e w'⟨rfl,v,b1⟩;exact⟨rfl,hW.but b1 v⟩
    by_cases Al:ws[p+2]?=some [61]
    ·obtain⟨Az,Av⟩:=List.getElem?_eq_some_iff.1 Al
     have Ap:Hid (ws.drop (p+2)=[61]::ws.drop (p+3)):=by
      show _=_;rw[q4p Az,Av]
     have HM:Hid (∀W,z9y K ws pl b w (p+2) (j1p ws[p+1]) W->Calls prog 129 #[.pointer (some ⟨b,0,none⟩),.string ⟨#[61]⟩] W fun e w'=>e=.returned (.tuple #[])/\v8v K ws pl b p w (p+3) (j1p ws[p+1]) w'):=fun W hW=>by
      refine(q6n hW.rd [61] Al).mono ?_;rintro e w'⟨rfl,v,b1⟩;have h2:=hW.but b1 v;refine⟨rfl,by omega,h2.rd,h2.bt,h2.bx,fun m I u G pv acc r hr=>?_,fun u G pv acc=>?_,fun m I u G hu pv acc=>?_⟩
      ·rw[Ae.o,Aj.o,Ap.o];exact .letO a G hr
      ·rw[Ae.o,Aj.o,Ap.o];exact .letB a G
      ·rw[Ae.o,Aj.o,Ap.o];exact .letX a G hu
     have Ar:Hid (j1w K ws pl b (p+3)):=k8f j (by omega);have Af:Hid (∀wc,z9y K ws pl b w (p+2) doT wc->z9y K ws pl b w (p+2) (j1p ws[p+1]) (((wc.setCell ⟨w,0,none⟩ (.int .i64 7)).setCell ⟨w,1,none⟩ (.string (wbS ws[p+1]))).setCell ⟨w,2,none⟩ (.int .i64 0))):=fun wc h=>h.put (j1p ws[p+1])
     have Aq:Hid ((j1p ws[p+1])=⟨7,wbS ws[p+1],0⟩):=rfl;generalize j1p ws[p+1]=xL at HM Af Aq;generalize wbS ws[p+1]=S1 at HN Af Aq;generalize wbS ws[p]=S at i U;clear h j Ak hX d l Ag M hm a Al Av HD Aj Ap Ae;go_in;go_wp2_with fail;refine i.o.mono ?_;rintro e w1⟨rfl,rfl⟩;go_wp2_with fail;refine U.o.mono ?_;rintro e w1⟨rfl,rfl⟩;go_wp2_with fail;refine HH.o.mono ?_;rintro e w1⟨rfl,v⟩;have K1:=hid v;clear v HH;go_wp2_with fail;refine(HN.o _ K1.o).mono ?_;rintro e w2⟨rfl,h2⟩;have K2:=hid h2;have N:=h2.bx;have d0:w2.cell? ⟨w,0,none⟩=some (.int .i64 8):=by rw[Lib.cell_of_heap N];rfl
     have d1:w2.cell? ⟨w,1,none⟩=some (.string ⟨#[]⟩):=by rw[Lib.cell_of_heap N];rfl
     have d2:w2.cell? ⟨w,2,none⟩=some (.int .i64 0):=by rw[Lib.cell_of_heap N];rfl
     have f0:w2.frozen? ⟨w,0,none⟩=false:=Lib.frozen_of_heap N 0;have f1:w2.frozen? ⟨w,1,none⟩=false:=Lib.frozen_of_heap N 1;have f2:w2.frozen? ⟨w,2,none⟩=false:=Lib.frozen_of_heap N 2;clear h2 N K1 HN;go_wp2_with fail;refine(HM.o _ (Af.o _ K2.o)).mono ?_;rintro e wc⟨rfl,hS⟩;have P:Hid (v8v K ws pl b p w (p+3) xL wc):=hS;clear hS HM Af K2 d0 d1 d2 f0 f1 f2;have Ax:=Aq.o;subst Ax;clear Aq;have Ad:=P.o.bt.size;have A2:w.heap.size<wc.heap.size:=(Array.getElem?_eq_some_iff.1 P.o.bx).1;have Am:b<wc.heap.size:=P.o.rd.row.lt;have s:=P.o.bx;have d0:wc.cell? ⟨w,0,none⟩=some (.int .i64 7):=by rw[Lib.cell_of_heap s];rfl
     have d1:wc.cell? ⟨w,1,none⟩=some (.string S1):=by rw[Lib.cell_of_heap s];rfl
     have d2:wc.cell? ⟨w,2,none⟩=some (.int .i64 0):=by rw[Lib.cell_of_heap s];rfl
     clear s;rcases j9h Ar.o with⟨m,I,u,G,J⟩|J
     ·have Ac:=q5i G;have hu:ws.drop (ws.length-u.length)=u:=q7f Ac.1;have O:=Ac.2 m I u rfl;rw[q0h]at O;simp only[Job.eats]at O;have Ay:=P.o.le;have Au:=P.o.rd.le
      have HC:Hid (∀W,Below wc wc W->Calls prog 130 #[.pointer (some ⟨b,0,none⟩)] W fun e w'=>∃A c,e=.returned (.slice A I.length c)/\k8h K ws pl b w (ws.length-u.length) I (.slice A I.length c) w'/\I.length<=60000/\w'.heap[w.heap.size]?=some (.cells #[.int .i64 7,.string S1,.int .i64 0] 47 (0,0))/\But W b W w'):=fun W hW=>by
       refine(J W (P.o.rd.keep hW)).mono ?_;rintro e w'⟨A,c,rfl,hg⟩;have A1:=hW.size;have hK:=P.o.kept hW Ad;have A0:=hg.bt.size;have As:=hg.n;rw[q0h]at As;exact⟨A,c,rfl,⟨hg.o.down (by omega),hg.rd,hK.bt.trans (hg.bt.mono (by omega)),by omega⟩,by omega,(hg.bt.block _ (by omega) (by omega)).trans hK.bx,hg.bt⟩
      clear J;generalize Ab:I.length=nl at HC;have V:Hid (I.length=nl):=Ab;clear Ab;by_cases R:ws[ws.length-u.length]?=some [59]
      ·obtain⟨Ah,An⟩:=List.getElem?_eq_some_iff.1 R
       have Ao:u=[59]::ws.drop (ws.length-u.length+1):=by
        have Q:=q4p Ah;rw[hu,An]at Q;exact Q
       have HM:Hid (∀A c f,k8h K ws pl b w (ws.length-u.length) ((⟨7,S1,0⟩:Td)::I) (.slice A (1+nl) c) f->nl<=60000->Calls prog 129 #[.pointer (some ⟨b,0,none⟩),.string ⟨#[59]⟩] f fun e w'=>e=.returned (.tuple #[])/\z1g K ws pl b p w (.returned (.slice A (1+nl) c)) w'):=fun A c f hF hnn=>by
        refine(q6n hF.rd [59] R).mono ?_;rintro e w7⟨rfl,h7,b7⟩;have Ab:=V.o;subst Ab;have hz:=hF.sz;refine⟨rfl,?_⟩;have Z:((⟨7,S1,0⟩:Td)::I).length=1+I.length:=by rw[List.length_cons];omega
        have Ai:=G;rw[Ao]at Ai;have Q:=z1g.ok (K:=K) (ws:=ws) (pl:=pl) (b:=b) (p:=p) (w:=w) (q:=ws.length-u.length+1) (n:=false) (t:=(⟨7,S1,0⟩:Td)::I) (A:=A) (c:=c) (w':=w7) ⟨by omega,by rw[Z];exact hF.o.but2 b7 Y,by simp,by rw[Z];omega,h7,hF.bt.trans (b7.mono hz),fun pv acc r _ hr=>P.o.ok m I _ Ai pv acc r hr,fun e=>by cases e⟩;rw[Z]at Q;exact Q
       clear Ao An R Ah hu Ac O G;go_wp2_with fail
       go_region_law (first
        | (refine q2e rfl _ _ rfl w.heap.size (.slice (some ⟨wc,0,none⟩) 1 1) [(⟨7,S1,0⟩:Td)] rfl (((show q0w wc (.slice (some ⟨wc,0,none⟩) 1 1) [(⟨7,S1,0⟩:Td)] (wc.alloc _).drew from q0w.one wc (⟨7,S1,0⟩:Td)).but2 X Am).down Ad) A4 nl I V.o c4 rfl B.o.tds B.o.none.2 (1+nl) rfl (by omega) B.sz ?_;intro A6 c6 f D C;have H:=B.grown B.sz Y z y C (fun k hk=>by have e9:wc.heap.size=k:=(by simpa[Value.ownBlock]using hk);omega) D)
        | (refine q2e rfl _ _ rfl w.heap.size (.slice (some ⟨L,0,none⟩) 1 1) [(⟨7,S1,0⟩:Td)] rfl ((q0w.one L (⟨7,S1,0⟩:Td)).down B.sz) A4 nl I V.o c4 rfl (B.o.tds.alloc _) B.o.none.2 (1+nl) rfl (by omega) (by rw[World.size_alloc];have:=B.sz;omega) ?_;intro A6 c6 f D C;have H:=k8h.grown ⟨B.o.kept fun g _ h5=>Lib.alloc_old L _ g h5,B.rd.keep (q4b L _),B.bt.alloc B.sz _,by rw[World.size_alloc];have:=B.sz;omega⟩ (by rw[World.size_alloc];have:=B.sz;omega) Y z y C (fun k hk=>by have e9:L.heap.size=k:=(by simpa[Value.ownBlock]using hk);have:=B.sz;omega) D)
        | (go_simp;refine(HC.o _ (by first|exact k3b _ _|exact Below.drew Zb)).mono ?_;rintro e L⟨A4,c4,rfl,B,Aa,E,X⟩;have g0:L.cell? ⟨w,0,none⟩=some (.int .i64 7):=(by rw[Lib.cell_of_heap E];rfl);have g1:L.cell? ⟨w,1,none⟩=some (.string S1):=(by rw[Lib.cell_of_heap E];rfl);have g2:L.cell? ⟨w,2,none⟩=some (.int .i64 0):=(by rw[Lib.cell_of_heap E];rfl);clear E))
       all_goals
        have K6:=hid (HM.o _ _ _ H Aa);clear H D C Aa B X;go_wp2_with fail;refine(Calls.mono K6.o ?_);rintro e w7⟨rfl,h7⟩;have K7:Hid (z1g K ws pl b p w (.returned (.slice A6 (1+nl) c6)) w7):=h7;clear h7;go_wp2;go_ret;exact K7.o
      ·have HM:Hid (∀A c f,k8h K ws pl b w (ws.length-u.length) ((⟨7,S1,0⟩:Td)::I) (.slice A (1+nl) c) f->Calls prog 129 #[.pointer (some ⟨b,0,none⟩),.string ⟨#[59]⟩] f fun e w'=>e=.panicked [q4u (pl (ws.length-u.length))]/\z1g K ws pl b p w (.panicked [q4u (pl (ws.length-u.length))]) w'):=fun A c f hF=>by
        refine(q7o hF.rd [59] (by simp) R).mono ?_;rintro e w7⟨rfl,rfl⟩;refine⟨rfl,.bad (fun pv acc=>P.o.bad2 m I u G ?_ pv acc) hF.bt⟩;rw[<-hu,q2m];exact R
       clear R hu Ac O G;generalize pl (ws.length-u.length)=pp at HM;go_wp2_with fail
       go_region_law (first
        | (refine q2e rfl _ _ rfl w.heap.size (.slice (some ⟨wc,0,none⟩) 1 1) [(⟨7,S1,0⟩:Td)] rfl (((show q0w wc (.slice (some ⟨wc,0,none⟩) 1 1) [(⟨7,S1,0⟩:Td)] (wc.alloc _).drew from q0w.one wc (⟨7,S1,0⟩:Td)).but2 X Am).down Ad) A4 nl I V.o c4 rfl B.o.tds B.o.none.2 (1+nl) rfl (by omega) B.sz ?_;intro A6 c6 f D C;have H:=B.grown B.sz Y z y C (fun k hk=>by have e9:wc.heap.size=k:=(by simpa[Value.ownBlock]using hk);omega) D)
        | (refine q2e rfl _ _ rfl w.heap.size (.slice (some ⟨L,0,none⟩) 1 1) [(⟨7,S1,0⟩:Td)] rfl ((q0w.one L (⟨7,S1,0⟩:Td)).down B.sz) A4 nl I V.o c4 rfl (B.o.tds.alloc _) B.o.none.2 (1+nl) rfl (by omega) (by rw[World.size_alloc];have:=B.sz;omega) ?_;intro A6 c6 f D C;have H:=k8h.grown ⟨B.o.kept fun g _ h5=>Lib.alloc_old L _ g h5,B.rd.keep (q4b L _),B.bt.alloc B.sz _,by rw[World.size_alloc];have:=B.sz;omega⟩ (by rw[World.size_alloc];have:=B.sz;omega) Y z y C (fun k hk=>by have e9:L.heap.size=k:=(by simpa[Value.ownBlock]using hk);have:=B.sz;omega) D)
        | (go_simp;refine(HC.o _ (by first|exact k3b _ _|exact Below.drew Zb)).mono ?_;rintro e L⟨A4,c4,rfl,B,Aa,E,X⟩;have g0:L.cell? ⟨w,0,none⟩=some (.int .i64 7):=(by rw[Lib.cell_of_heap E];rfl);have g1:L.cell? ⟨w,1,none⟩=some (.string S1):=(by rw[Lib.cell_of_heap E];rfl);have g2:L.cell? ⟨w,2,none⟩=some (.int .i64 0):=(by rw[Lib.cell_of_heap E];rfl);clear E))
       all_goals
        have K6:=hid (HM.o _ _ _ H);clear H D C Aa B X;go_wp2_with fail;refine(Calls.mono K6.o ?_);rintro e w7⟨rfl,h7⟩;have K7:Hid (z1g K ws pl b p w (.panicked [q4u pp]) w7):=h7;clear h7;go_wp2;exact⟨rfl,K7.o⟩
     ·have HC:Hid (∀W,Below wc wc W->Calls prog 130 #[.pointer (some ⟨b,0,none⟩)] W fun e w'=>∃u:List Wd,e=.panicked [q4u (pl (ws.length-u.length))]/\z1g K ws pl b p w (.panicked [q4u (pl (ws.length-u.length))]) w'):=fun W hW=>by
       refine(J W (P.o.rd.keep hW)).mono ?_;rintro e w'⟨u,rfl,pr,bt⟩
       have:=hW.size
       exact⟨u,rfl,.bad (P.o.bad1 u pr) ((P.o.kept hW Ad).bt.trans (bt.mono (by omega)))⟩
      clear J;go_wp2_with fail
      go_region_dies
      all_goals
       refine(HC.o _ (by first|exact k3b _ _|exact Below.drew Zb)).mono ?_;rintro e w'⟨u,rfl,Q⟩;exact⟨rfl,Q⟩
    ·have HM:Hid (∀W,z9y K ws pl b w (p+2) (j1p ws[p+1]) W->Calls prog 129 #[.pointer (some ⟨b,0,none⟩),.string ⟨#[61]⟩] W fun e w'=>e=.panicked [q4u (pl (p+2))]/\z1g K ws pl b p w (.panicked [q4u (pl (p+2))]) w'):=fun W hW=>by
      refine(q7o hW.rd [61] (by simp) Al).mono ?_;rintro e w'⟨rfl,rfl⟩;have Q:=z1g.bad (K:=K) (ws:=ws) (pl:=pl) (b:=b) (p:=p) (w:=w) (u:=ws.drop (p+2)) (w':=w') (fun pv acc=>by rw[Ae.o,Aj.o];exact .letE a (by rw[q2m];exact Al)) hW.bt;rw[q0h,show ws.length-(ws.length-(p+2))=p+2 by omega]at Q;exact⟨rfl,Q⟩
     have Af:Hid (∀wc,z9y K ws pl b w (p+2) doT wc->z9y K ws pl b w (p+2) (j1p ws[p+1]) (((wc.setCell ⟨w,0,none⟩ (.int .i64 7)).setCell ⟨w,1,none⟩ (.string (wbS ws[p+1]))).setCell ⟨w,2,none⟩ (.int .i64 0))):=fun wc h=>h.put (j1p ws[p+1])
     generalize j1p ws[p+1]=xL at HM Af;generalize wbS ws[p+1]=S1 at HN Af;generalize wbS ws[p]=S at i U;generalize pl (p+2)=pp at HM;clear h j Ak hX d l Ag M hm a Al HD Aj Ae;go_in;go_wp2_with fail;refine i.o.mono ?_;rintro e w1⟨rfl,rfl⟩;go_wp2_with fail;refine U.o.mono ?_;rintro e w1⟨rfl,rfl⟩;go_wp2_with fail;refine HH.o.mono ?_;rintro e w1⟨rfl,v⟩;have K1:=hid v;clear v HH;go_wp2_with fail;refine(HN.o _ K1.o).mono ?_;rintro e w2⟨rfl,h2⟩;have K2:=hid h2;have N:=h2.bx;have d0:w2.cell? ⟨w,0,none⟩=some (.int .i64 8):=by rw[Lib.cell_of_heap N];rfl
     have d1:w2.cell? ⟨w,1,none⟩=some (.string ⟨#[]⟩):=by rw[Lib.cell_of_heap N];rfl
     have d2:w2.cell? ⟨w,2,none⟩=some (.int .i64 0):=by rw[Lib.cell_of_heap N];rfl
     have f0:w2.frozen? ⟨w,0,none⟩=false:=Lib.frozen_of_heap N 0;have f1:w2.frozen? ⟨w,1,none⟩=false:=Lib.frozen_of_heap N 1;have f2:w2.frozen? ⟨w,2,none⟩=false:=Lib.frozen_of_heap N 2;clear h2 N K1 HN;go_wp2_with fail;refine(HM.o _ (Af.o _ K2.o)).mono ?_;rintro e wc⟨rfl,Q⟩;have K9:Hid (z1g K ws pl b p w (.panicked [q4u pp]) wc):=Q;clear Q;go_wp2;exact⟨rfl,K9.o⟩
   ·have At:∀x,ws[p+1]?=some x->nmW x=false:=fun x hx=>by
     obtain⟨v,rfl⟩:=List.getElem?_eq_some_iff.1 hx;cases hq:nmW ws[p+1]with
     | false=>rfl
     | true=>exact absurd ⟨v,hq⟩ a
    have HN:Hid (∀W,z9y K ws pl b w (p+1) doT W->Calls prog 128 #[.pointer (some ⟨b,0,none⟩)] W fun e w'=>e=.panicked [q4u (pl (p+1))]/\z1g K ws pl b p w (.panicked [q4u (pl (p+1))]) w'):=fun W hW=>by
     refine(v6k j At hW.rd).mono ?_;rintro e w'⟨rfl,rfl⟩;have Q:=z1g.bad (K:=K) (ws:=ws) (pl:=pl) (b:=b) (p:=p) (w:=w) (u:=ws.drop (p+1)) (w':=W) (fun pv acc=>by rw[Ae.o];exact .letN (fun x hx=>At x (by rw[<-q2m];exact hx))) hW.bt;rw[q0h,show ws.length-(ws.length-(p+1))=p+1 by omega]at Q;exact⟨rfl,Q⟩
    generalize wbS ws[p]=S at i U;generalize pl (p+1)=pp at HN;clear h j Ak hX d l Ag M hm a At HD Ae;go_in;go_wp2_with fail;refine i.o.mono ?_;rintro e w1⟨rfl,rfl⟩;go_wp2_with fail;refine U.o.mono ?_;rintro e w1⟨rfl,rfl⟩;go_wp2_with fail;refine HH.o.mono ?_;rintro e w1⟨rfl,v⟩;have K1:=hid v;clear v HH;go_wp2_with fail;refine(HN.o _ K1.o).mono ?_;rintro e w2⟨rfl,Q⟩;have K9:Hid (z1g K ws pl b p w (.panicked [q4u pp]) w2):=Q;clear Q;go_wp2;exact⟨rfl,K9.o⟩
  ·have hm:ws[p]?≠some z1x:=by rw[List.getElem?_eq_getElem hp];simpa using M
   have HH:Hid (Calls prog 127 #[.pointer (some ⟨b,0,none⟩),.string ⟨#[108,101,116]⟩] (w.alloc (.cells #[.int .i64 8,.string ⟨#[]⟩,.int .i64 0] 47)) fun e w'=>e=.returned (.bool false)/\v8v K ws pl b p w p doT w'):=by
    refine(q8k Ag z1x (by simp) hm).mono ?_;rintro e w'⟨rfl,rfl⟩;refine⟨rfl,Nat.le_refl _,Ag,But.of (q4b w _),heap_alloc_new w _,fun m I u G pv acc r hr=>?_,fun u G pv acc=>?_,fun m I u G hu pv acc=>?_⟩
    ·rw[HD.o]at G⊢;exact .doO d M G hr
    ·rw[HD.o]at G⊢;exact .doB d M G
    ·rw[HD.o]at G⊢;exact .doX d M G hu
   have Ar:Hid (j1w K ws pl b p):=k8f j (by omega);generalize wbS ws[p]=S at i U;clear h j Ak hX d l Ag M hm;go_in;go_wp2_with fail;refine i.o.mono ?_;rintro e w1⟨rfl,rfl⟩;go_wp2_with fail;refine U.o.mono ?_;rintro e w1⟨rfl,rfl⟩;go_wp2_with fail;refine HH.o.mono ?_;rintro e wc⟨rfl,hS⟩;have P:Hid (v8v K ws pl b p w p doT wc):=hS;clear hS HH;have Ad:=P.o.bt.size;have A2:w.heap.size<wc.heap.size:=(Array.getElem?_eq_some_iff.1 P.o.bx).1;have Am:b<wc.heap.size:=P.o.rd.row.lt;have s:=P.o.bx;have d0:wc.cell? ⟨w,0,none⟩=some (.int .i64 8):=by rw[Lib.cell_of_heap s];rfl
   have d1:wc.cell? ⟨w,1,none⟩=some (.string ⟨#[]⟩):=by rw[Lib.cell_of_heap s];rfl
   have d2:wc.cell? ⟨w,2,none⟩=some (.int .i64 0):=by rw[Lib.cell_of_heap s];rfl
   clear s;rcases j9h Ar.o with⟨m,I,u,G,J⟩|J
   ·have Ac:=q5i G;have hu:ws.drop (ws.length-u.length)=u:=q7f Ac.1;have O:=Ac.2 m I u rfl;rw[q0h]at O;simp only[Job.eats]at O;have Ay:=P.o.le;have Au:=P.o.rd.le
    have HC:Hid (∀W,Below wc wc W->Calls prog 130 #[.pointer (some ⟨b,0,none⟩)] W fun e w'=>∃A c,e=.returned (.slice A I.length c)/\k8h K ws pl b w (ws.length-u.length) I (.slice A I.length c) w'/\I.length<=60000/\w'.heap[w.heap.size]?=some (.cells #[.int .i64 8,.string ⟨#[]⟩,.int .i64 0] 47 (0,0))/\But W b W w'):=fun W hW=>by
     refine(J W (P.o.rd.keep hW)).mono ?_;rintro e w'⟨A,c,rfl,hg⟩;have A1:=hW.size;have hK:=P.o.kept hW Ad;have A0:=hg.bt.size;have As:=hg.n;rw[q0h]at As;exact⟨A,c,rfl,⟨hg.o.down (by omega),hg.rd,hK.bt.trans (hg.bt.mono (by omega)),by omega⟩,by omega,(hg.bt.block _ (by omega) (by omega)).trans hK.bx,hg.bt⟩
    clear J;generalize Ab:I.length=nl at HC;have V:Hid (I.length=nl):=Ab;clear Ab;by_cases R:ws[ws.length-u.length]?=some [59]
    ·obtain⟨Ah,An⟩:=List.getElem?_eq_some_iff.1 R
     have Ao:u=[59]::ws.drop (ws.length-u.length+1):=by
      have Q:=q4p Ah;rw[hu,An]at Q;exact Q
     have HM:Hid (∀A c f,k8h K ws pl b w (ws.length-u.length) (doT::I) (.slice A (1+nl) c) f->nl<=60000->Calls prog 129 #[.pointer (some ⟨b,0,none⟩),.string ⟨#[59]⟩] f fun e w'=>e=.returned (.tuple #[])/\z1g K ws pl b p w (.returned (.slice A (1+nl) c)) w'):=fun A c f hF hnn=>by
      refine(q6n hF.rd [59] R).mono ?_;rintro e w7⟨rfl,h7,b7⟩;have Ab:=V.o;subst Ab;have hz:=hF.sz;refine⟨rfl,?_⟩;have Z:(doT::I).length=1+I.length:=by rw[List.length_cons];omega
      have Ai:=G;rw[Ao]at Ai;have Q:=z1g.ok (K:=K) (ws:=ws) (pl:=pl) (b:=b) (p:=p) (w:=w) (q:=ws.length-u.length+1) (n:=false) (t:=doT::I) (A:=A) (c:=c) (w':=w7) ⟨by omega,by rw[Z];exact hF.o.but2 b7 Y,by simp,by rw[Z];omega,h7,hF.bt.trans (b7.mono hz),fun pv acc r _ hr=>P.o.ok m I _ Ai pv acc r hr,fun e=>by cases e⟩;rw[Z]at Q;exact Q
     clear Ao An R Ah hu Ac O G;go_wp2_with fail
     go_region_law (first
      | (refine q2e rfl _ _ rfl w.heap.size (.slice (some ⟨wc,0,none⟩) 1 1) [doT] rfl (((show q0w wc (.slice (some ⟨wc,0,none⟩) 1 1) [doT] (wc.alloc _).drew from q0w.one wc doT).but2 X Am).down Ad) A4 nl I V.o c4 rfl B.o.tds B.o.none.2 (1+nl) rfl (by omega) B.sz ?_;intro A6 c6 f D C;have H:=B.grown B.sz Y z y C (fun k hk=>by have e9:wc.heap.size=k:=(by simpa[Value.ownBlock]using hk);omega) D)
      | (refine q2e rfl _ _ rfl w.heap.size (.slice (some ⟨L,0,none⟩) 1 1) [doT] rfl ((q0w.one L doT).down B.sz) A4 nl I V.o c4 rfl (B.o.tds.alloc _) B.o.none.2 (1+nl) rfl (by omega) (by rw[World.size_alloc];have:=B.sz;omega) ?_;intro A6 c6 f D C;have H:=k8h.grown ⟨B.o.kept fun g _ h5=>Lib.alloc_old L _ g h5,B.rd.keep (q4b L _),B.bt.alloc B.sz _,by rw[World.size_alloc];have:=B.sz;omega⟩ (by rw[World.size_alloc];have:=B.sz;omega) Y z y C (fun k hk=>by have e9:L.heap.size=k:=(by simpa[Value.ownBlock]using hk);have:=B.sz;omega) D)
      | (go_simp;refine(HC.o _ (by first|exact k3b _ _|exact Below.drew Zb)).mono ?_;rintro e L⟨A4,c4,rfl,B,Aa,E,X⟩;have g0:L.cell? ⟨w,0,none⟩=some (.int .i64 8):=(by rw[Lib.cell_of_heap E];rfl);have g1:L.cell? ⟨w,1,none⟩=some (.string ⟨#[]⟩):=(by rw[Lib.cell_of_heap E];rfl);have g2:L.cell? ⟨w,2,none⟩=some (.int .i64 0):=(by rw[Lib.cell_of_heap E];rfl);clear E))
     all_goals
      have K6:=hid (HM.o _ _ _ H Aa);clear H D C Aa B X;go_wp2_with fail;refine(Calls.mono K6.o ?_);rintro e w7⟨rfl,h7⟩;have K7:Hid (z1g K ws pl b p w (.returned (.slice A6 (1+nl) c6)) w7):=h7;clear h7;go_wp2;go_ret;exact K7.o
    ·have HM:Hid (∀A c f,k8h K ws pl b w (ws.length-u.length) (doT::I) (.slice A (1+nl) c) f->Calls prog 129 #[.pointer (some ⟨b,0,none⟩),.string ⟨#[59]⟩] f fun e w'=>e=.panicked [q4u (pl (ws.length-u.length))]/\z1g K ws pl b p w (.panicked [q4u (pl (ws.length-u.length))]) w'):=fun A c f hF=>by
      refine(q7o hF.rd [59] (by simp) R).mono ?_;rintro e w7⟨rfl,rfl⟩;refine⟨rfl,.bad (fun pv acc=>P.o.bad2 m I u G ?_ pv acc) hF.bt⟩;rw[<-hu,q2m];exact R
     clear R hu Ac O G;generalize pl (ws.length-u.length)=pp at HM;go_wp2_with fail
     go_region_law (first
      | (refine q2e rfl _ _ rfl w.heap.size (.slice (some ⟨wc,0,none⟩) 1 1) [doT] rfl (((show q0w wc (.slice (some ⟨wc,0,none⟩) 1 1) [doT] (wc.alloc _).drew from q0w.one wc doT).but2 X Am).down Ad) A4 nl I V.o c4 rfl B.o.tds B.o.none.2 (1+nl) rfl (by omega) B.sz ?_;intro A6 c6 f D C;have H:=B.grown B.sz Y z y C (fun k hk=>by have e9:wc.heap.size=k:=(by simpa[Value.ownBlock]using hk);omega) D)
      | (refine q2e rfl _ _ rfl w.heap.size (.slice (some ⟨L,0,none⟩) 1 1) [doT] rfl ((q0w.one L doT).down B.sz) A4 nl I V.o c4 rfl (B.o.tds.alloc _) B.o.none.2 (1+nl) rfl (by omega) (by rw[World.size_alloc];have:=B.sz;omega) ?_;intro A6 c6 f D C;have H:=k8h.grown ⟨B.o.kept fun g _ h5=>Lib.alloc_old L _ g h5,B.rd.keep (q4b L _),B.bt.alloc B.sz _,by rw[World.size_alloc];have:=B.sz;omega⟩ (by rw[World.size_alloc];have:=B.sz;omega) Y z y C (fun k hk=>by have e9:L.heap.size=k:=(by simpa[Value.ownBlock]using hk);have:=B.sz;omega) D)
      | (go_simp;refine(HC.o _ (by first|exact k3b _ _|exact Below.drew Zb)).mono ?_;rintro e L⟨A4,c4,rfl,B,Aa,E,X⟩;have g0:L.cell? ⟨w,0,none⟩=some (.int .i64 8):=(by rw[Lib.cell_of_heap E];rfl);have g1:L.cell? ⟨w,1,none⟩=some (.string ⟨#[]⟩):=(by rw[Lib.cell_of_heap E];rfl);have g2:L.cell? ⟨w,2,none⟩=some (.int .i64 0):=(by rw[Lib.cell_of_heap E];rfl);clear E))
     all_goals
      have K6:=hid (HM.o _ _ _ H);clear H D C Aa B X;go_wp2_with fail;refine(Calls.mono K6.o ?_);rintro e w7⟨rfl,h7⟩;have K7:Hid (z1g K ws pl b p w (.panicked [q4u pp]) w7):=h7;clear h7;go_wp2;exact⟨rfl,K7.o⟩
   ·have HC:Hid (∀W,Below wc wc W->Calls prog 130 #[.pointer (some ⟨b,0,none⟩)] W fun e w'=>∃u:List Wd,e=.panicked [q4u (pl (ws.length-u.length))]/\z1g K ws pl b p w (.panicked [q4u (pl (ws.length-u.length))]) w'):=fun W hW=>by
     refine(J W (P.o.rd.keep hW)).mono ?_;rintro e w'⟨u,rfl,pr,bt⟩
     have:=hW.size
     exact⟨u,rfl,.bad (P.o.bad1 u pr) ((P.o.kept hW Ad).bt.trans (bt.mono (by omega)))⟩
    clear J;go_wp2_with fail
    go_region_dies
    all_goals
     refine(HC.o _ (by first|exact k3b _ _|exact Below.drew Zb)).mono ?_;rintro e w'⟨u,rfl,Q⟩;exact⟨rfl,Q⟩
theorem j4i(ds:List Nd)(a:Option Addr)(cap:Nat)(hc:ds.length<=cap)(w:World)(hN:q1p w a ds):
  Calls prog 194 #[.slice a ds.length cap] w fun e w'=>e=.returned (.tuple #[.int .i64 (flS ds).size,.bool (flB ds),q1v (q3f ds)])/\Below w w w':=by
 have D:Hid (q1p w a ds):=hN;clear hN;generalize C:flS ds=s;generalize A:flB ds=b;generalize B:q1v (q3f ds)=v;have H:Hid (flS ds=s/\flB ds=b/\q1v (q3f ds)=v):=⟨C,A,B⟩;clear C A B;go_in;go_wp2_with fail;refine(v2v ds a cap hc _ D.o).mono ?_;rintro e G⟨rfl,E⟩;rw[H.o.1,H.o.2.1,H.o.2.2];go_wp2;go_ret3;exact⟨rfl,E⟩
theorem j2p(ds:List Nd)(t:Tr)(hd:ds=t.N)(ht:t.Wf)(hl:ds.length<=400)(a:Option Addr)(cap:Nat)(hc:ds.length<=cap)(w:World)(hN:q1p w a ds):
  Calls prog 162 #[.slice a ds.length cap] w fun e w'=>e=.returned (.int .i64 (lgF t.flat))/\Below w w w':=by
 obtain⟨E,G,H⟩:=j4e ht hd hl;have A:=j4i ds a cap hc w hN;rw[E,G,H,q1l]at A;cases C:t.flat with
 | none=>
  have B:t.isFlat=false:=by simp[Tr.isFlat,C]
  rw[B]at A;have D:Hid (Calls prog 194 #[.slice a ds.length cap] w fun e w'=>e=.returned (.tuple #[.int .i64 t.line.size,.bool false,.nilIface])/\Below w w w'):=A;clear A hN E G H B hd C;rw[lgF];go_in;go_wp2_with fail;refine D.o.mono ?_;rintro e K⟨rfl,I⟩;go_wp2;go_ret;exact⟨rfl,I⟩
 | some s=>
  have B:t.isFlat=true:=by simp[Tr.isFlat,C]
  have J:t.line.size=s.length:=by rw[q8b,C];rfl
  rw[B,J]at A;have D:Hid (Calls prog 194 #[.slice a ds.length cap] w fun e w'=>e=.returned (.tuple #[.int .i64 s.length,.bool true,.nilIface])/\Below w w w'):=A;clear A hN E G H B J hd C;rw[lgF];go_in;go_wp2_with fail;refine D.o.mono ?_;rintro e K⟨rfl,I⟩;go_wp2;go_ret;exact⟨rfl,I⟩
theorem y3e.pr{g n j:Nat}{F:Nat->Q}{x y:Int}{w w':World}(h:y3e g (j*7+4) (j*7+5) (.int .i64 x) (.int .i64 y) w w')(hp:PwR w g n F)(hj:j<n):PwR w' g n (upd F j {F j with nx:=x,dp:=y}):=by
 have A:=(hp.putNx hj x).putDp hj y;rw[z9s,q0m]at A;exact A.kept (by rw[h.2.2.2])
theorem y3e.belX{g a b:Nat}{e f:Value}{w w':World}(h:y3e g a b e f w w')(B:Nat):q0v B g w w':=
 ⟨h.1,h.2.1,h.2.2.1,by rw[h.2.2.2];simp[World.setCell],fun k _ hk=>by rw[h.2.2.2,Below.heap_setCell _ _ _ _ hk,Below.heap_setCell _ _ _ _ hk]⟩
theorem q9y(bp g n i:Nat)(x y:Int)(F:Nat->Q)(w:World)(hi:i<n)(c0:w.cell? ⟨bp,0,none⟩=some (.slice (some ⟨g,0,none⟩) n n))(hp:PwR w g n F):
  Calls prog 193 #[.pointer (some ⟨bp,0,none⟩),.int .i64 i,.int .i64 x,.int .i64 y] w fun e w'=>e=.returned (.tuple #[])/\PwR w' g n (upd F i {F i with nx:=x,dp:=y})/\q0v w g w w':=by
 have k:=hp.get i hi;refine(j2x bp g n i x y w (by omega) c0 _ _ k.c4 k.c5 hp.row.frozen hp.row.frozen).mono ?_;rintro e A⟨rfl,h⟩;exact⟨rfl,h.pr hp hi,h.belX _⟩
theorem v1v(bp g n i:Nat)(F:Nat->Q)(w:World)(hi:i<n)(c0:w.cell? ⟨bp,0,none⟩=some (.slice (some ⟨g,0,none⟩) n n))(hp:PwR w g n F)
  (h6:((F i).op==6)=false) (h9:((F i).op==9)=false) (h7:((F i).op==7)=false) (h8:((F i).op==8)=false):
  Calls prog 161 #[.pointer (some ⟨bp,0,none⟩),.int .i64 i] w fun e w'=>e=.returned (.tuple #[])/\PwR w' g n F/\q0v w g w w':=by
 obtain⟨E,G,H,I,J,K,L⟩:=hp.get i hi;have C:(i:Int)<n:=by omega
 have D:(0:Int)<=(i:Int):=by omega
 have A:Hid (PwR w g n F):=hp;clear hp hi;generalize F i=q at *;go_in;go_wp2
 go_end0
 have B:Below w w (w.alloc (.cells #[.int .i64 q.op,.string q.tx,.int .i64 q.n,.int .i64 q.en,.int .i64 q.nx,.int .i64 q.dp,.int .i64 q.lg] 222)):= Zb.alloc Zl _;exact⟨rfl,A.o.kept (B.block g A.o.row.lt),q0v.of B⟩
abbrev q5v(q:Q):Obj:=.cells #[.int .i64 q.op,.string q.tx,.int .i64 q.n,.int .i64 q.en,.int .i64 q.nx,.int .i64 q.dp,.int .i64 q.lg] 222
theorem v9m(bp g n i:Nat)(F:Nat->Q)(w:World)(hn:n<=400)(B:i+1<n)(c0:w.cell? ⟨bp,0,none⟩=some (.slice (some ⟨g,0,none⟩) n n))(hp:PwR w g n F)
  (E:(F i).op=7\/(F i).op=8) (x:Int) (hx:IntKind.i64.wrap ((F i).dp+(F i).n)=x):
  Calls prog 161 #[.pointer (some ⟨bp,0,none⟩),.int .i64 i] w fun e w'=>e=.returned (.tuple #[])/\PwR w' g n (upd F (i+1) {F (i+1)with nx:=(F i).nx,dp:=x})/\q0v w g w w':=by
 obtain⟨I,N,O,P,R,S,U⟩:=hp.get i (by omega);have C:(i:Int)<n:=by omega
 have K:(0:Int)<=(i:Int):=by omega
 have L:=z5s hn C;have G:Hid (PwR w g n F):=hp;have H:Hid (w.cell? ⟨bp,0,none⟩=some (.slice (some ⟨g,0,none⟩) n n)):=c0;have M:Hid (∃q,F i=q):=⟨_,rfl⟩;clear hp;generalize F i=q at *;have D:g<w.heap.size:=G.o.row.lt;rcases E with e|e
 all_goals
  rw[e]at I;go_in;go_wp2_with fail;refine(q9y bp g n (i+1) q.nx x F _ B (ka H.o _) (G.o.kept (Below.heap_alloc _ _ _ D))).mono ?_;rintro e V⟨rfl,J,A⟩;go_wp2
  go_end0
  exact⟨rfl,J,(q0v.of ((Below.refl _ w).alloc Zl _)).trans (A.mono (by simp))⟩
theorem v9n(bp g n i j:Nat)(F:Nat->Q)(w:World)(hn:n<=400)(E:i+1<n)(hj:j<n)(K:bp≠g)(c0:w.cell? ⟨bp,0,none⟩=some (.slice (some ⟨g,0,none⟩) n n))(hp:PwR w g n F)
  (G:(F i).op=6) (B:(F (i+1)).en=(j:Int)):
  Calls prog 161 #[.pointer (some ⟨bp,0,none⟩),.int .i64 i] w fun e w'=>e=.returned (.tuple #[])/\PwR w' g n (upd (upd F (i+1) {F (i+1)with nx:=j,dp:=(F i).dp}) j {upd F (i+1) {F (i+1)with nx:=j,dp:=(F i).dp} j with nx:=(F i).nx,dp:=(F i).dp})/\q0v w g w w':=by
 obtain⟨W,l,m,o,r,s,t⟩:=hp.get i (by omega);have N:=(hp.get (i+1) E).c3;rw[B]at N;have L:(i:Int)<n:=by omega
 have S:(i:Int)+1<n:=by omega
 have Y:(0:Int)<=(i:Int):=by omega
 have Z:(0:Int)<=(i:Int)+1:=by omega
 have a:((i:Int)+1).toNat=i+1:=by omega
 have b:=z5s hn L;have P:Hid (PwR w g n F):=hp;have M:g<w.heap.size:=P.o.row.lt;have U:bp<w.heap.size:=World.block_lt_of_cell? w ⟨bp,0,none⟩ c0;have d:Hid (w.cell? ⟨bp,0,none⟩=some (.slice (some ⟨g,0,none⟩) n n)):=c0;have c:∀O,(w.alloc O).cell? ⟨g,(i+1)*7+3,none⟩=some (.int .i64 (j:Int)):=fun O=>ka N O
 have D:∀O,(w.alloc O).cell? ⟨bp,0,none⟩=some (.slice (some ⟨g,0,none⟩) n n):=fun O=>ka c0 O
 rw[G]at W;have f:Hid ((F (i+1)).en=(j:Int)):=B;clear hp B N G;generalize F i=q at *;go_in;go_wp2_with fail;refine(q9y bp g n (i+1) j q.dp F _ E (D _) (P.o.kept (Below.heap_alloc _ _ _ M))).mono ?_;rintro e H⟨rfl,R,A⟩;have h:H.cell? ⟨w,4,none⟩=some (.int .i64 q.nx):=(A.cell (p:=⟨w,4,none⟩) (by simp) (by simp;omega)).trans (by simp[go_sem]);have k:H.cell? ⟨w,5,none⟩=some (.int .i64 q.dp):=(A.cell (p:=⟨w,5,none⟩) (by simp) (by simp;omega)).trans (by simp[go_sem]);have V:H.cell? ⟨bp,0,none⟩=some (.slice (some ⟨g,0,none⟩) n n):=(A.cell (p:=⟨bp,0,none⟩) (by simp;omega) K).trans (D _);have I:Hid (PwR H g n (upd F (i+1) {F (i+1)with nx:=j,dp:=q.dp})):=R;have C:Hid (q0v w g w H):=(q0v.of ((Below.refl _ w).alloc Zl _)).trans (A.mono (by simp));clear R A;go_wp2_with fail;refine(q9y bp g n j q.nx q.dp _ _ hj V I.o).mono ?_;rintro e u⟨rfl,X,J⟩;go_wp2
 go_end0
 exact⟨rfl,X,C.o.trans (J.mono C.o.size)⟩
theorem v1w(bp g n i j:Nat)(F:Nat->Q)(w:World)(hn:n<=400)(E:i+1<n)(hj:j<n)(I:bp≠g)(c0:w.cell? ⟨bp,0,none⟩=some (.slice (some ⟨g,0,none⟩) n n))(hp:PwR w g n F)
  (K:(F i).op=9) (J:(F (i+1)).en=(j:Int)):
  Calls prog 161 #[.pointer (some ⟨bp,0,none⟩),.int .i64 i] w fun e w'=>e=.returned (.tuple #[])/\PwR w' g n (upd (upd F (i+1) {F (i+1)with nx:=(F i).nx,dp:=(F i).dp}) j {upd F (i+1) {F (i+1)with nx:=(F i).nx,dp:=(F i).dp} j with nx:=(F i).nx,dp:=(F i).dp})/\q0v w g w w':=by
 obtain⟨k,t,u,v,x,y,z⟩:=hp.get i (by omega);have W:(i:Int)<n:=by omega
 have d:(i:Int)+1<n:=by omega
 have l:(0:Int)<=(i:Int):=by omega
 have m:(0:Int)<=(i:Int)+1:=by omega
 have o:((i:Int)+1).toNat=i+1:=by omega
 have r:=z5s hn W;have Z:Hid (PwR w g n F):=hp;have X:g<w.heap.size:=Z.o.row.lt;have f:bp<w.heap.size:=World.block_lt_of_cell? w ⟨bp,0,none⟩ c0;have H:∀O,(w.alloc O).cell? ⟨bp,0,none⟩=some (.slice (some ⟨g,0,none⟩) n n):=fun O=>ka c0 O
 rw[K]at k;have Y:Hid ((F (i+1)).en=(j:Int)):=J;clear hp J K;generalize F i=q at *;go_in;go_wp2_with fail;refine(q9y bp g n (i+1) q.nx q.dp F _ E (H _) (Z.o.kept (Below.heap_alloc _ _ _ X))).mono ?_;rintro e B⟨rfl,P,C⟩;have a:B.cell? ⟨w,4,none⟩=some (.int .i64 q.nx):=(C.cell (p:=⟨w,4,none⟩) (by simp) (by simp;omega)).trans (by simp[go_sem]);have b:B.cell? ⟨w,5,none⟩=some (.int .i64 q.dp):=(C.cell (p:=⟨w,5,none⟩) (by simp) (by simp;omega)).trans (by simp[go_sem]);have N:B.cell? ⟨bp,0,none⟩=some (.slice (some ⟨g,0,none⟩) n n):=(C.cell (p:=⟨bp,0,none⟩) (by simp;omega) I).trans (H _)
 have s:B.cell? ⟨g,(i+1)*7+3,none⟩=some (.int .i64 (j:Int)):=by
  have:=(P.get (i+1) E).c3
  rw[q0m]at this;rw[<-Y.o];exact this
 have M:Hid (PwR B g n (upd F (i+1) {F (i+1)with nx:=q.nx,dp:=q.dp})):=P;have G:Hid (q0v w g w B):=(q0v.of ((Below.refl _ w).alloc Zl _)).trans (C.mono (by simp));have L:w.heap.size<B.heap.size:=by have:=C.size;simp at this;omega
 have V:∀A,q0v B.drew.heap.size g B.drew A->A.cell? ⟨bp,0,none⟩=some (.slice (some ⟨g,0,none⟩) n n):=fun A h=>(h.cell (p:=⟨bp,0,none⟩) (by simp;omega) I).trans N
 have S:∀A,q0v B.drew.heap.size g B.drew A->A.cell? ⟨w,4,none⟩=some (.int .i64 q.nx):=fun A h=>(h.cell (p:=⟨w,4,none⟩) L (by simp;omega)).trans a
 have U:∀A,q0v B.drew.heap.size g B.drew A->A.cell? ⟨w,5,none⟩=some (.int .i64 q.dp):=fun A h=>(h.cell (p:=⟨w,5,none⟩) L (by simp;omega)).trans b
 have R:∀A,PwR A g n (upd (upd F (i+1) {F (i+1)with nx:=q.nx,dp:=q.dp}) j {upd F (i+1) {F (i+1)with nx:=q.nx,dp:=q.dp} j with nx:=q.nx,dp:=q.dp})->A.cell? ⟨g,(i+1)*7+3,none⟩=some (.int .i64 (j:Int)):=fun A h=>by
  have:=(h.get (i+1) E).c3
  rw[<-Y.o];by_cases e:i+1=j
  ·subst e;rw[q0m,q0m]at this;exact this
  ·rw[q1j e,q0m]at this;exact this
 clear P C;go_wp2_with fail
 go_region_held3 (fun w'=>w'.cell? ⟨bp,0,none⟩=some (.slice (some ⟨g,0,none⟩) n n)/\w'.cell? ⟨g,(i+1)*7+3,none⟩=some (.int .i64 (j:Int))/\w'.cell? ⟨w,4,none⟩=some (.int .i64 q.nx)/\w'.cell? ⟨w,5,none⟩=some (.int .i64 q.dp))
  (first|exact⟨N,s,a,b⟩|exact⟨V _ D,R _ c,S _ D,U _ D⟩) ((go_at_call 193;refine(q9y bp g n j q.nx q.dp _ B.drew hj N (M.o.kept rfl)).mono ?_;rintro e A⟨rfl,c,D⟩))
 all_goals
  go_wp2
  go_end0
  exact⟨rfl,c,G.o.drew.trans (D.mono G.o.size)⟩
end Go.Proofs.YtfdppahhbpfnoaaGreatDoor
