import Derived.Test.YtfdppahhbpfnoaaGreatDoorPb20
import Derived.Test.YtfdppahhbpfnoaaGreatDoorPb24
import Derived.RegionDies
open Go.Proofs.Tryz
namespace Go.Proofs.YtfdppahhbpfnoaaGreatDoor
open Go Go.RowKit
set_option maxRecDepth 100000
set_option maxHeartbeats 8000000
section
variable {K:LwK} {ws:List Wd} {pl:Nat→Nat} {b p q:Nat} {w:World}
theorem v6y(D:∀x∈ws,q3u x)(hq:q<ws.length)(hn:nmW ws[q]=true)(h:Ry K ws pl b q w):
  Calls prog 128 #[.pointer (some ⟨b,0,none⟩)] w fun e w'=>e=.returned (.string (wbS ws[q]))/\Ry K ws pl b (q+1) w'/\But w b w w':=by
 obtain⟨G,_,C⟩:=v6w h (q3j hq) (.inr (D _ (List.getElem_mem hq)));rw[hn]at C;have A:=(show Hid (Calls _ _ _ _ _)from G);have B:=(show Hid (Calls _ _ _ _ _)from C);have E:Hid (Calls prog 175 #[.pointer (some ⟨b,0,none⟩)] w fun e w'=>e=.returned (.string (wbS ws[q]))/\Ry K ws pl b (q+1) w'/\But w b w w'):=q7v h hq;generalize wbS ws[q]=S at A B E⊢;clear G C h hn;go_in;go_wp2_with fail;refine A.o.mono ?_;rintro e J⟨rfl,rfl⟩;go_wp2_with fail;refine B.o.mono ?_;rintro e J⟨rfl,rfl⟩;go_wp2_with fail;refine E.o.mono ?_;rintro e J⟨rfl,I,H⟩;have L:=hid (And.intro I H);clear I H;go_wp2;go_ret;exact⟨rfl,L.o⟩
theorem v6x(G:∀x∈ws,q3u x)(hn:∀x,ws[q]?=some x->nmW x=false)(h:Ry K ws pl b q w):
  Calls prog 128 #[.pointer (some ⟨b,0,none⟩)] w fun e w'=>e=.panicked [q4g (pl q)]/\w=w':=by
 have J:(ws.getD q [])=[]\/q3u (ws.getD q []):=by
  by_cases D:q<ws.length
  ·rw[q3j D];exact .inr (G _ (List.getElem_mem D))
  ·exact .inl (q6c (by omega))
 have C:nmW (ws.getD q [])=false:=by
  by_cases D:q<ws.length
  ·rw[q3j D];exact hn _ (List.getElem?_eq_getElem D)
  ·rw[q6c (by omega)];decide
 obtain⟨I,_,E⟩:=v6w h rfl J;rw[C]at E;have A:=(show Hid (Calls _ _ _ _ _)from I);have B:=(show Hid (Calls _ _ _ _ _)from E);have H:Hid (Calls prog 177 #[.pointer (some ⟨b,0,none⟩)] w fun e w'=>e=.panicked [q4g (pl q)]/\w=w'):=(k3s h).mono fun _ _ h=>⟨h.1,h.2.symm⟩
 generalize wbS (ws.getD q [])=S at A B;generalize pl q=pp at H⊢;clear I E h hn J C;go_in;go_wp2_with fail;refine A.o.mono ?_;rintro e L⟨rfl,rfl⟩;go_wp2_with fail;refine B.o.mono ?_;rintro e L⟨rfl,rfl⟩;go_wp2_with fail;refine H.o.mono ?_;rintro e L⟨rfl,rfl⟩;go_wp2;exact⟨rfl,rfl,rfl⟩
theorem j9r(h:j2k K ws pl b q):(∃m ns u,PR (.level 0) (ws.drop q) (.ok m ns u)/\∀w:World,Ry K ws pl b q w->Calls prog 130 #[.pointer (some ⟨b,0,none⟩)] w fun e w'=>∃A c,e=.returned (.slice A ns.length c)/\v1t K ws pl b (.level 0) q w m ns u (.slice A ns.length c) w')\/
  (∀w:World,Ry K ws pl b q w->Calls prog 130 #[.pointer (some ⟨b,0,none⟩)] w fun e w'=>∃u,e=.panicked [q4g (pl (ws.length-u.length))]/\PR (.level 0) (ws.drop q) (.bad u)/\But w b w w'):=by
 by_cases C:∃m ns u,PR (.level 0) (ws.drop q) (.ok m ns u)
 ·obtain⟨m,ns,u,B⟩:=C;refine .inl ⟨m,ns,u,B,fun w hw=>(h w hw).mono fun e w' hG=>?_⟩;cases hG with
  | bad pr _=>cases q2v B pr
  | @ok m2 ns2 u2 A c _ hg=>
   cases q2v B hg.pr;exact⟨A,c,rfl,hg⟩
 ·refine .inr fun w hw=>(h w hw).mono fun e w' hG=>?_
  cases hG with
  | @bad u _ pr bt=>exact⟨u,rfl,pr,bt⟩
  | ok hg=>exact absurd ⟨_,_,_,hg.pr⟩ C
structure k0l(K:LwK)(ws:List Wd)(pl:Nat->Nat)(b:Nat)(w:World)(q:Nat)(x:Td)(wc:World):Prop where
 rd:Ry K ws pl b q wc
 bt:But w b w wc
 bx:wc.heap[w.heap.size]?=some (.cells #[.int .i64 x.op,.string x.tx,.int .i64 x.n] 47 (0,0))
 gw:K.gw<w.heap.size
 ga:K.ga<w.heap.size
 lb:b<w.heap.size
theorem k0l.but{x:Td}{wc w':World}{q':Nat}(h:k0l K ws pl b w q x wc)(hb:But wc b wc w')(hr:Ry K ws pl b q' w'):k0l K ws pl b w q' x w':=by
 have A:=(Array.getElem?_eq_some_iff.1 h.bx).1
 have:=h.lb
 exact⟨hr,h.bt.trans (hb.mono (by omega)),(hb.block _ A (by omega)).trans h.bx,h.gw,h.ga,h.lb⟩
theorem k0l.put{x:Td}{wc:World}(h:k0l K ws pl b w q x wc)(y:Td):k0l K ws pl b w q y (((wc.setCell ⟨w,0,none⟩ (.int .i64 y.op)).setCell ⟨w,1,none⟩ (.string y.tx)).setCell ⟨w,2,none⟩ (.int .i64 y.n)):=by
 have A:=h.gw;have B:=h.ga;have C:=h.lb;refine⟨((h.rd.far (by omega) (by omega) (by omega)).far (by omega) (by omega) (by omega)).far (by omega) (by omega) (by omega),((h.bt.setCell (p:=⟨w,0,none⟩) (.inr Zl) _).setCell (p:=⟨w,1,none⟩) (.inr Zl) _).setCell (p:=⟨w,2,none⟩) (.inr Zl) _,?_,A,B,C⟩;simp[World.setCell,Array.getElem?_modify,h.bx]
structure v9y(K:LwK)(ws:List Wd)(pl:Nat->Nat)(b p:Nat)(w:World)(q:Nat)(x:Td)(wc:World):Prop where
 le:p<=q
 rd:Ry K ws pl b q wc
 bt:But w b w wc
 bx:wc.heap[w.heap.size]?=some (.cells #[.int .i64 x.op,.string x.tx,.int .i64 x.n] 47 (0,0))
 ok:∀m ns u,PR (.level 0) (ws.drop q) (.ok m ns ([59]::u))->∀pv acc r,PG false (acc++[x::ns]) u r->PG pv acc (ws.drop p) r
 bad1:∀u,PR (.level 0) (ws.drop q) (.bad u)->∀pv acc,PG pv acc (ws.drop p) (.bad u)
 bad2:∀m ns u,PR (.level 0) (ws.drop q) (.ok m ns u)->u.head?≠some [59]->∀pv acc,PG pv acc (ws.drop p) (.bad u)
theorem v9y.kept{x:Td}{wc w':World}(h:v9y K ws pl b p w q x wc)(hb:Below wc wc w')(hw:w.heap.size<=wc.heap.size):v9y K ws pl b p w q x w':=
 ⟨h.le,h.rd.keep hb,h.bt.trans (But.of (hb.mono hw)),(hb.block _ (Array.getElem?_eq_some_iff.1 h.bx).1).trans h.bx,h.ok,h.bad1,h.bad2⟩
structure k9p(K:LwK)(ws:List Wd)(pl:Nat->Nat)(b:Nat)(w:World)(q:Nat)(t:List Td)(v:Value)(w':World):Prop where
 o:q1s w v t w'
 rd:Ry K ws pl b q w'
 bt:But w b w w'
 sz:w.heap.size<=w'.heap.size
theorem k9p.grown{t t2:List Td}{v v2 v3:Value}{w1 w2:World}(h:k9p K ws pl b w q t v w1)(hw:w.heap.size<=w1.heap.size)(hb:b<w.heap.size)(C:K.gw<w.heap.size)(B:K.ga<w.heap.size)(hg:w1.grownBy w2 v2.ownBlock)(ho:∀k,v2.ownBlock=some k->w.heap.size<=k)(ht:q1s w v3 t2 w2):k9p K ws pl b w q t2 v3 w2:=by
 have A:Below w w1 w2:= Zb.grown hg hw ho;exact⟨ht,h.rd.keepB A hb C B,h.bt.trans (But.of A),Nat.le_trans hw hg.size⟩
end
theorem v1o{K:LwK}{ws:List Wd}{pl:Nat->Nat}{b p:Nat}{w:World}(j:∀x∈ws,q3u x)(l:(ws.map List.length).sum<=60000)(hp:p<ws.length)(Ak:∀w',But w b w w'->z1a w')(h:Ry K ws pl b p w):
  Calls prog 81 #[.pointer (some ⟨b,0,none⟩)] w fun e w'=>z0v K ws pl b p w e w':=by
 have hX:=q3j hp
 have i:Hid (Calls prog 80 #[.pointer (some ⟨b,0,none⟩)] w fun e w'=>e=.returned (.string (wbS ws[p]))/\w=w'):=by
  have v:=(q5x h).mono fun _ _ h=>And.intro h.1 h.2.symm
  rw[hX]at v;exact v
 have U:Hid (Calls prog 125 #[.string (wbS ws[p])] w fun e w'=>e=.returned (.bool (decide (ws[p].headD 0=35)))/\w=w'):=(z5f _ w).mono fun _ _ h=>⟨h.1,h.2.symm⟩
 have Y:b<w.heap.size:=h.row.lt;have z:=h.gwlt;have y:=h.galt;have A3:=h.few;by_cases d:ws[p].headD 0=35
 ·rw[decide_eq_true d]at U;have HN:Hid (Calls prog 126 #[.pointer (some ⟨b,0,none⟩)] w fun e w'=>z0v K ws pl b p w e w'):=j2d j l hp d Ak h;generalize wbS ws[p]=S at i U;clear h j Ak hX d l;go_in;go_wp2_with fail;refine i.o.mono ?_;rintro e w1⟨rfl,rfl⟩;go_wp2_with fail;refine U.o.mono ?_;rintro e w1⟨rfl,rfl⟩;go_wp2_with fail;refine HN.o.mono ?_;intro e w1 hG;cases hG with
  | @bad u _ pg bt=>
   have HB:Hid (z0v K ws pl b p w (.panicked [q4g (pl (ws.length-u.length))]) w1):=.bad pg bt;clear pg bt;go_wp2;exact⟨rfl,HB.o⟩
  | @ok q n t A c _ hg=>
   have HB:Hid (z0v K ws pl b p w (.returned (.slice A t.length c)) w1):=.ok hg;clear hg;generalize t.length=nl at HB⊢;go_wp2;go_ret;exact HB.o
 ·rw[decide_eq_false d]at U;have Ag:Ry K ws pl b p (w.alloc (.cells #[.int .i64 8,.string ⟨#[]⟩,.int .i64 0] 47)):=h.keep (q2m w _);have HD:Hid (ws.drop p=ws[p]::ws.drop (p+1)):=q4b hp;by_cases M:ws[p]=z4d
  ·have hm:ws[p]?=some z4d:=by rw[List.getElem?_eq_getElem hp,M]
   have HH:Hid (Calls prog 127 #[.pointer (some ⟨b,0,none⟩),.string ⟨#[108,101,116]⟩] (w.alloc (.cells #[.int .i64 8,.string ⟨#[]⟩,.int .i64 0] 47)) fun e w'=>e=.returned (.bool true)/\k0l K ws pl b w (p+1) doT w'):=by
    refine(q6w Ag z4d hm).mono ?_;rintro e w'⟨rfl,v,b1⟩;exact⟨rfl,k0l.but (q:=p) ⟨Ag,But.of (q2m w _),heap_alloc_new w _,z,y,Y⟩ b1 v⟩
   have Ae:Hid (ws.drop p=z4d::ws.drop (p+1)):=by
    show _=_;rw[HD.o,M]
   by_cases a:∃h:p+1<ws.length,nmW ws[p+1]=true
   ·obtain⟨Aw,a⟩:=a;have Aj:Hid (ws.drop (p+1)=ws[p+1]::ws.drop (p+2)):=q4b Aw
    have HN:Hid (∀W,k0l K ws pl b w (p+1) doT W->Calls prog 128 #[.pointer (some ⟨b,0,none⟩)] W fun e w'=>e=.returned (.string (wbS ws[p+1]))/\k0l K ws pl b w (p+2) doT w'):=fun W hW=>by
     refine(v6y j Aw a hW.rd).mono ?_;rintro e w'⟨rfl,v,b1⟩;exact⟨rfl,hW.but b1 v⟩
    by_cases Al:ws[p+2]?=some [61]
    ·obtain⟨Az,Av⟩:=List.getElem?_eq_some_iff.1 Al
     have Ap:Hid (ws.drop (p+2)=[61]::ws.drop (p+3)):=by
      show _=_;rw[q4b Az,Av]
     have HM:Hid (∀W,k0l K ws pl b w (p+2) (z6j ws[p+1]) W->Calls prog 129 #[.pointer (some ⟨b,0,none⟩),.string ⟨#[61]⟩] W fun e w'=>e=.returned (.tuple #[])/\v9y K ws pl b p w (p+3) (z6j ws[p+1]) w'):=fun W hW=>by
      refine(q5w hW.rd [61] Al).mono ?_;rintro e w'⟨rfl,v,b1⟩;have h2:=hW.but b1 v;refine⟨rfl,by omega,h2.rd,h2.bt,h2.bx,fun m I u G pv acc r hr=>?_,fun u G pv acc=>?_,fun m I u G hu pv acc=>?_⟩
      ·rw[Ae.o,Aj.o,Ap.o];exact .letO a G hr
      ·rw[Ae.o,Aj.o,Ap.o];exact .letB a G
      ·rw[Ae.o,Aj.o,Ap.o];exact .letX a G hu
     have Ar:Hid (j2k K ws pl b (p+3)):=k9o j (by omega);have Af:Hid (∀wc,k0l K ws pl b w (p+2) doT wc->k0l K ws pl b w (p+2) (z6j ws[p+1]) (((wc.setCell ⟨w,0,none⟩ (.int .i64 7)).setCell ⟨w,1,none⟩ (.string (wbS ws[p+1]))).setCell ⟨w,2,none⟩ (.int .i64 0))):=fun wc h=>h.put (z6j ws[p+1])
     have Aq:Hid ((z6j ws[p+1])=⟨7,wbS ws[p+1],0⟩):=rfl;generalize z6j ws[p+1]=xL at HM Af Aq;generalize wbS ws[p+1]=S1 at HN Af Aq;generalize wbS ws[p]=S at i U;clear h j Ak hX d l Ag M hm a Al Av HD Aj Ap Ae;go_in;go_wp2_with fail;refine i.o.mono ?_;rintro e w1⟨rfl,rfl⟩;go_wp2_with fail;refine U.o.mono ?_;rintro e w1⟨rfl,rfl⟩;go_wp2_with fail;refine HH.o.mono ?_;rintro e w1⟨rfl,v⟩;have K1:=hid v;clear v HH;go_wp2_with fail;refine(HN.o _ K1.o).mono ?_;rintro e w2⟨rfl,h2⟩;have K2:=hid h2;have N:=h2.bx;have d0:w2.cell? ⟨w,0,none⟩=some (.int .i64 8):=by rw[Lib.cell_of_heap N];rfl
     have d1:w2.cell? ⟨w,1,none⟩=some (.string ⟨#[]⟩):=by rw[Lib.cell_of_heap N];rfl
     have d2:w2.cell? ⟨w,2,none⟩=some (.int .i64 0):=by rw[Lib.cell_of_heap N];rfl
     have f0:w2.frozen? ⟨w,0,none⟩=false:=Lib.frozen_of_heap N 0;have f1:w2.frozen? ⟨w,1,none⟩=false:=Lib.frozen_of_heap N 1;have f2:w2.frozen? ⟨w,2,none⟩=false:=Lib.frozen_of_heap N 2;clear h2 N K1 HN;go_wp2_with fail;refine(HM.o _ (Af.o _ K2.o)).mono ?_;rintro e wc⟨rfl,hS⟩;have P:Hid (v9y K ws pl b p w (p+3) xL wc):=hS;clear hS HM Af K2 d0 d1 d2 f0 f1 f2;have Ax:=Aq.o;subst Ax;clear Aq;have Ad:=P.o.bt.size;have A2:w.heap.size<wc.heap.size:=(Array.getElem?_eq_some_iff.1 P.o.bx).1;have Am:b<wc.heap.size:=P.o.rd.row.lt;have s:=P.o.bx;have d0:wc.cell? ⟨w,0,none⟩=some (.int .i64 7):=by rw[Lib.cell_of_heap s];rfl
     have d1:wc.cell? ⟨w,1,none⟩=some (.string S1):=by rw[Lib.cell_of_heap s];rfl
     have d2:wc.cell? ⟨w,2,none⟩=some (.int .i64 0):=by rw[Lib.cell_of_heap s];rfl
     clear s;rcases j9r Ar.o with⟨m,I,u,G,J⟩|J
     ·have Ac:=z0g G;have hu:ws.drop (ws.length-u.length)=u:=q6k Ac.1;have O:=Ac.2 m I u rfl;rw[q0h]at O;simp only[Job.eats]at O;have Ay:=P.o.le;have Au:=P.o.rd.le
      have HC:Hid (∀W,Below wc wc W->Calls prog 130 #[.pointer (some ⟨b,0,none⟩)] W fun e w'=>∃A c,e=.returned (.slice A I.length c)/\k9p K ws pl b w (ws.length-u.length) I (.slice A I.length c) w'/\I.length<=60000/\w'.heap[w.heap.size]?=some (.cells #[.int .i64 7,.string S1,.int .i64 0] 47 (0,0))/\But W b W w'):=fun W hW=>by
       refine(J W (P.o.rd.keep hW)).mono ?_;rintro e w'⟨A,c,rfl,hg⟩;have A1:=hW.size;have hK:=P.o.kept hW Ad;have A0:=hg.bt.size;have As:=hg.n;rw[q0h]at As;exact⟨A,c,rfl,⟨hg.o.down (by omega),hg.rd,hK.bt.trans (hg.bt.mono (by omega)),by omega⟩,by omega,(hg.bt.block _ (by omega) (by omega)).trans hK.bx,hg.bt⟩
      clear J;generalize Ab:I.length=nl at HC;have V:Hid (I.length=nl):=Ab;clear Ab;by_cases R:ws[ws.length-u.length]?=some [59]
      ·obtain⟨Ah,An⟩:=List.getElem?_eq_some_iff.1 R
       have Ao:u=[59]::ws.drop (ws.length-u.length+1):=by
        have Q:=q4b Ah;rw[hu,An]at Q;exact Q
       have HM:Hid (∀A c f,k9p K ws pl b w (ws.length-u.length) ((⟨7,S1,0⟩:Td)::I) (.slice A (1+nl) c) f->nl<=60000->Calls prog 129 #[.pointer (some ⟨b,0,none⟩),.string ⟨#[59]⟩] f fun e w'=>e=.returned (.tuple #[])/\z0v K ws pl b p w (.returned (.slice A (1+nl) c)) w'):=fun A c f hF hnn=>by
        refine(q5w hF.rd [59] R).mono ?_;rintro e w7⟨rfl,h7,b7⟩;have Ab:=V.o;subst Ab;have hz:=hF.sz;refine⟨rfl,?_⟩;have Z:((⟨7,S1,0⟩:Td)::I).length=1+I.length:=by rw[List.length_cons];omega
        have Ai:=G;rw[Ao]at Ai;have Q:=z0v.ok (K:=K) (ws:=ws) (pl:=pl) (b:=b) (p:=p) (w:=w) (q:=ws.length-u.length+1) (n:=false) (t:=(⟨7,S1,0⟩:Td)::I) (A:=A) (c:=c) (w':=w7) ⟨by omega,by rw[Z];exact hF.o.but2 b7 Y,by simp,by rw[Z];omega,h7,hF.bt.trans (b7.mono hz),fun pv acc r _ hr=>P.o.ok m I _ Ai pv acc r hr,fun e=>by cases e⟩;rw[Z]at Q;exact Q
       clear Ao An R Ah hu Ac O G;go_wp2_with fail
       go_region_law (first
        | (refine q1u rfl _ _ rfl w.heap.size (.slice (some ⟨wc,0,none⟩) 1 1) [(⟨7,S1,0⟩:Td)] rfl (((show q1s wc (.slice (some ⟨wc,0,none⟩) 1 1) [(⟨7,S1,0⟩:Td)] (wc.alloc _).drew from q1s.one wc (⟨7,S1,0⟩:Td)).but2 X Am).down Ad) A4 nl I V.o c4 rfl B.o.tds B.o.none.2 (1+nl) rfl (by omega) B.sz ?_;intro A6 c6 f D C;have H:=B.grown B.sz Y z y C (fun k hk=>by have e9:wc.heap.size=k:=(by simpa[Value.ownBlock]using hk);omega) D)
        | (refine q1u rfl _ _ rfl w.heap.size (.slice (some ⟨L,0,none⟩) 1 1) [(⟨7,S1,0⟩:Td)] rfl ((q1s.one L (⟨7,S1,0⟩:Td)).down B.sz) A4 nl I V.o c4 rfl (B.o.tds.alloc _) B.o.none.2 (1+nl) rfl (by omega) (by rw[World.size_alloc];have:=B.sz;omega) ?_;intro A6 c6 f D C;have H:=k9p.grown ⟨B.o.kept fun g _ h5=>Lib.alloc_old L _ g h5,B.rd.keep (q2m L _),B.bt.alloc B.sz _,by rw[World.size_alloc];have:=B.sz;omega⟩ (by rw[World.size_alloc];have:=B.sz;omega) Y z y C (fun k hk=>by have e9:L.heap.size=k:=(by simpa[Value.ownBlock]using hk);have:=B.sz;omega) D)
        | (go_simp;refine(HC.o _ (by first|exact z2o _ _|exact Below.drew Zb)).mono ?_;rintro e L⟨A4,c4,rfl,B,Aa,E,X⟩;have g0:L.cell? ⟨w,0,none⟩=some (.int .i64 7):=(by rw[Lib.cell_of_heap E];rfl);have g1:L.cell? ⟨w,1,none⟩=some (.string S1):=(by rw[Lib.cell_of_heap E];rfl);have g2:L.cell? ⟨w,2,none⟩=some (.int .i64 0):=(by rw[Lib.cell_of_heap E];rfl);clear E))
       all_goals
        have K6:=hid (HM.o _ _ _ H Aa);clear H D C Aa B X;go_wp2_with fail;refine(Calls.mono K6.o ?_);rintro e w7⟨rfl,h7⟩;have K7:Hid (z0v K ws pl b p w (.returned (.slice A6 (1+nl) c6)) w7):=h7;clear h7;go_wp2;go_ret;exact K7.o
      ·have HM:Hid (∀A c f,k9p K ws pl b w (ws.length-u.length) ((⟨7,S1,0⟩:Td)::I) (.slice A (1+nl) c) f->Calls prog 129 #[.pointer (some ⟨b,0,none⟩),.string ⟨#[59]⟩] f fun e w'=>e=.panicked [q4g (pl (ws.length-u.length))]/\z0v K ws pl b p w (.panicked [q4g (pl (ws.length-u.length))]) w'):=fun A c f hF=>by
        refine(q6x hF.rd [59] (by simp) R).mono ?_;rintro e w7⟨rfl,rfl⟩;refine⟨rfl,.bad (fun pv acc=>P.o.bad2 m I u G ?_ pv acc) hF.bt⟩;rw[<-hu,q1z];exact R
       clear R hu Ac O G;generalize pl (ws.length-u.length)=pp at HM;go_wp2_with fail
       go_region_law (first
        | (refine q1u rfl _ _ rfl w.heap.size (.slice (some ⟨wc,0,none⟩) 1 1) [(⟨7,S1,0⟩:Td)] rfl (((show q1s wc (.slice (some ⟨wc,0,none⟩) 1 1) [(⟨7,S1,0⟩:Td)] (wc.alloc _).drew from q1s.one wc (⟨7,S1,0⟩:Td)).but2 X Am).down Ad) A4 nl I V.o c4 rfl B.o.tds B.o.none.2 (1+nl) rfl (by omega) B.sz ?_;intro A6 c6 f D C;have H:=B.grown B.sz Y z y C (fun k hk=>by have e9:wc.heap.size=k:=(by simpa[Value.ownBlock]using hk);omega) D)
        | (refine q1u rfl _ _ rfl w.heap.size (.slice (some ⟨L,0,none⟩) 1 1) [(⟨7,S1,0⟩:Td)] rfl ((q1s.one L (⟨7,S1,0⟩:Td)).down B.sz) A4 nl I V.o c4 rfl (B.o.tds.alloc _) B.o.none.2 (1+nl) rfl (by omega) (by rw[World.size_alloc];have:=B.sz;omega) ?_;intro A6 c6 f D C;have H:=k9p.grown ⟨B.o.kept fun g _ h5=>Lib.alloc_old L _ g h5,B.rd.keep (q2m L _),B.bt.alloc B.sz _,by rw[World.size_alloc];have:=B.sz;omega⟩ (by rw[World.size_alloc];have:=B.sz;omega) Y z y C (fun k hk=>by have e9:L.heap.size=k:=(by simpa[Value.ownBlock]using hk);have:=B.sz;omega) D)
        | (go_simp;refine(HC.o _ (by first|exact z2o _ _|exact Below.drew Zb)).mono ?_;rintro e L⟨A4,c4,rfl,B,Aa,E,X⟩;have g0:L.cell? ⟨w,0,none⟩=some (.int .i64 7):=(by rw[Lib.cell_of_heap E];rfl);have g1:L.cell? ⟨w,1,none⟩=some (.string S1):=(by rw[Lib.cell_of_heap E];rfl);have g2:L.cell? ⟨w,2,none⟩=some (.int .i64 0):=(by rw[Lib.cell_of_heap E];rfl);clear E))
       all_goals
        have K6:=hid (HM.o _ _ _ H);clear H D C Aa B X;go_wp2_with fail;refine(Calls.mono K6.o ?_);rintro e w7⟨rfl,h7⟩;have K7:Hid (z0v K ws pl b p w (.panicked [q4g pp]) w7):=h7;clear h7;go_wp2;exact⟨rfl,K7.o⟩
     ·have HC:Hid (∀W,Below wc wc W->Calls prog 130 #[.pointer (some ⟨b,0,none⟩)] W fun e w'=>∃u:List Wd,e=.panicked [q4g (pl (ws.length-u.length))]/\z0v K ws pl b p w (.panicked [q4g (pl (ws.length-u.length))]) w'):=fun W hW=>by
       refine(J W (P.o.rd.keep hW)).mono ?_;rintro e w'⟨u,rfl,pr,bt⟩
       have:=hW.size
       exact⟨u,rfl,.bad (P.o.bad1 u pr) ((P.o.kept hW Ad).bt.trans (bt.mono (by omega)))⟩
      clear J;go_wp2_with fail
      go_region_dies
      all_goals
       refine(HC.o _ (by first|exact z2o _ _|exact Below.drew Zb)).mono ?_;rintro e w'⟨u,rfl,Q⟩;exact⟨rfl,Q⟩
    ·have HM:Hid (∀W,k0l K ws pl b w (p+2) (z6j ws[p+1]) W->Calls prog 129 #[.pointer (some ⟨b,0,none⟩),.string ⟨#[61]⟩] W fun e w'=>e=.panicked [q4g (pl (p+2))]/\z0v K ws pl b p w (.panicked [q4g (pl (p+2))]) w'):=fun W hW=>by
      refine(q6x hW.rd [61] (by simp) Al).mono ?_;rintro e w'⟨rfl,rfl⟩;have Q:=z0v.bad (K:=K) (ws:=ws) (pl:=pl) (b:=b) (p:=p) (w:=w) (u:=ws.drop (p+2)) (w':=w') (fun pv acc=>by rw[Ae.o,Aj.o];exact .letE a (by rw[q1z];exact Al)) hW.bt;rw[q0h,show ws.length-(ws.length-(p+2))=p+2 by omega]at Q;exact⟨rfl,Q⟩
     have Af:Hid (∀wc,k0l K ws pl b w (p+2) doT wc->k0l K ws pl b w (p+2) (z6j ws[p+1]) (((wc.setCell ⟨w,0,none⟩ (.int .i64 7)).setCell ⟨w,1,none⟩ (.string (wbS ws[p+1]))).setCell ⟨w,2,none⟩ (.int .i64 0))):=fun wc h=>h.put (z6j ws[p+1])
     generalize z6j ws[p+1]=xL at HM Af;generalize wbS ws[p+1]=S1 at HN Af;generalize wbS ws[p]=S at i U;generalize pl (p+2)=pp at HM;clear h j Ak hX d l Ag M hm a Al HD Aj Ae;go_in;go_wp2_with fail;refine i.o.mono ?_;rintro e w1⟨rfl,rfl⟩;go_wp2_with fail;refine U.o.mono ?_;rintro e w1⟨rfl,rfl⟩;go_wp2_with fail;refine HH.o.mono ?_;rintro e w1⟨rfl,v⟩;have K1:=hid v;clear v HH;go_wp2_with fail;refine(HN.o _ K1.o).mono ?_;rintro e w2⟨rfl,h2⟩;have K2:=hid h2;have N:=h2.bx;have d0:w2.cell? ⟨w,0,none⟩=some (.int .i64 8):=by rw[Lib.cell_of_heap N];rfl
     have d1:w2.cell? ⟨w,1,none⟩=some (.string ⟨#[]⟩):=by rw[Lib.cell_of_heap N];rfl
     have d2:w2.cell? ⟨w,2,none⟩=some (.int .i64 0):=by rw[Lib.cell_of_heap N];rfl
     have f0:w2.frozen? ⟨w,0,none⟩=false:=Lib.frozen_of_heap N 0;have f1:w2.frozen? ⟨w,1,none⟩=false:=Lib.frozen_of_heap N 1;have f2:w2.frozen? ⟨w,2,none⟩=false:=Lib.frozen_of_heap N 2;clear h2 N K1 HN;go_wp2_with fail;refine(HM.o _ (Af.o _ K2.o)).mono ?_;rintro e wc⟨rfl,Q⟩;have K9:Hid (z0v K ws pl b p w (.panicked [q4g pp]) wc):=Q;clear Q;go_wp2;exact⟨rfl,K9.o⟩
   ·have At:∀x,ws[p+1]?=some x->nmW x=false:=fun x hx=>by
     obtain⟨v,rfl⟩:=List.getElem?_eq_some_iff.1 hx;cases hq:nmW ws[p+1]with
     | false=>rfl
     | true=>exact absurd ⟨v,hq⟩ a
    have HN:Hid (∀W,k0l K ws pl b w (p+1) doT W->Calls prog 128 #[.pointer (some ⟨b,0,none⟩)] W fun e w'=>e=.panicked [q4g (pl (p+1))]/\z0v K ws pl b p w (.panicked [q4g (pl (p+1))]) w'):=fun W hW=>by
     refine(v6x j At hW.rd).mono ?_;rintro e w'⟨rfl,rfl⟩;have Q:=z0v.bad (K:=K) (ws:=ws) (pl:=pl) (b:=b) (p:=p) (w:=w) (u:=ws.drop (p+1)) (w':=W) (fun pv acc=>by rw[Ae.o];exact .letN (fun x hx=>At x (by rw[<-q1z];exact hx))) hW.bt;rw[q0h,show ws.length-(ws.length-(p+1))=p+1 by omega]at Q;exact⟨rfl,Q⟩
    generalize wbS ws[p]=S at i U;generalize pl (p+1)=pp at HN;clear h j Ak hX d l Ag M hm a At HD Ae;go_in;go_wp2_with fail;refine i.o.mono ?_;rintro e w1⟨rfl,rfl⟩;go_wp2_with fail;refine U.o.mono ?_;rintro e w1⟨rfl,rfl⟩;go_wp2_with fail;refine HH.o.mono ?_;rintro e w1⟨rfl,v⟩;have K1:=hid v;clear v HH;go_wp2_with fail;refine(HN.o _ K1.o).mono ?_;rintro e w2⟨rfl,Q⟩;have K9:Hid (z0v K ws pl b p w (.panicked [q4g pp]) w2):=Q;clear Q;go_wp2;exact⟨rfl,K9.o⟩
  ·have hm:ws[p]?≠some z4d:=by rw[List.getElem?_eq_getElem hp];simpa using M
   have HH:Hid (Calls prog 127 #[.pointer (some ⟨b,0,none⟩),.string ⟨#[108,101,116]⟩] (w.alloc (.cells #[.int .i64 8,.string ⟨#[]⟩,.int .i64 0] 47)) fun e w'=>e=.returned (.bool false)/\v9y K ws pl b p w p doT w'):=by
    refine(q7u Ag z4d (by simp) hm).mono ?_;rintro e w'⟨rfl,rfl⟩;refine⟨rfl,Nat.le_refl _,Ag,But.of (q2m w _),heap_alloc_new w _,fun m I u G pv acc r hr=>?_,fun u G pv acc=>?_,fun m I u G hu pv acc=>?_⟩
    ·rw[HD.o]at G⊢;exact .doO d M G hr
    ·rw[HD.o]at G⊢;exact .doB d M G
    ·rw[HD.o]at G⊢;exact .doX d M G hu
   have Ar:Hid (j2k K ws pl b p):=k9o j (by omega);generalize wbS ws[p]=S at i U;clear h j Ak hX d l Ag M hm;go_in;go_wp2_with fail;refine i.o.mono ?_;rintro e w1⟨rfl,rfl⟩;go_wp2_with fail;refine U.o.mono ?_;rintro e w1⟨rfl,rfl⟩;go_wp2_with fail;refine HH.o.mono ?_;rintro e wc⟨rfl,hS⟩;have P:Hid (v9y K ws pl b p w p doT wc):=hS;clear hS HH;have Ad:=P.o.bt.size;have A2:w.heap.size<wc.heap.size:=(Array.getElem?_eq_some_iff.1 P.o.bx).1;have Am:b<wc.heap.size:=P.o.rd.row.lt;have s:=P.o.bx;have d0:wc.cell? ⟨w,0,none⟩=some (.int .i64 8):=by rw[Lib.cell_of_heap s];rfl
   have d1:wc.cell? ⟨w,1,none⟩=some (.string ⟨#[]⟩):=by rw[Lib.cell_of_heap s];rfl
   have d2:wc.cell? ⟨w,2,none⟩=some (.int .i64 0):=by rw[Lib.cell_of_heap s];rfl
   clear s;rcases j9r Ar.o with⟨m,I,u,G,J⟩|J
   ·have Ac:=z0g G;have hu:ws.drop (ws.length-u.length)=u:=q6k Ac.1;have O:=Ac.2 m I u rfl;rw[q0h]at O;simp only[Job.eats]at O;have Ay:=P.o.le;have Au:=P.o.rd.le
    have HC:Hid (∀W,Below wc wc W->Calls prog 130 #[.pointer (some ⟨b,0,none⟩)] W fun e w'=>∃A c,e=.returned (.slice A I.length c)/\k9p K ws pl b w (ws.length-u.length) I (.slice A I.length c) w'/\I.length<=60000/\w'.heap[w.heap.size]?=some (.cells #[.int .i64 8,.string ⟨#[]⟩,.int .i64 0] 47 (0,0))/\But W b W w'):=fun W hW=>by
     refine(J W (P.o.rd.keep hW)).mono ?_;rintro e w'⟨A,c,rfl,hg⟩;have A1:=hW.size;have hK:=P.o.kept hW Ad;have A0:=hg.bt.size;have As:=hg.n;rw[q0h]at As;exact⟨A,c,rfl,⟨hg.o.down (by omega),hg.rd,hK.bt.trans (hg.bt.mono (by omega)),by omega⟩,by omega,(hg.bt.block _ (by omega) (by omega)).trans hK.bx,hg.bt⟩
    clear J;generalize Ab:I.length=nl at HC;have V:Hid (I.length=nl):=Ab;clear Ab;by_cases R:ws[ws.length-u.length]?=some [59]
    ·obtain⟨Ah,An⟩:=List.getElem?_eq_some_iff.1 R
     have Ao:u=[59]::ws.drop (ws.length-u.length+1):=by
      have Q:=q4b Ah;rw[hu,An]at Q;exact Q
     have HM:Hid (∀A c f,k9p K ws pl b w (ws.length-u.length) (doT::I) (.slice A (1+nl) c) f->nl<=60000->Calls prog 129 #[.pointer (some ⟨b,0,none⟩),.string ⟨#[59]⟩] f fun e w'=>e=.returned (.tuple #[])/\z0v K ws pl b p w (.returned (.slice A (1+nl) c)) w'):=fun A c f hF hnn=>by
      refine(q5w hF.rd [59] R).mono ?_;rintro e w7⟨rfl,h7,b7⟩;have Ab:=V.o;subst Ab;have hz:=hF.sz;refine⟨rfl,?_⟩;have Z:(doT::I).length=1+I.length:=by rw[List.length_cons];omega
      have Ai:=G;rw[Ao]at Ai;have Q:=z0v.ok (K:=K) (ws:=ws) (pl:=pl) (b:=b) (p:=p) (w:=w) (q:=ws.length-u.length+1) (n:=false) (t:=doT::I) (A:=A) (c:=c) (w':=w7) ⟨by omega,by rw[Z];exact hF.o.but2 b7 Y,by simp,by rw[Z];omega,h7,hF.bt.trans (b7.mono hz),fun pv acc r _ hr=>P.o.ok m I _ Ai pv acc r hr,fun e=>by cases e⟩;rw[Z]at Q;exact Q
     clear Ao An R Ah hu Ac O G;go_wp2_with fail
     go_region_law (first
      | (refine q1u rfl _ _ rfl w.heap.size (.slice (some ⟨wc,0,none⟩) 1 1) [doT] rfl (((show q1s wc (.slice (some ⟨wc,0,none⟩) 1 1) [doT] (wc.alloc _).drew from q1s.one wc doT).but2 X Am).down Ad) A4 nl I V.o c4 rfl B.o.tds B.o.none.2 (1+nl) rfl (by omega) B.sz ?_;intro A6 c6 f D C;have H:=B.grown B.sz Y z y C (fun k hk=>by have e9:wc.heap.size=k:=(by simpa[Value.ownBlock]using hk);omega) D)
      | (refine q1u rfl _ _ rfl w.heap.size (.slice (some ⟨L,0,none⟩) 1 1) [doT] rfl ((q1s.one L doT).down B.sz) A4 nl I V.o c4 rfl (B.o.tds.alloc _) B.o.none.2 (1+nl) rfl (by omega) (by rw[World.size_alloc];have:=B.sz;omega) ?_;intro A6 c6 f D C;have H:=k9p.grown ⟨B.o.kept fun g _ h5=>Lib.alloc_old L _ g h5,B.rd.keep (q2m L _),B.bt.alloc B.sz _,by rw[World.size_alloc];have:=B.sz;omega⟩ (by rw[World.size_alloc];have:=B.sz;omega) Y z y C (fun k hk=>by have e9:L.heap.size=k:=(by simpa[Value.ownBlock]using hk);have:=B.sz;omega) D)
      | (go_simp;refine(HC.o _ (by first|exact z2o _ _|exact Below.drew Zb)).mono ?_;rintro e L⟨A4,c4,rfl,B,Aa,E,X⟩;have g0:L.cell? ⟨w,0,none⟩=some (.int .i64 8):=(by rw[Lib.cell_of_heap E];rfl);have g1:L.cell? ⟨w,1,none⟩=some (.string ⟨#[]⟩):=(by rw[Lib.cell_of_heap E];rfl);have g2:L.cell? ⟨w,2,none⟩=some (.int .i64 0):=(by rw[Lib.cell_of_heap E];rfl);clear E))
     all_goals
      have K6:=hid (HM.o _ _ _ H Aa);clear H D C Aa B X;go_wp2_with fail;refine(Calls.mono K6.o ?_);rintro e w7⟨rfl,h7⟩;have K7:Hid (z0v K ws pl b p w (.returned (.slice A6 (1+nl) c6)) w7):=h7;clear h7;go_wp2;go_ret;exact K7.o
    ·have HM:Hid (∀A c f,k9p K ws pl b w (ws.length-u.length) (doT::I) (.slice A (1+nl) c) f->Calls prog 129 #[.pointer (some ⟨b,0,none⟩),.string ⟨#[59]⟩] f fun e w'=>e=.panicked [q4g (pl (ws.length-u.length))]/\z0v K ws pl b p w (.panicked [q4g (pl (ws.length-u.length))]) w'):=fun A c f hF=>by
      refine(q6x hF.rd [59] (by simp) R).mono ?_;rintro e w7⟨rfl,rfl⟩;refine⟨rfl,.bad (fun pv acc=>P.o.bad2 m I u G ?_ pv acc) hF.bt⟩;rw[<-hu,q1z];exact R
     clear R hu Ac O G;generalize pl (ws.length-u.length)=pp at HM;go_wp2_with fail
     go_region_law (first
      | (refine q1u rfl _ _ rfl w.heap.size (.slice (some ⟨wc,0,none⟩) 1 1) [doT] rfl (((show q1s wc (.slice (some ⟨wc,0,none⟩) 1 1) [doT] (wc.alloc _).drew from q1s.one wc doT).but2 X Am).down Ad) A4 nl I V.o c4 rfl B.o.tds B.o.none.2 (1+nl) rfl (by omega) B.sz ?_;intro A6 c6 f D C;have H:=B.grown B.sz Y z y C (fun k hk=>by have e9:wc.heap.size=k:=(by simpa[Value.ownBlock]using hk);omega) D)
      | (refine q1u rfl _ _ rfl w.heap.size (.slice (some ⟨L,0,none⟩) 1 1) [doT] rfl ((q1s.one L doT).down B.sz) A4 nl I V.o c4 rfl (B.o.tds.alloc _) B.o.none.2 (1+nl) rfl (by omega) (by rw[World.size_alloc];have:=B.sz;omega) ?_;intro A6 c6 f D C;have H:=k9p.grown ⟨B.o.kept fun g _ h5=>Lib.alloc_old L _ g h5,B.rd.keep (q2m L _),B.bt.alloc B.sz _,by rw[World.size_alloc];have:=B.sz;omega⟩ (by rw[World.size_alloc];have:=B.sz;omega) Y z y C (fun k hk=>by have e9:L.heap.size=k:=(by simpa[Value.ownBlock]using hk);have:=B.sz;omega) D)
      | (go_simp;refine(HC.o _ (by first|exact z2o _ _|exact Below.drew Zb)).mono ?_;rintro e L⟨A4,c4,rfl,B,Aa,E,X⟩;have g0:L.cell? ⟨w,0,none⟩=some (.int .i64 8):=(by rw[Lib.cell_of_heap E];rfl);have g1:L.cell? ⟨w,1,none⟩=some (.string ⟨#[]⟩):=(by rw[Lib.cell_of_heap E];rfl);have g2:L.cell? ⟨w,2,none⟩=some (.int .i64 0):=(by rw[Lib.cell_of_heap E];rfl);clear E))
     all_goals
      have K6:=hid (HM.o _ _ _ H);clear H D C Aa B X;go_wp2_with fail;refine(Calls.mono K6.o ?_);rintro e w7⟨rfl,h7⟩;have K7:Hid (z0v K ws pl b p w (.panicked [q4g pp]) w7):=h7;clear h7;go_wp2;exact⟨rfl,K7.o⟩
   ·have HC:Hid (∀W,Below wc wc W->Calls prog 130 #[.pointer (some ⟨b,0,none⟩)] W fun e w'=>∃u:List Wd,e=.panicked [q4g (pl (ws.length-u.length))]/\z0v K ws pl b p w (.panicked [q4g (pl (ws.length-u.length))]) w'):=fun W hW=>by
     refine(J W (P.o.rd.keep hW)).mono ?_;rintro e w'⟨u,rfl,pr,bt⟩
     have:=hW.size
     exact⟨u,rfl,.bad (P.o.bad1 u pr) ((P.o.kept hW Ad).bt.trans (bt.mono (by omega)))⟩
    clear J;go_wp2_with fail
    go_region_dies
    all_goals
     refine(HC.o _ (by first|exact z2o _ _|exact Below.drew Zb)).mono ?_;rintro e w'⟨u,rfl,Q⟩;exact⟨rfl,Q⟩
theorem y8l(B b s be bf:Nat)(_hb:s<B/\be<B/\bf<B)(hB:B<=b)(ds:List Nd)(a:Option Addr)(cap:Nat)(_hl:ds.length<=400)(tx:ByteArray)(n:Int):q3a B b s be bf ds a cap (⟨2,tx,n⟩::[]) (fun deep ws=>.ok (10::List.replicate deep 32,ws)):=by
 intro i r deep ws S wc l w N K d _ R D E Q;obtain⟨t,Y,Z⟩:=q1k (x:=⟨2,tx,n⟩) (A:=[]++r) N;obtain⟨f,q,U,V,X⟩:=K.nd i t;subst q;rw[Y]at U V X;dsimp only at U V X;have c0:=D.c0;have c1:=D.c1;have c2:=D.c2;have c5:=D.c5;have v:=D.lt;have y:s<w.heap.size:=by omega
 have M:B<=w.heap.size:=by omega
 have u:(i:Int)<(ds.length:Int):=by omega
 have HD:Hid (ds.drop i=⟨2,tx,n⟩::([]++r)):=N;have h:Hid (ds.drop (i+1)=[]++r):=Z;have HC:Hid (LC B s be bf (some ⟨s,f,none⟩) ds w):=K;have j:Hid (q2q B w S ws):=d;have p:Hid (WS B b (q6i be bf ds.length cap (some ⟨s,f,none⟩)) l (.slice S ws.length wc) w):=D;have g:Hid (∀O:Obj,Below B w (w.alloc O)):=fun O=>(Below.refl _ w).alloc M O
 clear K d D N Y Z;simp only[List.length_cons,List.length_nil]at E Q;have P:(⟨(List.replicate deep 32).toArray⟩:ByteArray).size<=3300:=by rw[<-q1a];simp;omega
 have C:∀W:World,Calls prog 91 #[.string ⟨#[32]⟩,.int .i64 deep] W fun e w'=>e=.returned (.string ⟨(List.replicate deep 32).toArray⟩)/\Below W W w':=fun W=>z4m deep (by omega) W
 generalize G:(⟨(List.replicate deep 32).toArray⟩:ByteArray)=rs at P C;have m:Hid ((⟨(List.replicate deep 32).toArray⟩:ByteArray)=rs):=G;have k:Hid (∀W:World,Calls prog 91 #[.string ⟨#[32]⟩,.int .i64 deep] W fun e w'=>e=.returned (.string rs)/\Below W W w'):=C;have o:Hid (l++(⟨#[10]⟩++rs:ByteArray).data.toList=l++10::List.replicate deep 32):=(show _=_ by rw[<-G];simp);have J:Hid (l.length+(⟨#[10]⟩++rs:ByteArray).size<=2000000000):=(show _<=_ by rw[<-q1a];simp;omega);clear G C;go_in;go_wp2_with fail
 go_region_with (first
  | (go_at_call 91;refine(k.o _).mono ?_;rintro e w2⟨rfl,I⟩)
  | (go_at_call 38;refine(y8t (WS.W (WS.drew (p.o.alloc _)) I) hB _ J.o).mono ?_;rintro e w3⟨⟨z,rfl⟩,c,L⟩))
 all_goals
  go_wp2;go_ret;have H:Below B w w3:=((Below.drew (g.o _)).trans (I.mono (by simp;omega))).trans L;rw[o.o]at c;exact⟨⟨rfl,S,wc,c,j.o.W H,R⟩,H⟩
theorem y8m(B b s be bf:Nat)(_hb:s<B/\be<B/\bf<B)(hB:B<=b)(ds:List Nd)(a:Option Addr)(cap:Nat)(_hl:ds.length<=400)(tx:ByteArray)(n:Int):q3a B b s be bf ds a cap (⟨3,tx,n⟩::[]) (fun deep ws=>.ok (10::List.replicate deep 32,ws)):=by
 intro i r deep ws S wc l w N K d _ R D E Q;obtain⟨t,Y,Z⟩:=q1k (x:=⟨3,tx,n⟩) (A:=[]++r) N;obtain⟨f,q,U,V,X⟩:=K.nd i t;subst q;rw[Y]at U V X;dsimp only at U V X;have c0:=D.c0;have c1:=D.c1;have c2:=D.c2;have c5:=D.c5;have v:=D.lt;have y:s<w.heap.size:=by omega
 have M:B<=w.heap.size:=by omega
 have u:(i:Int)<(ds.length:Int):=by omega
 have HD:Hid (ds.drop i=⟨3,tx,n⟩::([]++r)):=N;have h:Hid (ds.drop (i+1)=[]++r):=Z;have HC:Hid (LC B s be bf (some ⟨s,f,none⟩) ds w):=K;have j:Hid (q2q B w S ws):=d;have p:Hid (WS B b (q6i be bf ds.length cap (some ⟨s,f,none⟩)) l (.slice S ws.length wc) w):=D;have g:Hid (∀O:Obj,Below B w (w.alloc O)):=fun O=>(Below.refl _ w).alloc M O
 clear K d D N Y Z;simp only[List.length_cons,List.length_nil]at E Q;have P:(⟨(List.replicate deep 32).toArray⟩:ByteArray).size<=3300:=by rw[<-q1a];simp;omega
 have C:∀W:World,Calls prog 91 #[.string ⟨#[32]⟩,.int .i64 deep] W fun e w'=>e=.returned (.string ⟨(List.replicate deep 32).toArray⟩)/\Below W W w':=fun W=>z4m deep (by omega) W
 generalize G:(⟨(List.replicate deep 32).toArray⟩:ByteArray)=rs at P C;have m:Hid ((⟨(List.replicate deep 32).toArray⟩:ByteArray)=rs):=G;have k:Hid (∀W:World,Calls prog 91 #[.string ⟨#[32]⟩,.int .i64 deep] W fun e w'=>e=.returned (.string rs)/\Below W W w'):=C;have o:Hid (l++(⟨#[10]⟩++rs:ByteArray).data.toList=l++10::List.replicate deep 32):=(show _=_ by rw[<-G];simp);have J:Hid (l.length+(⟨#[10]⟩++rs:ByteArray).size<=2000000000):=(show _<=_ by rw[<-q1a];simp;omega);clear G C;go_in;go_wp2_with fail
 go_region_with (first
  | (go_at_call 91;refine(k.o _).mono ?_;rintro e w2⟨rfl,I⟩)
  | (go_at_call 38;refine(y8t (WS.W (WS.drew (p.o.alloc _)) I) hB _ J.o).mono ?_;rintro e w3⟨⟨z,rfl⟩,c,L⟩))
 all_goals
  go_wp2;go_ret;have H:Below B w w3:=((Below.drew (g.o _)).trans (I.mono (by simp;omega))).trans L;rw[o.o]at c;exact⟨⟨rfl,S,wc,c,j.o.W H,R⟩,H⟩
theorem y8n(B b s be bf:Nat)(_hb:s<B/\be<B/\bf<B)(hB:B<=b)(ds:List Nd)(a:Option Addr)(cap:Nat)(_hl:ds.length<=400)(tx:ByteArray)(n:Int):q3a B b s be bf ds a cap (⟨4,tx,n⟩::[]) (fun deep ws=>.ok (10::List.replicate deep 32,ws)):=by
 intro i r deep ws S wc l w N K d _ R D E Q;obtain⟨t,Y,Z⟩:=q1k (x:=⟨4,tx,n⟩) (A:=[]++r) N;obtain⟨f,q,U,V,X⟩:=K.nd i t;subst q;rw[Y]at U V X;dsimp only at U V X;have c0:=D.c0;have c1:=D.c1;have c2:=D.c2;have c5:=D.c5;have v:=D.lt;have y:s<w.heap.size:=by omega
 have M:B<=w.heap.size:=by omega
 have u:(i:Int)<(ds.length:Int):=by omega
 have HD:Hid (ds.drop i=⟨4,tx,n⟩::([]++r)):=N;have h:Hid (ds.drop (i+1)=[]++r):=Z;have HC:Hid (LC B s be bf (some ⟨s,f,none⟩) ds w):=K;have j:Hid (q2q B w S ws):=d;have p:Hid (WS B b (q6i be bf ds.length cap (some ⟨s,f,none⟩)) l (.slice S ws.length wc) w):=D;have g:Hid (∀O:Obj,Below B w (w.alloc O)):=fun O=>(Below.refl _ w).alloc M O
 clear K d D N Y Z;simp only[List.length_cons,List.length_nil]at E Q;have P:(⟨(List.replicate deep 32).toArray⟩:ByteArray).size<=3300:=by rw[<-q1a];simp;omega
 have C:∀W:World,Calls prog 91 #[.string ⟨#[32]⟩,.int .i64 deep] W fun e w'=>e=.returned (.string ⟨(List.replicate deep 32).toArray⟩)/\Below W W w':=fun W=>z4m deep (by omega) W
 generalize G:(⟨(List.replicate deep 32).toArray⟩:ByteArray)=rs at P C;have m:Hid ((⟨(List.replicate deep 32).toArray⟩:ByteArray)=rs):=G;have k:Hid (∀W:World,Calls prog 91 #[.string ⟨#[32]⟩,.int .i64 deep] W fun e w'=>e=.returned (.string rs)/\Below W W w'):=C;have o:Hid (l++(⟨#[10]⟩++rs:ByteArray).data.toList=l++10::List.replicate deep 32):=(show _=_ by rw[<-G];simp);have J:Hid (l.length+(⟨#[10]⟩++rs:ByteArray).size<=2000000000):=(show _<=_ by rw[<-q1a];simp;omega);clear G C;go_in;go_wp2_with fail
 go_region_with (first
  | (go_at_call 91;refine(k.o _).mono ?_;rintro e w2⟨rfl,I⟩)
  | (go_at_call 38;refine(y8t (WS.W (WS.drew (p.o.alloc _)) I) hB _ J.o).mono ?_;rintro e w3⟨⟨z,rfl⟩,c,L⟩))
 all_goals
  go_wp2;go_ret;have H:Below B w w3:=((Below.drew (g.o _)).trans (I.mono (by simp;omega))).trans L;rw[o.o]at c;exact⟨⟨rfl,S,wc,c,j.o.W H,R⟩,H⟩
end Go.Proofs.YtfdppahhbpfnoaaGreatDoor
