import Derived.Test.YtfdppahhbpfnoaaGreatDoorPi17
import Derived.Test.YtfdppahhbpfnoaaGreatDoorPi15
import Derived.Test.YtfdppahhbpfnoaaGreatDoorPi13
open Go.Proofs.Tryz
namespace Go.Proofs.YtfdppahhbpfnoaaGreatDoor
open Go Go.RowKit
set_option maxRecDepth 100000
set_option maxHeartbeats 16000000
theorem q0h{ws:List Wd}{p:Nat}:(ws.drop p).length=ws.length-p:=List.length_drop
theorem q2m(ws:List Wd)(p:Nat):(ws.drop p).head?=ws[p]?:=List.head?_drop
theorem q7f{ws:List Wd}{p:Nat}{r:List Wd}(h:r <:+ ws.drop p):ws.drop (ws.length-r.length)=r:=by
 obtain⟨t,A⟩:=h.trans (List.drop_suffix p ws);have B:=congrArg List.length A;rw[List.length_append]at B;have e:ws.length-r.length=t.length:=by omega
 rw[e,<-A,List.drop_left]
structure v1f(K:LwK)(ws:List Wd)(pl:Nat->Nat)(b:Nat)(j:Job)(p:Nat)(w:World)(m:Nat)(ns:List Td)(u:List Wd)(v:Value)(w':World):Prop where
 pr:PR j (ws.drop p) (.ok m ns u)
 o:q0w w v ns w'
 n:ns.length+u.length<=(ws.drop p).length
 rd:Ry K ws pl b (ws.length-u.length) w'
 bt:But w b w w'
inductive q4j (K:LwK) (ws:List Wd) (pl:Nat->Nat) (b:Nat) (j:Job) (p:Nat) (w:World):Ending->World->Prop where
 | ok {m ns u A c w'} (h:v1f K ws pl b j p w m ns u (.slice A ns.length c) w'):q4j K ws pl b j p w (.returned (.slice A ns.length c)) w'
 | bad {u w'} (pr:PR j (ws.drop p) (.bad u)) (bt:But w b w w'):q4j K ws pl b j p w (.panicked [q4u (pl (ws.length-u.length))]) w'
abbrev j1w(K:LwK)(ws:List Wd)(pl:Nat->Nat)(b p:Nat):Prop:=∀w:World,Ry K ws pl b p w->Calls prog 130 #[.pointer (some ⟨b,0,none⟩)] w fun e w'=>q4j K ws pl b (.level 0) p w e w'
abbrev y2r(K:LwK)(ws:List Wd)(pl:Nat->Nat)(b p:Nat):Prop:=∀w:World,Ry K ws pl b p w->Calls prog 179 #[.pointer (some ⟨b,0,none⟩)] w fun e w'=>q4j K ws pl b (.level 1) p w e w'
abbrev y2p(K:LwK)(ws:List Wd)(pl:Nat->Nat)(b p:Nat):Prop:=∀w:World,Ry K ws pl b p w->Calls prog 204 #[.pointer (some ⟨b,0,none⟩)] w fun e w'=>q4j K ws pl b (.level 2) p w e w'
def j0l(w:World)(b:Nat):Nat:=match w.cell? ⟨b,0,none⟩with
 | some (.slice _ n _)=>n
 | _=>0
section
variable {K:LwK} {ws:List Wd} {pl:Nat→Nat} {b q p:Nat} {w w':World}
theorem Ry.len_eq(h:Ry K ws pl b q w):j0l w b=ws.length+1-q:=by
 unfold j0l;rw[h.c0]
theorem q0w.but2{B:Nat}{v:Value}{xs:List Td}(h:q0w B v xs w)(hb:But w b w w')(hB:b<B):q0w B v xs w':=h.kept fun g _ h2=>hb.block g h2 (by omega)
structure k8j(K:LwK)(ws:List Wd)(pl:Nat->Nat)(b k p:Nat)(w:World)(q:Nat)(acc:List Td)(v:Value)(wr:World):Prop where
 lt:p<q
 n:acc.length+(ws.length-q)<=ws.length-p
 o:q0w w v acc wr
 rd:Ry K ws pl b q wr
 bt:But w b w wr
 ok:∀r,PR (.loop k acc) (ws.drop q) r->PR (.level k) (ws.drop p) r
theorem v3u{k m:Nat}{ns:List Td}{u:List Wd}{v:Value}{w1:World}(hk:k<2)(h:v1f K ws pl b (.level (k+1)) p w m ns u v w1):k8j K ws pl b k p w (ws.length-u.length) ns v w1:=by
 have A:=q5i h.pr;have C:ws.drop (ws.length-u.length)=u:=q7f A.1;have D:=h.n;have B:=A.2 m ns u rfl;rw[q0h]at B D;simp only[Job.eats]at B;exact⟨by omega,by omega,h.o,h.rd,h.bt,fun r hr=>by rw[C]at hr;exact .levO hk h.pr hr⟩
theorem y0z{k q m:Nat}{A ns:List Td}{u:List Wd}{v v4 v5:Value}{wr w3 w4 w5:World}(hV:k8j K ws pl b k p w q A v wr)(hq:q<ws.length)(hd:ws.drop q=sgn k::ws.drop (q+1))(C:But w b w w3)(E:w.heap.size<=w3.heap.size)
  (hG:v1f K ws pl b (.level (k+1)) (q+1) w3 m ns u v4 w4) (b5:Below w4 w4 w5) (ho:q0w w v5 (sgT k::(A++ns)) w5):
  k8j K ws pl b k p w (ws.length-u.length) (sgT k::(A++ns)) v5 w5/\q<ws.length-u.length:=by
 have B:=q5i hG.pr;have H:ws.drop (ws.length-u.length)=u:=q7f B.1;have L:=hG.n;have G:=B.2 m ns u rfl;rw[q0h]at L G;simp only[Job.eats]at G;have I:=hV.n;have J:=hV.lt;have D:(sgT k::(A++ns)).length=1+A.length+ns.length:=by simp;omega
 have M:=hG.bt.size;exact⟨⟨by omega,by rw[D];omega,ho,hG.rd.keep b5,(C.trans (hG.bt.mono E)).trans (But.of (b5.mono (by omega))),fun r hr=>by rw[H]at hr;exact hV.ok _ (by rw[hd];exact .lopO hG.pr hr)⟩,by omega⟩
end
theorem z7j(k F:Nat)(s:UInt8)(o:Int)(hk:k=0/\F=179/\s=43/\o=5\/k=1/\F=204/\s=42/\o=6){K:LwK}{ws:List Wd}{pl:Nat->Nat}{b p:Nat}(hL:∀q,p<=q->q<=ws.length->∀w:World,Ry K ws pl b q w->Calls prog F #[.pointer (some ⟨b,0,none⟩)] w fun e w'=>q4j K ws pl b (.level (k+1)) q w e w')(w:World)(h:Ry K ws pl b p w):
  Calls prog 178 #[.pointer (some ⟨b,0,none⟩),.string ⟨#[s]⟩,.int .i64 o,.func (.func F) #[.pointer (some ⟨b,0,none⟩)] #[]] w fun e w'=>q4j K ws pl b (.level k) p w e w':=by
 have C:Tag k:=.mk;rcases hk with⟨rfl,rfl,rfl,rfl⟩|⟨rfl,rfl,rfl,rfl⟩
 all_goals
  have HL:=hid hL;have l:Hid (Calls prog ↑(q5m C 179 204) #[.pointer (some ⟨b,0,none⟩)] w fun e w'=>q4j K ws pl b (.level (↑(q5m C 0 1)+1)) p w e w'):=hL p Zl h.le w h;have z:b<w.heap.size:=h.row.lt;have Aw:=h.le;have At:=h.few;clear h hL;go_in;go_wp2_with fail;refine l.o.mono ?_;intro e w1 hG;cases hG with
  | bad pr bt=>
   have HB:Hid (q4j K ws pl b (.level ↑(q5m C 0 1)) p w (.panicked [q4u (pl (ws.length-_))]) w1):=.bad (.levB (by omega) pr) bt;clear pr bt;go_wp2;exact⟨rfl,HB.o⟩
  | @ok m ns u A c _ hg=>
   have v:Hid (k8j K ws pl b ↑(q5m C 0 1) p w (ws.length-u.length) ns (.slice A ns.length c) w1):=v3u (by omega) hg;clear hg l;generalize Ac:ns.length=nl at v;have Aj:Hid (ns.length=nl):=Ac;clear Ac;go_wp2_with fail
   go_loopw [9] (fun x wr=>∃(q:Nat)(B:List Td)(A':Option Addr)(n' c':Nat),x=.slice A' n' c'/\B.length=n'/\k8j K ws pl b ↑(q5m C 0 1) p w q B (.slice A' n' c') wr) (fun _ wr=>j0l wr b)
   case atStart=>exact⟨_,ns,A,nl,c,rfl,Aj.o,v.o⟩
   case round=>
    obtain⟨q,B,S,L,V,rfl,O,H⟩:=hrel;have U:=hid H;have N:Hid (B.length=L):=O;have Au:=H.rd.le;have hn:=H.n;have As:=H.bt.size;rw[O]at hn;by_cases I:ws[q]?=some (sgn ↑(q5m C 0 1))
    ·obtain⟨R,Af⟩:=List.getElem?_eq_some_iff.1 I
     have f:Hid (ws.drop q=sgn ↑(q5m C 0 1)::ws.drop (q+1)):=by
      show _=_;rw[List.drop_eq_getElem_cons R,Af]
     have HH:Hid (Calls prog 127 #[.pointer (some ⟨b,0,none⟩),.string ⟨#[↑(sel C (43:UInt8) 42)]⟩] wr fun e w'=>e=.returned (.bool true)/\Ry K ws pl b (q+1) w'/\But wr b wr w'):=q7n H.rd (sgn ↑(q5m C 0 1)) I;clear H O I Af;go_wp2_with fail;refine HH.o.mono ?_;rintro e E⟨rfl,h2,b2⟩;have Z:Hid (But wr b wr E):=b2;have Ax:=b2.size;have Ao:b<E.heap.size:=h2.row.lt
     have t:Hid (∃M,E.alloc (.cells #[.int .i64 ↑(sel C (5:Int) 6),.string ⟨#[]⟩,.int .i64 0] 47)=M/\Calls prog ↑(q5m C 179 204) #[.pointer (some ⟨b,0,none⟩)] M (fun e w'=>q4j K ws pl b (.level (↑(q5m C 0 1)+1)) (q+1) M e w')/\q0w E (.slice (some ⟨E,0,none⟩) 1 1) [sgT ↑(q5m C 0 1)] M/\q0w w (.slice S L V) B M/\But w b w M/\M.heap.size=E.heap.size+1):=by
      refine⟨_,rfl,HL.o (q+1) (by have:=U.o.lt;omega) (by omega) _ (h2.keep (q4b E _)),q0w.one E (sgT ↑(q5m C 0 1)),?_,(U.o.bt.trans (Z.o.mono As)).alloc (by omega) _,World.size_alloc ..⟩;have ho:=U.o.o.but2 Z.o z;exact ho.kept fun g _ h5=>Lib.alloc_old E _ g h5
     clear h2 b2 HH;go_wp2_with fail;obtain⟨M,Ah,Q,Ag,Ad,y,Av⟩:=t.o;rw[Ah];have Am:Hid (q0w E (.slice (some ⟨E,0,none⟩) 1 1) [sgT ↑(q5m C 0 1)] M):=Ag;have Ak:Hid (q0w w (.slice S L V) B M):=Ad;have a:Hid (But w b w M):=y;clear Ag Ad y t Ah;refine Q.mono ?_;clear Q;intro e D hG;cases hG with
     | @bad u4 _ pr bt=>
      have HB:Hid (q4j K ws pl b (.level ↑(q5m C 0 1)) p w (.panicked [q4u (pl (ws.length-u4.length))]) D):=.bad (U.o.ok _ (by rw[f.o];exact .lopB pr)) (a.o.trans (bt.mono (by omega)));clear pr bt;go_wp2;exact⟨rfl,HB.o⟩
     | @ok m4 ns4 u4 A4 c4 _ hg=>
      have HG:=hid hg;have Ay:=hg.bt.size;have Ab:=hg.n;rw[q0h]at Ab;have An:Hid (q0w E (.slice (some ⟨E,0,none⟩) 1 1) [sgT ↑(q5m C 0 1)] D):=Am.o.but2 hg.bt Ao;have r:Hid (q0w w (.slice S L V) B D):=Ak.o.but2 hg.bt z
      have Al:Hid (∀W,Below D D W->W.heap[D.heap.size]?=some (.cells #[.slice (some ⟨E,0,none⟩) 1 1,.slice S L V,.slice A4 ns4.length c4] 22 (0,0))->y2o W (some ⟨D,0,none⟩) [[sgT ↑(q5m C 0 1)],B,ns4]):=by
       intro W X hk;have Y:D.heap.size<W.heap.size:=(Array.getElem?_eq_some_iff.1 hk).1;have G:∀i,W.cell? ⟨D,i,none⟩=#[Value.slice (some ⟨E,0,none⟩) 1 1,.slice S L V,.slice A4 ns4.length c4][i]?:=fun i=>by simp[World.cell?,hk]
       intro i hi;have h3:i=0\/i=1\/i=2:=by simp at hi;omega
       have e1:=k4w r.o;have e2:=k4w HG.o.o;rcases h3 with rfl|rfl|rfl
       ·exact⟨D.heap.size,0,some ⟨E,0,none⟩,1,rfl,Y,G 0,Nat.le_refl _,An.o.tds.W X,fun e=>by cases e⟩
       ·exact⟨D.heap.size,0,S,V,rfl,Y,by rw[show(([[sgT ↑(q5m C 0 1)],B,ns4]:List (List Td))[1]).length=L from N.o];exact G 1,e1.2.1,e1.2.2.W X,fun e=>by
         have:=r.o.none.2 e
         exact⟨by show B.length=0;rw[N.o];exact this.1,this.2⟩⟩
       ·exact⟨D.heap.size,0,A4,c4,rfl,Y,G 2,e2.2.1,e2.2.2.W X,fun e=>HG.o.o.none.2 e⟩
      have P:[[sgT ↑(q5m C 0 1)],B,ns4].flatten=sgT ↑(q5m C 0 1)::(B++ns4):=by simp
      have J:(sgT ↑(q5m C 0 1)::(B++ns4)).length=1+L+ns4.length:=by rw[List.length_cons,List.length_append,N.o];omega
      have d:Hid (∀W,Below D D W->W.heap[D.heap.size]?=some (.cells #[.slice (some ⟨E,0,none⟩) 1 1,.slice S L V,.slice A4 ns4.length c4] 22 (0,0))->Calls prog 203 #[.slice (some ⟨D,0,none⟩) 3 3] W fun e w'=>∃A c',e=.returned (.slice A (1+L+ns4.length) c')/\k8j K ws pl b ↑(q5m C 0 1) p w (ws.length-u4.length) (sgT ↑(q5m C 0 1)::(B++ns4)) (.slice A (1+L+ns4.length) c') w'/\q<ws.length-u4.length):=by
       intro W X hk;have h9:=k5o [[sgT ↑(q5m C 0 1)],B,ns4] (some ⟨D,0,none⟩) 3 W (Al.o W X hk) (by rw[P,J];omega) (by rw[P,J];omega) (by simp);rw[P,J]at h9;refine h9.mono ?_;rintro e w6⟨A6,c6,rfl,Aq,Ap⟩;have Ar:=X.size;exact⟨A6,c6,rfl,y0z U.o R f.o a.o (by omega) HG.o (X.trans (Ap.mono Ar)) (Aq.down (by omega))⟩
      have j:=(show Hid (_=_)from J);clear hg P J Ab;generalize ns4.length=n4 at d j⊢;go_wp2_with fail;refine(d.o _ (q4b D _) (heap_alloc_new D _)).mono ?_;rintro e w6⟨A6,c6,rfl,h6,Ae⟩;have H6:=hid (And.intro h6 Ae);clear h6 Ae;go_wp2;refine⟨⟨_,_,A6,_,c6,rfl,j.o,H6.o.1⟩,?_⟩;rw[H6.o.1.rd.len_eq,U.o.rd.len_eq]
      have:=H6.o.2
      omega
    ·have Ai:Hid ((ws.drop q).head?≠some (sgn ↑(q5m C 0 1))):=by
      show _≠_;rw[q2m];exact I
     have HH:Hid (Calls prog 127 #[.pointer (some ⟨b,0,none⟩),.string ⟨#[↑(sel C (43:UInt8) 42)]⟩] wr fun e w'=>e=.returned (.bool false)/\w'=wr):=q8k H.rd (sgn ↑(q5m C 0 1)) (by decide) I;clear H O I;go_wp2_with fail;refine HH.o.mono ?_;rintro e E⟨rfl,rfl⟩;go_wp2;go_ret;have H:=U.o;obtain rfl:=N.o;have Aa:(ws.drop q).length=ws.length-q:=q0h;refine .ok (m:=0) (u:=ws.drop q) ⟨H.ok _ (.lopE Ai.o),H.o,?_,?_,H.bt⟩
     ·rw[Aa,q0h];have:=H.n;omega
     ·rw[Aa,show ws.length-(ws.length-q)=q by omega];exact H.rd
theorem v1c{K:LwK}{ws:List Wd}{pl:Nat->Nat}{b p:Nat}(hL:∀q,p<=q->q<=ws.length->y2r K ws pl b q):j1w K ws pl b p:=by
 intro w h;have G:∀(fn:Fn)(first cap:Array Value)(w:World),(Instr.makeFunc fn first cap).run prog w=.ok (.func fn first cap) w:=fun _ _ _ _=>rfl
 have D:Hid (Calls prog 178 #[.pointer (some ⟨b,0,none⟩),.string ⟨#[43]⟩,.int .i64 5,.func (.func 179) #[.pointer (some ⟨b,0,none⟩)] #[]] w fun e w'=>q4j K ws pl b (.level 0) p w e w'):=z7j 0 _ _ _ (.inl ⟨rfl,rfl,rfl,rfl⟩) hL w h;clear h hL;go_in;go_wp2_with fail;refine D.o.mono ?_;intro e C E;cases E with
 | @bad u _ pr bt=>
  have B:Hid (q4j K ws pl b (.level 0) p w (.panicked [q4u (pl (ws.length-u.length))]) C):=.bad pr bt;clear pr bt;go_wp2;exact⟨rfl,B.o⟩
 | @ok m ns u A c _ hg=>
  have B:Hid (q4j K ws pl b (.level 0) p w (.returned (.slice A ns.length c)) C):=.ok hg;clear hg;generalize ns.length=nl at B⊢;go_wp2;go_ret;exact B.o
theorem k2t{K:LwK}{ws:List Wd}{pl:Nat->Nat}{b p:Nat}(hL:∀q,p<=q->q<=ws.length->y2p K ws pl b q):y2r K ws pl b p:=by
 intro w h;have G:∀(fn:Fn)(first cap:Array Value)(w:World),(Instr.makeFunc fn first cap).run prog w=.ok (.func fn first cap) w:=fun _ _ _ _=>rfl
 have D:Hid (Calls prog 178 #[.pointer (some ⟨b,0,none⟩),.string ⟨#[42]⟩,.int .i64 6,.func (.func 204) #[.pointer (some ⟨b,0,none⟩)] #[]] w fun e w'=>q4j K ws pl b (.level 1) p w e w'):=z7j 1 _ _ _ (.inr ⟨rfl,rfl,rfl,rfl⟩) hL w h;clear h hL;go_in;go_wp2_with fail;refine D.o.mono ?_;intro e C E;cases E with
 | @bad u _ pr bt=>
  have B:Hid (q4j K ws pl b (.level 1) p w (.panicked [q4u (pl (ws.length-u.length))]) C):=.bad pr bt;clear pr bt;go_wp2;exact⟨rfl,B.o⟩
 | @ok m ns u A c _ hg=>
  have B:Hid (q4j K ws pl b (.level 1) p w (.returned (.slice A ns.length c)) C):=.ok hg;clear hg;generalize ns.length=nl at B⊢;go_wp2;go_ret;exact B.o
theorem k2h(ps:List (List Td))(a:Option Addr)(cap:Nat)(w:World)(hP:Prg w a ps)(Aa:∀t∈ps,∀x∈t,x.tx.size<=1000000000000):Calls prog 37 #[.slice a ps.length cap] w fun e w'=>e=.returned (.tuple #[.int .i64 ((q0r ps).1:Int),.int .i64 (q0r ps).2])/\Below w w w':=by
 have HP:Hid (Prg w a ps):=hP;have Ac:Hid (∀t∈ps,∀x∈t,x.tx.size<=1000000000000):=Aa;clear hP Aa;by_cases Ah:20<(ps.length:Int)
 ·have c:Hid (q0r ps=(0,3)):=by show q0r ps=_;rw[q0r,if_pos (by omega)]
  go_in;go_wp2;go_ret2;exact⟨by rw[c.o];rfl,Below.refl _ _⟩
 have HF:Hid (q0r ps=q3z 0 0 ps):=by show q0r ps=_;rw[q0r,if_neg (by omega)]
 go_in;go_wp2
 go_loopw [4] (fun i wr=>Below w w wr/\∃k:Nat,k<=ps.length/\i=.int .i64 k/\q0r ps=q3z (q2v ps k) k (ps.drop k)/\∀j(h:j<ps.length),j<k->q0b ps[j]=0) (fun i _=>ps.length-(intOf i).toNat)
 case atStart=>exact⟨Below.refl _ _,0,Nat.zero_le _,rfl,HF.o,fun j _ h=>by omega⟩
 case round=>
  obtain⟨v,k,hk,rfl,hF,X⟩:=hrel;have J:Hid (Below w w wr):=v;have HG:Hid (q0r ps=q3z (q2v ps k) k (ps.drop k)):=hF;have HA:Hid (∀j(h:j<ps.length),j<k->q0b ps[j]=0):=X;clear v hF X;by_cases P:k<ps.length
  ·obtain⟨b,o,a',c',ea,hb,V,c2,hT⟩:=(HP.o.W J.o) k P;subst ea;have z:(k:Int)<(ps.length:Int):=by omega
   have S:Calls prog 7 #[.slice a' ps[k].length c'] wr fun e w'=>e=.returned (.int .i64 (q0b ps[k]))/\Below wr wr w':=q5x ps[k] a' c' wr hT (Ac.o _ (List.getElem_mem P))
   have Q:Hid (q0b ps[k]=0->∀j(h:j<ps.length),j<k+1->q0b ps[j]=0):=fun h0 j h hj=>by
    by_cases Ad:j=k
    ·subst Ad;exact h0
    ·exact HA.o j h (by omega)
   have K:Hid (q0b ps[k]=0->0<ps[k].length/\∃U p,a'=some ⟨U,p,none⟩/\U<wr.heap.size/\wr.cell? ⟨U,p,none⟩=some (.int .i64 (opT ps[k]))):=fun h0=>by
    have A:=z0z h0;obtain⟨U,p,e1,g,d1,_,_⟩:=hT 0 A;exact⟨A,U,p,e1,g,by rw[z4o A];simpa using d1⟩
   have H:Hid (q0b ps[k]≠0->q0r ps=(k,q0b ps[k])):=fun h=>HG.o.trans (k2f P h)
   have D:Hid (q0b ps[k]=0->opT ps[k]=9/\q2v ps k=9->q0r ps=(k,2)):=fun h h2=>HG.o.trans (k2g P h h2)
   have C:Hid (q0b ps[k]=0->¬(opT ps[k]=9/\q2v ps k=9)->q0r ps=q3z (q2v ps (k+1)) (k+1) (ps.drop (k+1))):=fun h h2=>HG.o.trans (z6v P h h2)
   have M:Hid (∀j,k=j+1->∃a1 n1 f,wr.cell? ⟨b,o+j,none⟩=some (.slice a1 n1 f)/\0<n1/\∃I q,a1=some ⟨I,q,none⟩/\I<wr.heap.size/\wr.cell? ⟨I,q,none⟩=some (.int .i64 (q2v ps k))):=fun j hj=>by
    have m:j<ps.length:=by omega
    obtain⟨bj,oj,aj,cj,ej,_,q1,_,qT⟩:=(HP.o.W J.o) j m;simp only[Option.some.injEq,Addr.mk.injEq,and_true]at ej;obtain⟨rfl,rfl⟩:=ej;have A:=z0z (HA.o j m (by omega));obtain⟨I,q,e2,l,d2,_,_⟩:=qT 0 A;refine⟨aj,ps[j].length,cj,q1,A,I,q,e2,l,?_⟩;rw[hj,z2e m,z4o A];simpa using d2
   have N:Hid (Calls prog 7 #[.slice a' ps[k].length c'] wr fun e w'=>e=.returned (.int .i64 (q0b ps[k]))/\Below wr wr w'):=S;clear hT S c2;generalize ps[k].length=nl at V N K;generalize opT ps[k]=op0 at K D C;generalize q0b ps[k]=E at N Q K H D C;by_cases y:E=0
   ·subst y;obtain⟨An,U,p,rfl,g,d1⟩:=K.o rfl;have Y:=hid (Q.o rfl);have L:Hid (op0=9/\q2v ps k=9->q0r ps=(k,2)):=D.o rfl;have B:Hid (¬(op0=9/\q2v ps k=9)->q0r ps=q3z (q2v ps (k+1)) (k+1) (ps.drop (k+1))):=C.o rfl;clear D C;have Ag:(0:Int)<(nl:Int):=by omega
    have Z:=hid V;have Ab:=hid d1;clear K H Q V d1;by_cases n:k=0
    ·have u:Hid (q0r ps=q3z (q2v ps (k+1)) (k+1) (ps.drop (k+1))):=B.o (by simp[q2v,n]);have Ae:¬(0:Int)<(k:Int):=by omega
     have V:=Z.o;clear L B n;go_wp2_with fail;refine N.o.mono ?_;rintro e r⟨rfl,I⟩;have G:Hid (Below w w r):=q0d J.o Zl I;clear I V;go_wp2
     go_roundw
     case rel=>exact⟨G.o,k+1,by omega,by go_num,u.o,Y.o⟩
     case measure=>simp[intOf];omega
    ·obtain⟨j,rfl⟩:∃j,k=j+1:=⟨k-1,by omega⟩;obtain⟨a1,n1,f,q1,Al,I,q,rfl,l,d2⟩:=M.o j rfl;have O:((j+1:Nat):Int)=(j:Int)+1:=by omega
     have Ae:(0:Int)<(j:Int)+1:=by omega
     have Aj:(j:Int)<(ps.length:Int):=by omega
     have Ak:(j:Int)+1<(ps.length:Int):=by omega
     have Af:(0:Int)<(n1:Int):=by omega
     have s:Hid (∀W:World,Below wr wr W->W.cell? ⟨b,o+(j+1),none⟩=some (.slice (some ⟨U,p,none⟩) nl c')/\W.cell? ⟨U,p,none⟩=some (.int .i64 op0)/\W.cell? ⟨b,o+j,none⟩=some (.slice (some ⟨I,q,none⟩) n1 f)/\W.cell? ⟨I,q,none⟩=some (.int .i64 (q2v ps (j+1)))):=fun W hW=>
      ⟨((q1y hW).1 _ _ hb).trans Z.o,((q1y hW).1 _ _ g).trans Ab.o,((q1y hW).1 _ _ hb).trans q1,((q1y hW).1 _ _ l).trans d2⟩
     have V:=Z.o;generalize q2v ps (j+1)=pv at L B s;rw[O]at z⊢;clear q1 d2 M O n;go_wp2_with fail;refine N.o.mono ?_;rintro e r⟨rfl,d⟩;have G:Hid (Below w w r):=q0d J.o Zl d;obtain⟨k1,k2,k3,k4⟩:=s.o r d;clear d V;by_cases h9:op0=9
     ·subst h9;by_cases R:pv=9
      ·subst R;have c:Hid (q0r ps=(j+1,2)):=L.o ⟨rfl,rfl⟩;clear L B;go_wp2;go_ret2;exact⟨by rw[c.o];rfl,G.o⟩
      ·have u:Hid (q0r ps=q3z (q2v ps (j+1+1)) (j+1+1) (ps.drop (j+1+1))):=B.o (fun h=>R h.2);have Ap:(pv==9)=false:=by simp[R]
       clear L B R;go_wp2
       go_roundw
       case rel=>exact⟨G.o,j+1+1,by omega,by go_num,u.o,Y.o⟩
       case measure=>simp[intOf];omega
     ·have u:Hid (q0r ps=q3z (q2v ps (j+1+1)) (j+1+1) (ps.drop (j+1+1))):=B.o (fun h=>h9 h.1);have Ao:(op0==9)=false:=by simp[h9]
      clear L B h9;go_wp2
      go_roundw
      case rel=>exact⟨G.o,j+1+1,by omega,by go_num,u.o,Y.o⟩
      case measure=>simp[intOf];omega
   ·have c:Hid (q0r ps=(k,E)):=H.o y;have Ai:(E==0)=false:=by simp[y]
    have Am:(E != 0)=true:=by simp[y]
    clear K H Q D C y;go_wp2_with fail;refine N.o.mono ?_;rintro e r⟨rfl,I⟩;have G:Hid (Below w w r):=q0d J.o Zl I;clear I V;go_wp2;go_ret2;exact⟨by rw[c.o];rfl,G.o⟩
  ·have c:Hid (q0r ps=(0,0)):=by
    show q0r ps=_;rw[HG.o,List.drop_eq_nil_of_le (by omega)];rfl
   have z:¬(k:Int)<(ps.length:Int):=by omega
   go_wp2;go_ret2;exact⟨by rw[c.o];rfl,J.o⟩
structure y6x(K:LwK)(ws:List Wd)(pl:Nat->Nat)(b:Nat)(e:Wd)(op:Int)(tx:ByteArray)(p:Nat)(w:World)(n:Nat)(ns:List Td)(u:List Wd)(v:Value)(w':World):Prop where
 pr:PR (.args e 0 []) (ws.drop p) (.ok n ns u)
 o:q0w w v (⟨op,tx,(n:Int)⟩::ns) w'
 n:ns.length+u.length<=(ws.drop p).length
 rd:Ry K ws pl b (ws.length-u.length) w'
 bt:But w b w w'
inductive j1s (K:LwK) (ws:List Wd) (pl:Nat->Nat) (b:Nat) (e:Wd) (op:Int) (tx:ByteArray) (p:Nat) (w:World):Ending->World->Prop where
 | ok {n ns u A c w'} (h:y6x K ws pl b e op tx p w n ns u (.slice A (ns.length+1) c) w'):j1s K ws pl b e op tx p w (.returned (.slice A (ns.length+1) c)) w'
 | bad {u w'} (pr:PR (.args e 0 []) (ws.drop p) (.bad u)) (bt:But w b w w'):j1s K ws pl b e op tx p w (.panicked [q4u (pl (ws.length-u.length))]) w'
structure y6z(K:LwK)(ws:List Wd)(pl:Nat->Nat)(b:Nat)(e:Wd)(op:Int)(tx:ByteArray)(p:Nat)(w:World)(q n:Nat)(acc:List Td)(v:Value)(wr:World):Prop where
 n1:1<=n
 nq:n<=q
 lt:p<q
 nn:acc.length+(ws.length-q)<=ws.length-p
 o:q0w (w.heap.size+1) v acc wr
 rd:Ry K ws pl b q wr
 bt:But w b w wr
 bx:wr.heap[w.heap.size]?=some (.cells #[.int .i64 op,.string tx,.int .i64 (n:Int)] 47 (0,0))
 ok:∀r,PR (.args e n acc) (ws.drop q) r->PR (.args e 0 []) (ws.drop p) r
theorem Ry.far{K:LwK}{ws:List Wd}{pl:Nat->Nat}{b q:Nat}{w:World}(h:Ry K ws pl b q w){k i:Nat}{v:Value}(h1:k≠b)(h2:k≠K.gw)(h3:k≠K.ga):Ry K ws pl b q (w.setCell ⟨k,i,none⟩ v):=
 ⟨h.le,(cso (.inl h1)).trans h.c0,(cso (.inl h1)).trans h.c1,h.row.set,fun i hi=>(cso (.inl h2)).trans (h.wd i hi),fun i hi=>(cso (.inl h3)).trans (h.pt i hi),h.nw,h.na,h.lw,h.la,h.few⟩
theorem j2s{w:World}{k:Nat}{a c d d':Value}{T:TypeId}(h:w.heap[k]?=some (.cells #[a,c,d] T (0,0))):(w.setCell ⟨k,2,none⟩ d').heap[k]?=some (.cells #[a,c,d'] T (0,0)):=by
 simp[World.setCell,Array.getElem?_modify,h]
section
variable {K:LwK} {ws:List Wd} {pl:Nat→Nat} {b p q:Nat} {e:Wd} {op:Int} {tx:ByteArray} {w:World}
theorem k2s(he:e≠[])(U:e≠[44])(hS:∀q,p<=q->q<=ws.length->j1w K ws pl b q)(h:Ry K ws pl b p w):
  Calls prog 230 #[.pointer (some ⟨b,0,none⟩),.agg #[.int .i64 op,.string tx,.int .i64 0],.string (wbS e)] w fun r w'=>j1s K ws pl b e op tx p w r w':=by
 have HS:Hid (∀q,p<=q->q<=ws.length->j1w K ws pl b q):=hS;have Bj:b<w.heap.size:=h.row.lt;have A1:=h.le;have Bf:=h.few;have Bl:=h.gwlt;have Bk:=h.galt;have Z:Hid (Ry K ws pl b p (w.alloc (.cells #[.int .i64 op,.string tx,.int .i64 0] 47))):=h.keep (q4b w _);have HE:Hid (e≠[]):=he;have Ak:Hid (e≠[44]):=U;clear h hS he U;by_cases Q:ws[p]?=some e
 ·obtain⟨A4,A0⟩:=List.getElem?_eq_some_iff.1 Q
  have HD:Hid (ws.drop p=e::ws.drop (p+1)):=by
   show _=_;rw[List.drop_eq_getElem_cons A4,A0]
  have R:Hid (Calls prog 127 #[.pointer (some ⟨b,0,none⟩),.string (wbS e)] (w.alloc (.cells #[.int .i64 op,.string tx,.int .i64 0] 47)) fun r w'=>∃I,w'=I/\r=.returned (.bool true)/\Ry K ws pl b (p+1) I/\But w b w I/\I.heap[w.heap.size]?=some (.cells #[.int .i64 op,.string tx,.int .i64 0] 47 (0,0))):=by
   refine(q7n Z.o e Q).mono ?_;rintro r I⟨rfl,h1,b1⟩;have Bu:(w.alloc (.cells #[.int .i64 op,.string tx,.int .i64 0] 47)).heap.size=w.heap.size+1:=World.size_alloc ..;exact⟨I,rfl,rfl,h1,(But.of (q4b w _)).trans (b1.mono (by omega)),(b1.block _ (by omega) (by omega)).trans (heap_alloc_new w _)⟩
  generalize wbS e=S at R⊢;clear Q A0 Z;go_in;go_wp2_with fail;refine R.o.mono ?_;rintro r w'⟨I,rfl,rfl,h1,b1,t⟩;have d0:w'.cell? ⟨w,0,none⟩=some (.int .i64 op):=by rw[Lib.cell_of_heap t];rfl
  have d1:w'.cell? ⟨w,1,none⟩=some (.string tx):=by rw[Lib.cell_of_heap t];rfl
  have d2:w'.cell? ⟨w,2,none⟩=some (.int .i64 0):=by rw[Lib.cell_of_heap t];rfl
  have A7:=b1.size
  have HX:Hid (j1s K ws pl b e op tx p w (.returned (.slice (some ⟨w',0,none⟩) 1 1)) (w'.alloc (.cells #[.int .i64 op,.string tx,.int .i64 0] 47))):=by
   refine j1s.ok (n:=0) (ns:=[]) (u:=ws.drop (p+1)) ⟨by rw[HD.o];exact .aEnd,(q0w.one w' ⟨op,tx,0⟩).down A7,?_,?_,b1.alloc A7 _⟩
   ·rw[q0h,q0h];simp only[List.length_nil];omega
   ·rw[q0h,show ws.length-(ws.length-(p+1))=p+1 by omega];exact h1.keep (q4b w' _)
  clear h1 b1 t R;go_wp2;go_ret;exact HX.o
 ·have R:Hid (Calls prog 127 #[.pointer (some ⟨b,0,none⟩),.string (wbS e)] (w.alloc (.cells #[.int .i64 op,.string tx,.int .i64 0] 47)) fun r w'=>r=.returned (.bool false)/\w'=w.alloc (.cells #[.int .i64 op,.string tx,.int .i64 0] 47)):=q8k Z.o e HE.o Q
  have Am:Hid ((ws.drop p).head?≠some e):=by
   show _≠_;rw[q2m];exact Q
  have a:Hid (∃I,w.alloc (.cells #[.int .i64 op,.string tx,.int .i64 0] 47)=I/\Calls prog 130 #[.pointer (some ⟨b,0,none⟩)] I (fun r w'=>q4j K ws pl b (.level 0) p I r w')/\But w b w I/\I.heap.size=w.heap.size+1/\I.heap[w.heap.size]?=some (.cells #[.int .i64 op,.string tx,.int .i64 0] 47 (0,0))):=
   ⟨_,rfl,HS.o p Zl A1 _ Z.o,But.of (q4b w _),World.size_alloc ..,heap_alloc_new w _⟩
  clear Q Z;go_in;go_wp2_with fail;refine R.o.mono ?_;rintro r w'⟨rfl,rfl⟩;go_wp2_with fail;obtain⟨I,A9,Ab,z,A8,Aa⟩:=a.o;rw[A9];have Ai:Hid (But w b w I):=z;have Aj:=(show Hid (_=_)from Aa);clear z Aa a A9 R;refine Ab.mono ?_;clear Ab;intro r w2 hG;cases hG with
  | @bad u2 _ pr bt=>
   have HB:Hid (j1s K ws pl b e op tx p w (.panicked [q4u (pl (ws.length-u2.length))]) w2):=.bad (.aB0 Am.o pr) (Ai.o.trans (bt.mono (by omega)));clear pr bt;go_wp2;exact⟨rfl,HB.o⟩
  | @ok m2 ns2 u2 A2 c2 _ hg=>
   have M:=q5i hg.pr;have hu:ws.drop (ws.length-u2.length)=u2:=q7f M.1;have Ax:=hg.n;have U:=M.2 m2 ns2 u2 rfl;rw[q0h]at Ax U;simp only[Job.eats]at U;have Br:=hg.bt.size;have N:w2.heap[w.heap.size]?=some (.cells #[.int .i64 op,.string tx,.int .i64 0] 47 (0,0)):=(hg.bt.block _ (by omega) (by omega)).trans Aj.o;have d2:w2.cell? ⟨w,2,none⟩=some (.int .i64 0):=by rw[Lib.cell_of_heap N];rfl
   have f2:w2.frozen? ⟨w,2,none⟩=false:=Lib.frozen_of_heap N 2
   have Aq:Hid (y6z K ws pl b e op tx p w (ws.length-u2.length) 1 ns2 (.slice A2 ns2.length c2) (w2.setCell ⟨w,2,none⟩ (.int .i64 1))):=by
    have ho:q0w (w.heap.size+1) (.slice A2 ns2.length c2) ns2 w2:=by rw[<-A8];exact hg.o
    refine⟨Nat.le_refl _,by omega,by omega,by omega,ho.kept fun g h1 h2=>Below.heap_setCell _ _ _ _ (by show g≠w.heap.size;omega),hg.rd.far (by omega) (by omega) (by omega),(Ai.o.trans (hg.bt.mono (by omega))).setCell (p:=⟨w,2,none⟩) (.inr Zl) _,j2s N,fun r hr=>?_⟩;rw[hu]at hr;exact .aO0 Am.o hg.pr (by simpa using hr)
   clear hg hu Ax U M N;generalize Az:ns2.length=nl at Aq;have Bb:Hid (ns2.length=nl):=Az;clear Az;go_wp2_with fail
   go_loopw [7] (fun x wr=>∃(q n:Nat)(A:List Td)(A':Option Addr)(W c':Nat),x=.slice A' W c'/\A.length=W/\y6z K ws pl b e op tx p w q n A (.slice A' W c') wr) (fun _ wr=>j0l wr b)
   case atStart=>exact⟨_,1,ns2,A2,nl,c2,rfl,Bb.o,Aq.o⟩
   case round=>
    obtain⟨q,n,A,A3,H,c3,rfl,L,G⟩:=hrel;have J:=hid G;have X:Hid (A.length=H):=L;have Bh:=G.rd.le;have hn:=G.nn;have Bp:=G.nq;have Ag:=G.bt.size;have Bi:b<wr.heap.size:=G.rd.row.lt;have Bn:w.heap.size<wr.heap.size:=(Array.getElem?_eq_some_iff.1 G.bx).1;rw[L]at hn;by_cases Q:ws[q]?=some [44]
    ·obtain⟨f,d⟩:=List.getElem?_eq_some_iff.1 Q
     have m:Hid (ws.drop q=[44]::ws.drop (q+1)):=by
      show _=_;rw[List.drop_eq_getElem_cons f,d]
     have R:Hid (Calls prog 127 #[.pointer (some ⟨b,0,none⟩),.string ⟨#[44]⟩] wr fun r w'=>r=.returned (.bool true)/\Ry K ws pl b (q+1) w'/\But wr b wr w'):=q7n G.rd [44] Q;clear G L Q d;go_wp2_with fail;refine R.o.mono ?_;rintro r w4⟨rfl,h4,b4⟩;have j:Hid (But wr b wr w4):=b4;have Bs:=b4.size;have a:Hid (Calls prog 130 #[.pointer (some ⟨b,0,none⟩)] w4 (fun r w'=>q4j K ws pl b (.level 0) (q+1) w4 r w')):=HS.o (q+1) (by have:=J.o.lt;omega) (by omega) _ h4;clear h4 b4 R;go_wp2_with fail;refine a.o.mono ?_;intro r D hG;cases hG with
     | @bad u5 _ pr bt=>
      have HB:Hid (j1s K ws pl b e op tx p w (.panicked [q4u (pl (ws.length-u5.length))]) D):=by
       obtain⟨W,c⟩:∃W,n=W+1:=⟨n-1,by have:=J.o.n1;omega⟩;subst c;exact .bad (J.o.ok _ (by rw[m.o];exact .aB Ak.o pr)) ((J.o.bt.trans (j.o.mono Ag)).trans (bt.mono (by omega)))
      clear pr bt;go_wp2;exact⟨rfl,HB.o⟩
     | @ok m5 ns5 u5 A5 c5 _ hg=>
      have M:=q5i hg.pr;have hu:ws.drop (ws.length-u5.length)=u5:=q7f M.1;have Ay:=hg.n;have Ae:=M.2 m5 ns5 u5 rfl;rw[q0h]at Ay Ae;simp only[Job.eats]at Ae;have Be:=hg.bt.size;have An:Hid (q0w (w.heap.size+1) (.slice A3 H c3) A D):=(J.o.o.but2 j.o (by omega)).but2 hg.bt (by omega);have Bd:Hid (Tds D A5 ns5):=hg.o.tds;have Al:Hid (A5=none->ns5.length=0/\c5=0):=hg.o.none.2;have y:Hid (D.heap[w.heap.size]?=some (.cells #[.int .i64 op,.string tx,.int .i64 (n:Int)] 47 (0,0))):=(hg.bt.block _ (by omega) (by omega)).trans ((j.o.block _ (by omega) (by omega)).trans J.o.bx);have l:Hid (But w b w D):=(J.o.bt.trans (j.o.mono Ag)).trans (hg.bt.mono (by omega));have s:Hid (Ry K ws pl b (ws.length-u5.length) D):=hg.rd
      have Bc:Hid (∀r,PR (.args e (n+1) (A++ns5)) (ws.drop (ws.length-u5.length)) r->PR (.args e 0 []) (ws.drop p) r):=fun r hr=>by
       obtain⟨W,c⟩:∃W,n=W+1:=⟨n-1,by have:=J.o.n1;omega⟩;subst c;rw[hu]at hr;exact J.o.ok _ (by rw[m.o];exact .aO Ak.o hg.pr hr)
      have Bq:q<ws.length-u5.length:=by omega
      clear hg hu M Ae;generalize Ac:ns5.length=n5 at Ay Al;have Y:Hid (ns5.length=n5):=Ac;have Ad:H+n5<=1000000:=by omega
      clear Ac a;go_wp2_with(at_builtin;refine q4k rfl _ _ rfl (w.heap.size+1) _ A rfl An.o A5 n5 ns5 Y.o c5 rfl Bd.o Al.o (H+n5) (by rw[X.o]) Ad (by omega) ?_);intro A6 c6 w6 E C;have Bt:=C.size;have B:Below (w.heap.size+1) D w6:= Zb.grown C (by omega) (fun k hk=>(World.ownsRow.lt An.o k hk).1);have P:w6.heap[w.heap.size]?=some (.cells #[.int .i64 op,.string tx,.int .i64 (n:Int)] 47 (0,0)):=(B.block _ (by omega)).trans y.o;have d6:w6.cell? ⟨w,2,none⟩=some (.int .i64 (n:Int)):=by rw[Lib.cell_of_heap P];rfl
      have f6:w6.frozen? ⟨w,2,none⟩=false:=Lib.frozen_of_heap P 2
      have Ar:Hid (y6z K ws pl b e op tx p w (ws.length-u5.length) (n+1) (A++ns5) (.slice A6 (H+n5) c6) (w6.setCell ⟨w,2,none⟩ (.int .i64 ((n:Int)+1)))):=by
       have At:(A++ns5).length=H+n5:=by rw[List.length_append,X.o,Y.o]
       have h7:=J.o.lt;refine⟨by omega,by omega,by omega,by rw[At];omega,E.kept fun g h1 h2=>Below.heap_setCell _ _ _ _ (by show g≠w.heap.size;omega),(s.o.keepB B (by omega) (by omega) (by omega)).far (by omega) (by omega) (by omega),(l.o.trans (But.of (B.mono (by omega)))).setCell (p:=⟨w,2,none⟩) (.inr Zl) _,?_,Bc.o⟩;rw[show((n+1:Nat):Int)=(n:Int)+1 by omega];exact j2s P
      have Ah:Hid ((A++ns5).length=H+n5):=(show _=_ by rw[List.length_append,X.o,Y.o]);have Bg:(n:Int)+1<=60001:=by omega
      clear E C B P y;go_wp2;refine⟨⟨_,n+1,A++ns5,A6,H+n5,c6,rfl,Ah.o,Ar.o⟩,?_⟩;rw[Ar.o.rd.len_eq,J.o.rd.len_eq];omega
    ·have R:Hid (Calls prog 127 #[.pointer (some ⟨b,0,none⟩),.string ⟨#[44]⟩] wr fun r w'=>r=.returned (.bool false)/\w'=wr):=q8k G.rd [44] (by simp) Q;by_cases V:ws[q]?=some e
     ·obtain⟨f,d⟩:=List.getElem?_eq_some_iff.1 V
      have m:Hid (ws.drop q=e::ws.drop (q+1)):=by
       show _=_;rw[List.drop_eq_getElem_cons f,d]
      have HM:Hid (Calls prog 129 #[.pointer (some ⟨b,0,none⟩),.string (wbS e)] wr fun r w'=>r=.returned (.tuple #[])/\Ry K ws pl b (q+1) w'/\But wr b wr w'):=q6n G.rd e V;clear G L Q V d;go_wp2_with fail;refine R.o.mono ?_;rintro r w4⟨rfl,rfl⟩;go_wp2_with fail;refine HM.o.mono ?_;rintro r D⟨rfl,h5,b5⟩;have Be:=b5.size;have O:D.heap[w.heap.size]?=some (.cells #[.int .i64 op,.string tx,.int .i64 (n:Int)] 47 (0,0)):=(b5.block _ (by omega) (by omega)).trans J.o.bx;have d0:D.cell? ⟨w,0,none⟩=some (.int .i64 op):=by rw[Lib.cell_of_heap O];rfl
      have d1:D.cell? ⟨w,1,none⟩=some (.string tx):=by rw[Lib.cell_of_heap O];rfl
      have d2:D.cell? ⟨w,2,none⟩=some (.int .i64 (n:Int)):=by rw[Lib.cell_of_heap O];rfl
      have Af:q0w (w.heap.size+1) (.slice A3 H c3) A D:=J.o.o.but2 b5 (by omega);have As:Hid (q0w w (.slice (some ⟨D,0,none⟩) 1 1) [⟨op,tx,(n:Int)⟩] (D.alloc (.cells #[.int .i64 op,.string tx,.int .i64 (n:Int)] 47))):=(q0w.one D ⟨op,tx,(n:Int)⟩).down (by omega);have Ap:Hid (Tds (D.alloc (.cells #[.int .i64 op,.string tx,.int .i64 (n:Int)] 47)) A3 A):=Af.tds.alloc _;have Ba:Hid (A3=none->H=0/\c3=0):=Af.none.2;have Ao:Hid ((D.alloc (.cells #[.int .i64 op,.string tx,.int .i64 (n:Int)] 47)).heap.size=D.heap.size+1):=World.size_alloc ..;have s:Hid (Ry K ws pl b (q+1) (D.alloc (.cells #[.int .i64 op,.string tx,.int .i64 (n:Int)] 47))):=h5.keep (q4b D _);have l:Hid (But w b w (D.alloc (.cells #[.int .i64 op,.string tx,.int .i64 (n:Int)] 47))):=(J.o.bt.trans (b5.mono Ag)).alloc (by omega) _;have Ad:1+H<=1000000:=by omega
      have Au:b<D.heap.size:=h5.row.lt;have Aw:=h5.gwlt;have Av:=h5.galt;clear h5 b5 O Af R HM;go_wp2_with(at_builtin;refine q4k rfl _ _ rfl w.heap.size _ [⟨op,tx,(n:Int)⟩] rfl As.o A3 H A X.o c3 rfl Ap.o Ba.o (1+H) rfl Ad (by rw[Ao.o];omega) ?_);intro A6 c6 w6 E C
      have i:∀k',(Value.slice (some ⟨D,0,none⟩) 1 1).ownBlock=some k'->D.heap.size<=k':=fun k' hk=>by
       simp only[Value.ownBlock,Option.some.injEq]at hk;omega
      have B:Below D (D.alloc (.cells #[.int .i64 op,.string tx,.int .i64 (n:Int)] 47)) w6:= Zb.grown C (by rw[Ao.o];omega) i
      have HX:Hid (j1s K ws pl b e op tx p w (.returned (.slice A6 (H+1) c6)) w6):=by
       have L:=X.o;subst L;have G:=J.o;have v:(ws.drop (q+1)).length=ws.length-(q+1):=q0h;have Bm:=G.lt;have Bo:=G.nn;refine j1s.ok (n:=n) (ns:=A) (u:=ws.drop (q+1)) ⟨G.ok _ (by rw[m.o];exact .aEnd),?_,?_,?_,l.o.trans (But.of (B.mono (by omega)))⟩
       ·rw[show A.length+1=1+A.length by omega];exact E
       ·rw[v,q0h];omega
       ·rw[v,show ws.length-(ws.length-(q+1))=q+1 by omega];exact s.o.keepB B Au Aw Av
      clear E C B i s l As Ap;rw[show 1+H=H+1 by omega];go_wp2;go_ret;exact HX.o
     ·have HM:Hid (Calls prog 129 #[.pointer (some ⟨b,0,none⟩),.string (wbS e)] wr fun r w'=>r=.panicked [q4u (pl q)]/\w'=wr):=q7o G.rd e HE.o V
      have HX:Hid (j1s K ws pl b e op tx p w (.panicked [q4u (pl q)]) wr):=by
       have v:(ws.drop q).length=ws.length-q:=q0h;obtain⟨W,c⟩:∃W,n=W+1:=⟨n-1,by have:=G.n1;omega⟩;subst c;have h9:=j1s.bad (K:=K) (pl:=pl) (b:=b) (op:=op) (tx:=tx) (w:=w) (G.ok _ (.aSep (by rw[q2m];exact V) (by rw[q2m];exact Q))) G.bt;rw[v,show ws.length-(ws.length-q)=q by omega]at h9;exact h9
      clear G L Q V;go_wp2_with fail;refine R.o.mono ?_;rintro r w4⟨rfl,rfl⟩;go_wp2_with fail;refine HM.o.mono ?_;rintro r D⟨rfl,rfl⟩;go_wp2;exact⟨rfl,HX.o⟩
end
def q6c(B:Nat)(v:Value)(xs:List Nd)(w:World):Prop:=w.ownsRow B 107 3 v xs.length (q1r xs)
theorem q6c.nods{B:Nat}{w:World}{A:Option Addr}{n c:Nat}{xs:List Nd}(h:q6c B (.slice A n c) xs w):q1p w A xs:=(k7n h).2.2
theorem q6c.none{B:Nat}{w:World}{A:Option Addr}{n c:Nat}{xs:List Nd}(h:q6c B (.slice A n c) xs w):n=xs.length/\(A=none->n=0/\c=0):=by
 rcases h.2 with⟨C,E⟩|⟨g,G,D,C,_⟩
 ·simp only[Value.slice.injEq]at C;obtain⟨rfl,rfl,rfl⟩:=C;exact⟨E.symm,fun _=>⟨rfl,rfl⟩⟩
 ·simp only[Value.slice.injEq]at C;obtain⟨rfl,rfl,rfl⟩:=C;exact⟨rfl,fun e=>by cases e⟩
theorem z7s{w:World}{G:Array Oper}{C:List Oper}{o:Oper}{a:Act}{Q:Exit->Act->World->Prop}(J:o.guard=none)(s x:Operand)
  (ho:o.op=.call {callee:=.builtin .append,args:=#[s,x],argTypes:=#[49,49]})
  (base:Nat) (v:Value) (xs:List Nd) (hs:a.eval s=v) (B:q6c base v xs w)
  (wa:Option Addr) (n:Nat) (ws:List Nd) (hn:ws.length=n) (wc:Nat) (hx:a.eval x=.slice wa n wc) (hW:q1p w wa ws) (K:wa=none->n=0/\wc=0)
  (m:Nat) (hm:xs.length+n=m) (hb:m<=1000000) (E:base<=w.heap.size)
  (h:∀A c w',q6c base (.slice A m c) (xs++ws) w'->w.grownBy w' v.ownBlock->wpList prog G Q C (a.put o.dst (.slice A m c)) w'):wpList prog G Q (o::C) a w:=by
 subst hn hm;obtain⟨V,U,O,P,R⟩:=info_parts v7j
 have S:∀H w',q6c base H (xs++ws) w'->w.grownBy w' v.ownBlock->wpList prog G Q C (a.put o.dst H) w':=by
  intro H w' I M
  obtain⟨A,c,rfl⟩:∃A c,H=.slice A (xs.length+ws.length) c:=by
   rcases I.2 with⟨L,D⟩|⟨g,c,W,L,_⟩
   ·rw[List.length_append]at D;exact⟨.none,0,by rw[L,D]⟩
   ·rw[List.length_append]at L;exact⟨_,c,L⟩
  exact h A c w' I M
 cases wa with
 | none=>
  obtain⟨D,rfl⟩:=K rfl;obtain rfl:ws=[]:=List.eq_nil_of_length_eq_zero D;refine wpList_append_own_none J s x 49 ho base 107 V 3 Tryz.underlying49 U v xs.length (q1r xs) hs B hx ?_;refine S v w ?_ ⟨rfl,rfl,rfl,Nat.le_refl _,fun _ _ _=>rfl⟩;rw[List.append_nil];exact B
 | some ad=>
  have N:ws=[]\/∃b o,ad=⟨b,o,Option.none⟩:=by
   rcases Nat.eq_zero_or_pos ws.length with D|D
   ·exact .inl (List.eq_nil_of_length_eq_zero D)
   ·obtain⟨b,o,e,_⟩:=hW 0 D;exact .inr ⟨b,o,by simpa using e⟩
  refine wpList_append_own w J s x 49 ho base 107 V _ 3 32 Tryz.underlying49 U O P R rfl (by decide) v xs.length (q1r xs) hs B ad ws.length wc (q1r ws) hx (q9p ws) ?_ (k4k ws) (by unfold maxLen;omega) (by omega) E ?_
  ·rcases N with rfl|⟨b,o,rfl⟩
   ·intro j u X;simp[q1r]at X
   ·exact j7o hW
  ·intro H w' I M _;rw[<-k4i]at I;refine S H w' ?_ M;show w'.ownsRow _ _ _ _ _ _;rw[List.length_append];exact I
theorem q6c.down{B B':Nat}{v:Value}{xs:List Nd}{w:World}(h:q6c B v xs w)(hB:B'<=B):q6c B' v xs w:=by
 refine⟨h.1,?_⟩;rcases h.2 with D|⟨g,c,C,E,G,A⟩
 ·exact .inl D
 ·exact .inr ⟨g,c,C,E,by omega,A⟩
theorem q6c.kept{B:Nat}{v:Value}{xs:List Nd}{w w':World}(h:q6c B v xs w)(hk:∀g,B<=g->g<w.heap.size->w'.heap[g]?=w.heap[g]?):q6c B v xs w':=by
 refine⟨h.1,?_⟩;rcases h.2 with G|⟨g,c,C,H,D,E,A⟩
 ·exact .inl G
 ·exact .inr ⟨g,c,C,H,D,(hk g D (Array.getElem?_eq_some_iff.1 E).1).trans E,A⟩
theorem q6c.one(w:World)(x:Nd):q6c w.heap.size (.slice (some ⟨w.heap.size,0,Option.none⟩) 1 1) [x] (w.alloc (.cells #[.int .i64 x.op,.string x.tx,.int .i64 x.n] 107)):=by
 have A:(w.alloc (.cells #[.int .i64 x.op,.string x.tx,.int .i64 x.n] 107)).heap[w.heap.size]?=some (.cells #[.int .i64 x.op,.string x.tx,.int .i64 x.n] 107 (0,0)):=by
  show(w.heap.push _)[w.heap.size]?=_
  simp
 exact⟨rfl,.inr ⟨w.heap.size,1,_,rfl,Nat.le_refl _,A,Nat.le_refl _,by unfold maxLen;decide,rfl,rfl⟩⟩
structure v8w(ds:List Td):Prop where
 l:ds.length<=40
 k:∀x∈ds,q0p x=0
def lvl(op:Int)(sec:Bool):Nat:=if op=5 then(if sec then 1 else 0)else(if sec then 2 else 1)
theorem k9h{ds:List Td}{p:Nat}{y:Td}{k n:Fo}{r:List Td}(h:ds.drop p=(Fo.cons y k n).N++r)(B:(Fo.cons y k n).ok):
  ∃hp:p<ds.length,ds[p]=y/\ds.drop (p+1)=k.N++(n.N++r)/\q3p ds p 1=some (p+1+k.N.length)/\ds.drop (p+1+k.N.length)=n.N++r:=by
 have hp:p<ds.length:=by
  rcases Nat.lt_or_ge p ds.length with C|C
  ·exact C
  ·rw[List.drop_eq_nil_of_le C,Fo.N]at h;cases h
 have A:=h;rw[List.drop_eq_getElem_cons hp,Fo.N,List.cons_append,List.cons.injEq,List.append_assoc]at A;refine⟨hp,A.1,A.2,?_,?_⟩
 ·have e:=j4l k B.2.1 (n.N++r) 0;rw[q7v,Nat.add_zero,B.1,<-A.2]at e;rw[z3w ds p 0 hp,A.1,q3p,Nat.add_zero (kdT y),e];rfl
 ·rw[<-List.drop_drop,A.2,List.drop_left]
theorem k6f{ds:List Td}{a:Option Addr}{cap p:Nat}(hs:v8w ds){q:Nat}(h:q3p ds p 1=some q)(hp:p<ds.length)(W:World)(hN:Tds W a ds):
  Calls prog 24 #[.slice a ds.length cap,.int .i64 (p:Int)] W fun e w'=>e=.returned (.int .i64 (q:Int))/\Below W W w':=by
 have A:=hs.l
 have:=z4r ds a cap (by omega) hs.k (ds.length+1) p W hN (by omega) (by omega)
 rw[h]at this;exact this
theorem j0k(op:Int)(w:World):Calls prog 189 #[.int .i64 op] w fun e w'=>e=.returned (.int .i64 (pts op))/\w=w':=by
 by_cases A:op=6
 ·subst A;go_in;go_wp2;go_ret;exact⟨rfl,rfl⟩
 by_cases D:op=9
 ·subst D;go_in;go_wp2;go_ret;exact⟨rfl,rfl⟩
 by_cases B:op=7
 ·subst B;go_in;go_wp2;go_ret;exact⟨rfl,rfl⟩
 by_cases C:op=8
 ·subst C;go_in;go_wp2;go_ret;exact⟨rfl,rfl⟩
 have e:pts op=0:=by simp[pts,A,B,C,D]
 rw[e];have E:(op==6)=false:=by simp[A]
 have G:(op==7)=false:=by simp[B]
 have H:(op==8)=false:=by simp[C]
 have I:(op==9)=false:=by simp[D]
 clear e A B C D;go_in;go_wp2;go_ret;exact⟨rfl,rfl⟩
end Go.Proofs.YtfdppahhbpfnoaaGreatDoor
