import Derived.Test.YtelcnplcpboonaaGreatDoorPb15
import Derived.Test.YtelcnplcpboonaaGreatDoorPb02
import Derived.Lib.Atoi
import Derived.Lib.AtoiErrMem
open Go.Proofs.Tryz
namespace Go.Proofs.YtelcnplcpboonaaGreatDoor
open Go Go.RowKit
set_option maxRecDepth 100000
set_option maxHeartbeats 16000000
theorem q0e{ws:List Wd}{p:Nat}:(ws.drop p).length=ws.length-p:=List.length_drop
theorem q1r(ws:List Wd)(p:Nat):(ws.drop p).head?=ws[p]?:=List.head?_drop
theorem q5w{ws:List Wd}{p:Nat}{r:List Wd}(h:r <:+ ws.drop p):ws.drop (ws.length-r.length)=r:=by
 obtain⟨t,A⟩:=h.trans (List.drop_suffix p ws);have B:=congrArg List.length A;rw[List.length_append]at B;have e:ws.length-r.length=t.length:=by omega
 rw[e,<-A,List.drop_left]
structure v0b(K:LwK)(ws:List Wd)(pl:Nat->Nat)(b:Nat)(j:Job)(p:Nat)(w:World)(m:Nat)(ns:List Td)(u:List Wd)(v:Value)(w':World):Prop where
 pr:PR j (ws.drop p) (.ok m ns u)
 o:q1p w v ns w'
 n:ns.length+u.length<=(ws.drop p).length
 rd:Ry K ws pl b (ws.length-u.length) w'
 bt:But w b w w'
inductive q3p (K:LwK) (ws:List Wd) (pl:Nat->Nat) (b:Nat) (j:Job) (p:Nat) (w:World):Ending->World->Prop where
 | ok {m ns u A c w'} (h:v0b K ws pl b j p w m ns u (.slice A ns.length c) w'):q3p K ws pl b j p w (.returned (.slice A ns.length c)) w'
 | bad {u w'} (pr:PR j (ws.drop p) (.bad u)) (bt:But w b w w'):q3p K ws pl b j p w (.panicked [q4c (pl (ws.length-u.length))]) w'
abbrev j0z(K:LwK)(ws:List Wd)(pl:Nat->Nat)(b p:Nat):Prop:=∀w:World,Ry K ws pl b p w->Calls prog 150 #[.pointer (some ⟨b,0,none⟩)] w fun e w'=>q3p K ws pl b (.level 0) p w e w'
abbrev y3f(K:LwK)(ws:List Wd)(pl:Nat->Nat)(b p:Nat):Prop:=∀w:World,Ry K ws pl b p w->Calls prog 187 #[.pointer (some ⟨b,0,none⟩)] w fun e w'=>q3p K ws pl b (.level 1) p w e w'
abbrev y3e(K:LwK)(ws:List Wd)(pl:Nat->Nat)(b p:Nat):Prop:=∀w:World,Ry K ws pl b p w->Calls prog 218 #[.pointer (some ⟨b,0,none⟩)] w fun e w'=>q3p K ws pl b (.level 2) p w e w'
def k9o(w:World)(b:Nat):Nat:=match w.cell? ⟨b,0,none⟩with
 | some (.slice _ n _)=>n
 | _=>0
section
variable {K:LwK} {ws:List Wd} {pl:Nat→Nat} {b q p:Nat} {w w':World}
theorem Ry.len_eq(h:Ry K ws pl b q w):k9o w b=ws.length+1-q:=by
 unfold k9o;rw[h.c0]
theorem q1p.but2{B:Nat}{v:Value}{xs:List Td}(h:q1p B v xs w)(hb:But w b w w')(hB:b<B):q1p B v xs w':=h.kept fun g _ h2=>hb.block g h2 (by omega)
structure k7l(K:LwK)(ws:List Wd)(pl:Nat->Nat)(b k p:Nat)(w:World)(q:Nat)(acc:List Td)(v:Value)(wr:World):Prop where
 lt:p<q
 n:acc.length+(ws.length-q)<=ws.length-p
 o:q1p w v acc wr
 rd:Ry K ws pl b q wr
 bt:But w b w wr
 ok:∀r,PR (.loop k acc) (ws.drop q) r->PR (.level k) (ws.drop p) r
theorem v2v{k m:Nat}{ns:List Td}{u:List Wd}{v:Value}{w1:World}(hk:k<2)(h:v0b K ws pl b (.level (k+1)) p w m ns u v w1):k7l K ws pl b k p w (ws.length-u.length) ns v w1:=by
 have A:=q9f h.pr;have C:ws.drop (ws.length-u.length)=u:=q5w A.1;have D:=h.n;have B:=A.2 m ns u rfl;rw[q0e]at B D;simp only[Job.eats]at B;exact⟨by omega,by omega,h.o,h.rd,h.bt,fun r hr=>by rw[C]at hr;exact .levO hk h.pr hr⟩
theorem y0w{k q m:Nat}{A ns:List Td}{u:List Wd}{v v4 v5:Value}{wr w3 w4 w5:World}(hV:k7l K ws pl b k p w q A v wr)(hq:q<ws.length)(hd:ws.drop q=sgn k::ws.drop (q+1))(C:But w b w w3)(E:w.heap.size<=w3.heap.size)
  (hG:v0b K ws pl b (.level (k+1)) (q+1) w3 m ns u v4 w4) (b5:Below w4 w4 w5) (ho:q1p w v5 (sgT k::(A++ns)) w5):
  k7l K ws pl b k p w (ws.length-u.length) (sgT k::(A++ns)) v5 w5/\q<ws.length-u.length:=by
 have B:=q9f hG.pr;have H:ws.drop (ws.length-u.length)=u:=q5w B.1;have L:=hG.n;have G:=B.2 m ns u rfl;rw[q0e]at L G;simp only[Job.eats]at G;have I:=hV.n;have J:=hV.lt;have D:(sgT k::(A++ns)).length=1+A.length+ns.length:=by simp;omega
 have M:=hG.bt.size;exact⟨⟨by omega,by rw[D];omega,ho,hG.rd.keep b5,(C.trans (hG.bt.mono E)).trans (But.of (b5.mono (by omega))),fun r hr=>by rw[H]at hr;exact hV.ok _ (by rw[hd];exact .lopO hG.pr hr)⟩,by omega⟩
end
theorem z6e(k F:Nat)(s:UInt8)(o:Int)(hk:k=0/\F=187/\s=43/\o=5\/k=1/\F=218/\s=42/\o=6){K:LwK}{ws:List Wd}{pl:Nat->Nat}{b p:Nat}(hL:∀q,p<=q->q<=ws.length->∀w:World,Ry K ws pl b q w->Calls prog F #[.pointer (some ⟨b,0,none⟩)] w fun e w'=>q3p K ws pl b (.level (k+1)) q w e w')(w:World)(h:Ry K ws pl b p w):
  Calls prog 186 #[.pointer (some ⟨b,0,none⟩),.string ⟨#[s]⟩,.int .i64 o,.func (.func F) #[.pointer (some ⟨b,0,none⟩)] #[]] w fun e w'=>q3p K ws pl b (.level k) p w e w':=by
 have C:Tag k:=.mk;rcases hk with⟨rfl,rfl,rfl,rfl⟩|⟨rfl,rfl,rfl,rfl⟩
 all_goals
  have HL:=hid hL;have l:Hid (Calls prog ↑(z1p C 187 218) #[.pointer (some ⟨b,0,none⟩)] w fun e w'=>q3p K ws pl b (.level (↑(z1p C 0 1)+1)) p w e w'):=hL p Zl h.le w h;have z:b<w.heap.size:=h.row.lt;have Aw:=h.le;have At:=h.few;clear h hL;go_in;go_wp2_with fail;refine l.o.mono ?_;intro e w1 hG;cases hG with
  | bad pr bt=>
   have HB:Hid (q3p K ws pl b (.level ↑(z1p C 0 1)) p w (.panicked [q4c (pl (ws.length-_))]) w1):=.bad (.levB (by omega) pr) bt;clear pr bt;go_wp2;exact⟨rfl,HB.o⟩
  | @ok m ns u A c _ hg=>
   have v:Hid (k7l K ws pl b ↑(z1p C 0 1) p w (ws.length-u.length) ns (.slice A ns.length c) w1):=v2v (by omega) hg;clear hg l;generalize Ac:ns.length=nl at v;have Aj:Hid (ns.length=nl):=Ac;clear Ac;go_wp2_with fail
   go_loopw [9] (fun x wr=>∃(q:Nat)(B:List Td)(A':Option Addr)(n' c':Nat),x=.slice A' n' c'/\B.length=n'/\k7l K ws pl b ↑(z1p C 0 1) p w q B (.slice A' n' c') wr) (fun _ wr=>k9o wr b)
   case atStart=>exact⟨_,ns,A,nl,c,rfl,Aj.o,v.o⟩
   case round=>
    obtain⟨q,B,S,L,V,rfl,O,H⟩:=hrel;have U:=hid H;have N:Hid (B.length=L):=O;have Au:=H.rd.le;have hn:=H.n;have As:=H.bt.size;rw[O]at hn;by_cases I:ws[q]?=some (sgn ↑(z1p C 0 1))
    ·obtain⟨R,Af⟩:=List.getElem?_eq_some_iff.1 I
     have f:Hid (ws.drop q=sgn ↑(z1p C 0 1)::ws.drop (q+1)):=by
      show _=_;rw[List.drop_eq_getElem_cons R,Af]
     have HH:Hid (Calls prog 147 #[.pointer (some ⟨b,0,none⟩),.string ⟨#[↑(sel C (43:UInt8) 42)]⟩] wr fun e w'=>e=.returned (.bool true)/\Ry K ws pl b (q+1) w'/\But wr b wr w'):=q6f H.rd (sgn ↑(z1p C 0 1)) I;clear H O I Af;go_wp2_with fail;refine HH.o.mono ?_;rintro e E⟨rfl,h2,b2⟩;have Z:Hid (But wr b wr E):=b2;have Ax:=b2.size;have Ao:b<E.heap.size:=h2.row.lt
     have t:Hid (∃M,E.alloc (.cells #[.int .i64 ↑(sel C (5:Int) 6),.string ⟨#[]⟩,.int .i64 0] 81)=M/\Calls prog ↑(z1p C 187 218) #[.pointer (some ⟨b,0,none⟩)] M (fun e w'=>q3p K ws pl b (.level (↑(z1p C 0 1)+1)) (q+1) M e w')/\q1p E (.slice (some ⟨E,0,none⟩) 1 1) [sgT ↑(z1p C 0 1)] M/\q1p w (.slice S L V) B M/\But w b w M/\M.heap.size=E.heap.size+1):=by
      refine⟨_,rfl,HL.o (q+1) (by have:=U.o.lt;omega) (by omega) _ (h2.keep (q1c E _)),q1p.one E (sgT ↑(z1p C 0 1)),?_,(U.o.bt.trans (Z.o.mono As)).alloc (by omega) _,World.size_alloc ..⟩;have ho:=U.o.o.but2 Z.o z;exact ho.kept fun g _ h5=>Lib.alloc_old E _ g h5
     clear h2 b2 HH;go_wp2_with fail;obtain⟨M,Ah,Q,Ag,Ad,y,Av⟩:=t.o;rw[Ah];have Am:Hid (q1p E (.slice (some ⟨E,0,none⟩) 1 1) [sgT ↑(z1p C 0 1)] M):=Ag;have Ak:Hid (q1p w (.slice S L V) B M):=Ad;have a:Hid (But w b w M):=y;clear Ag Ad y t Ah;refine Q.mono ?_;clear Q;intro e D hG;cases hG with
     | @bad u4 _ pr bt=>
      have HB:Hid (q3p K ws pl b (.level ↑(z1p C 0 1)) p w (.panicked [q4c (pl (ws.length-u4.length))]) D):=.bad (U.o.ok _ (by rw[f.o];exact .lopB pr)) (a.o.trans (bt.mono (by omega)));clear pr bt;go_wp2;exact⟨rfl,HB.o⟩
     | @ok m4 ns4 u4 A4 c4 _ hg=>
      have HG:=hid hg;have Ay:=hg.bt.size;have Ab:=hg.n;rw[q0e]at Ab;have An:Hid (q1p E (.slice (some ⟨E,0,none⟩) 1 1) [sgT ↑(z1p C 0 1)] D):=Am.o.but2 hg.bt Ao;have r:Hid (q1p w (.slice S L V) B D):=Ak.o.but2 hg.bt z
      have Al:Hid (∀W,Below D D W->W.heap[D.heap.size]?=some (.cells #[.slice (some ⟨E,0,none⟩) 1 1,.slice S L V,.slice A4 ns4.length c4] 82 (0,0))->y3d W (some ⟨D,0,none⟩) [[sgT ↑(z1p C 0 1)],B,ns4]):=by
       intro W X hk;have Y:D.heap.size<W.heap.size:=(Array.getElem?_eq_some_iff.1 hk).1;have G:∀i,W.cell? ⟨D,i,none⟩=#[Value.slice (some ⟨E,0,none⟩) 1 1,.slice S L V,.slice A4 ns4.length c4][i]?:=fun i=>by simp[World.cell?,hk]
       intro i hi;have h3:i=0\/i=1\/i=2:=by simp at hi;omega
       have e1:=k3s r.o;have e2:=k3s HG.o.o;rcases h3 with rfl|rfl|rfl
       ·exact⟨D.heap.size,0,some ⟨E,0,none⟩,1,rfl,Y,G 0,Nat.le_refl _,An.o.tds.W X,fun e=>by cases e⟩
       ·exact⟨D.heap.size,0,S,V,rfl,Y,by rw[show(([[sgT ↑(z1p C 0 1)],B,ns4]:List (List Td))[1]).length=L from N.o];exact G 1,e1.2.1,e1.2.2.W X,fun e=>by
         have:=r.o.none.2 e
         exact⟨by show B.length=0;rw[N.o];exact this.1,this.2⟩⟩
       ·exact⟨D.heap.size,0,A4,c4,rfl,Y,G 2,e2.2.1,e2.2.2.W X,fun e=>HG.o.o.none.2 e⟩
      have P:[[sgT ↑(z1p C 0 1)],B,ns4].flatten=sgT ↑(z1p C 0 1)::(B++ns4):=by simp
      have J:(sgT ↑(z1p C 0 1)::(B++ns4)).length=1+L+ns4.length:=by rw[List.length_cons,List.length_append,N.o];omega
      have d:Hid (∀W,Below D D W->W.heap[D.heap.size]?=some (.cells #[.slice (some ⟨E,0,none⟩) 1 1,.slice S L V,.slice A4 ns4.length c4] 82 (0,0))->Calls prog 217 #[.slice (some ⟨D,0,none⟩) 3 3] W fun e w'=>∃A c',e=.returned (.slice A (1+L+ns4.length) c')/\k7l K ws pl b ↑(z1p C 0 1) p w (ws.length-u4.length) (sgT ↑(z1p C 0 1)::(B++ns4)) (.slice A (1+L+ns4.length) c') w'/\q<ws.length-u4.length):=by
       intro W X hk;have h9:=k4h [[sgT ↑(z1p C 0 1)],B,ns4] (some ⟨D,0,none⟩) 3 W (Al.o W X hk) (by rw[P,J];omega) (by rw[P,J];omega) (by simp);rw[P,J]at h9;refine h9.mono ?_;rintro e w6⟨A6,c6,rfl,Aq,Ap⟩;have Ar:=X.size;exact⟨A6,c6,rfl,y0w U.o R f.o a.o (by omega) HG.o (X.trans (Ap.mono Ar)) (Aq.down (by omega))⟩
      have j:=(show Hid (_=_)from J);clear hg P J Ab;generalize ns4.length=n4 at d j⊢;go_wp2_with fail;refine(d.o _ (q1c D _) (heap_alloc_new D _)).mono ?_;rintro e w6⟨A6,c6,rfl,h6,Ae⟩;have H6:=hid (And.intro h6 Ae);clear h6 Ae;go_wp2;refine⟨⟨_,_,A6,_,c6,rfl,j.o,H6.o.1⟩,?_⟩;rw[H6.o.1.rd.len_eq,U.o.rd.len_eq]
      have:=H6.o.2
      omega
    ·have Ai:Hid ((ws.drop q).head?≠some (sgn ↑(z1p C 0 1))):=by
      show _≠_;rw[q1r];exact I
     have HH:Hid (Calls prog 147 #[.pointer (some ⟨b,0,none⟩),.string ⟨#[↑(sel C (43:UInt8) 42)]⟩] wr fun e w'=>e=.returned (.bool false)/\w'=wr):=q6x H.rd (sgn ↑(z1p C 0 1)) (by decide) I;clear H O I;go_wp2_with fail;refine HH.o.mono ?_;rintro e E⟨rfl,rfl⟩;go_wp2;go_ret;have H:=U.o;obtain rfl:=N.o;have Aa:(ws.drop q).length=ws.length-q:=q0e;refine .ok (m:=0) (u:=ws.drop q) ⟨H.ok _ (.lopE Ai.o),H.o,?_,?_,H.bt⟩
     ·rw[Aa,q0e];have:=H.n;omega
     ·rw[Aa,show ws.length-(ws.length-q)=q by omega];exact H.rd
theorem j9t{K:LwK}{ws:List Wd}{pl:Nat->Nat}{b p:Nat}(hL:∀q,p<=q->q<=ws.length->y3f K ws pl b q):j0z K ws pl b p:=by
 intro w h;have G:∀(fn:Fn)(first cap:Array Value)(w:World),(Instr.makeFunc fn first cap).run prog w=.ok (.func fn first cap) w:=fun _ _ _ _=>rfl
 have D:Hid (Calls prog 186 #[.pointer (some ⟨b,0,none⟩),.string ⟨#[43]⟩,.int .i64 5,.func (.func 187) #[.pointer (some ⟨b,0,none⟩)] #[]] w fun e w'=>q3p K ws pl b (.level 0) p w e w'):=z6e 0 _ _ _ (.inl ⟨rfl,rfl,rfl,rfl⟩) hL w h;clear h hL;go_in;go_wp2_with fail;refine D.o.mono ?_;intro e C E;cases E with
 | @bad u _ pr bt=>
  have B:Hid (q3p K ws pl b (.level 0) p w (.panicked [q4c (pl (ws.length-u.length))]) C):=.bad pr bt;clear pr bt;go_wp2;exact⟨rfl,B.o⟩
 | @ok m ns u A c _ hg=>
  have B:Hid (q3p K ws pl b (.level 0) p w (.returned (.slice A ns.length c)) C):=.ok hg;clear hg;generalize ns.length=nl at B⊢;go_wp2;go_ret;exact B.o
theorem k1n{K:LwK}{ws:List Wd}{pl:Nat->Nat}{b p:Nat}(hL:∀q,p<=q->q<=ws.length->y3e K ws pl b q):y3f K ws pl b p:=by
 intro w h;have G:∀(fn:Fn)(first cap:Array Value)(w:World),(Instr.makeFunc fn first cap).run prog w=.ok (.func fn first cap) w:=fun _ _ _ _=>rfl
 have D:Hid (Calls prog 186 #[.pointer (some ⟨b,0,none⟩),.string ⟨#[42]⟩,.int .i64 6,.func (.func 218) #[.pointer (some ⟨b,0,none⟩)] #[]] w fun e w'=>q3p K ws pl b (.level 1) p w e w'):=z6e 1 _ _ _ (.inr ⟨rfl,rfl,rfl,rfl⟩) hL w h;clear h hL;go_in;go_wp2_with fail;refine D.o.mono ?_;intro e C E;cases E with
 | @bad u _ pr bt=>
  have B:Hid (q3p K ws pl b (.level 1) p w (.panicked [q4c (pl (ws.length-u.length))]) C):=.bad pr bt;clear pr bt;go_wp2;exact⟨rfl,B.o⟩
 | @ok m ns u A c _ hg=>
  have B:Hid (q3p K ws pl b (.level 1) p w (.returned (.slice A ns.length c)) C):=.ok hg;clear hg;generalize ns.length=nl at B⊢;go_wp2;go_ret;exact B.o
structure y8d(K:LwK)(ws:List Wd)(pl:Nat->Nat)(b:Nat)(e:Wd)(op:Int)(tx:ByteArray)(p:Nat)(w:World)(n:Nat)(ns:List Td)(u:List Wd)(v:Value)(w':World):Prop where
 pr:PR (.args e 0 []) (ws.drop p) (.ok n ns u)
 o:q1p w v (⟨op,tx,(n:Int)⟩::ns) w'
 n:ns.length+u.length<=(ws.drop p).length
 rd:Ry K ws pl b (ws.length-u.length) w'
 bt:But w b w w'
inductive j0u (K:LwK) (ws:List Wd) (pl:Nat->Nat) (b:Nat) (e:Wd) (op:Int) (tx:ByteArray) (p:Nat) (w:World):Ending->World->Prop where
 | ok {n ns u A c w'} (h:y8d K ws pl b e op tx p w n ns u (.slice A (ns.length+1) c) w'):j0u K ws pl b e op tx p w (.returned (.slice A (ns.length+1) c)) w'
 | bad {u w'} (pr:PR (.args e 0 []) (ws.drop p) (.bad u)) (bt:But w b w w'):j0u K ws pl b e op tx p w (.panicked [q4c (pl (ws.length-u.length))]) w'
structure y8e(K:LwK)(ws:List Wd)(pl:Nat->Nat)(b:Nat)(e:Wd)(op:Int)(tx:ByteArray)(p:Nat)(w:World)(q n:Nat)(acc:List Td)(v:Value)(wr:World):Prop where
 n1:1<=n
 nq:n<=q
 lt:p<q
 nn:acc.length+(ws.length-q)<=ws.length-p
 o:q1p (w.heap.size+1) v acc wr
 rd:Ry K ws pl b q wr
 bt:But w b w wr
 bx:wr.heap[w.heap.size]?=some (.cells #[.int .i64 op,.string tx,.int .i64 (n:Int)] 81 (0,0))
 ok:∀r,PR (.args e n acc) (ws.drop q) r->PR (.args e 0 []) (ws.drop p) r
theorem Ry.far{K:LwK}{ws:List Wd}{pl:Nat->Nat}{b q:Nat}{w:World}(h:Ry K ws pl b q w){k i:Nat}{v:Value}(h1:k≠b)(h2:k≠K.gw)(h3:k≠K.ga):Ry K ws pl b q (w.setCell ⟨k,i,none⟩ v):=
 ⟨h.le,(cso (.inl h1)).trans h.c0,(cso (.inl h1)).trans h.c1,h.row.set,fun i hi=>(cso (.inl h2)).trans (h.wd i hi),fun i hi=>(cso (.inl h3)).trans (h.pt i hi),h.nw,h.na,h.lw,h.la,h.few⟩
theorem j1u{w:World}{k:Nat}{a c d d':Value}{T:TypeId}(h:w.heap[k]?=some (.cells #[a,c,d] T (0,0))):(w.setCell ⟨k,2,none⟩ d').heap[k]?=some (.cells #[a,c,d'] T (0,0)):=by
 simp[World.setCell,Array.getElem?_modify,h]
section
variable {K:LwK} {ws:List Wd} {pl:Nat→Nat} {b p q:Nat} {e:Wd} {op:Int} {tx:ByteArray} {w:World}
theorem k1m(he:e≠[])(U:e≠[44])(hS:∀q,p<=q->q<=ws.length->j0z K ws pl b q)(h:Ry K ws pl b p w):
  Calls prog 242 #[.pointer (some ⟨b,0,none⟩),.agg #[.int .i64 op,.string tx,.int .i64 0],.string (wbS e)] w fun r w'=>j0u K ws pl b e op tx p w r w':=by
 have HS:Hid (∀q,p<=q->q<=ws.length->j0z K ws pl b q):=hS;have Bj:b<w.heap.size:=h.row.lt;have A1:=h.le;have Bf:=h.few;have Bl:=h.gwlt;have Bk:=h.galt;have Z:Hid (Ry K ws pl b p (w.alloc (.cells #[.int .i64 op,.string tx,.int .i64 0] 81))):=h.keep (q1c w _);have HE:Hid (e≠[]):=he;have Ak:Hid (e≠[44]):=U;clear h hS he U;by_cases Q:ws[p]?=some e
 ·obtain⟨A4,A0⟩:=List.getElem?_eq_some_iff.1 Q
  have HD:Hid (ws.drop p=e::ws.drop (p+1)):=by
   show _=_;rw[List.drop_eq_getElem_cons A4,A0]
  have R:Hid (Calls prog 147 #[.pointer (some ⟨b,0,none⟩),.string (wbS e)] (w.alloc (.cells #[.int .i64 op,.string tx,.int .i64 0] 81)) fun r w'=>∃I,w'=I/\r=.returned (.bool true)/\Ry K ws pl b (p+1) I/\But w b w I/\I.heap[w.heap.size]?=some (.cells #[.int .i64 op,.string tx,.int .i64 0] 81 (0,0))):=by
   refine(q6f Z.o e Q).mono ?_;rintro r I⟨rfl,h1,b1⟩;have Bu:(w.alloc (.cells #[.int .i64 op,.string tx,.int .i64 0] 81)).heap.size=w.heap.size+1:=World.size_alloc ..;exact⟨I,rfl,rfl,h1,(But.of (q1c w _)).trans (b1.mono (by omega)),(b1.block _ (by omega) (by omega)).trans (heap_alloc_new w _)⟩
  generalize wbS e=S at R⊢;clear Q A0 Z;go_in;go_wp2_with fail;refine R.o.mono ?_;rintro r w'⟨I,rfl,rfl,h1,b1,t⟩;have d0:w'.cell? ⟨w,0,none⟩=some (.int .i64 op):=by rw[Lib.cell_of_heap t];rfl
  have d1:w'.cell? ⟨w,1,none⟩=some (.string tx):=by rw[Lib.cell_of_heap t];rfl
  have d2:w'.cell? ⟨w,2,none⟩=some (.int .i64 0):=by rw[Lib.cell_of_heap t];rfl
  have A7:=b1.size
  have HX:Hid (j0u K ws pl b e op tx p w (.returned (.slice (some ⟨w',0,none⟩) 1 1)) (w'.alloc (.cells #[.int .i64 op,.string tx,.int .i64 0] 81))):=by
   refine j0u.ok (n:=0) (ns:=[]) (u:=ws.drop (p+1)) ⟨by rw[HD.o];exact .aEnd,(q1p.one w' ⟨op,tx,0⟩).down A7,?_,?_,b1.alloc A7 _⟩
   ·rw[q0e,q0e];simp only[List.length_nil];omega
   ·rw[q0e,show ws.length-(ws.length-(p+1))=p+1 by omega];exact h1.keep (q1c w' _)
  clear h1 b1 t R;go_wp2;go_ret;exact HX.o
 ·have R:Hid (Calls prog 147 #[.pointer (some ⟨b,0,none⟩),.string (wbS e)] (w.alloc (.cells #[.int .i64 op,.string tx,.int .i64 0] 81)) fun r w'=>r=.returned (.bool false)/\w'=w.alloc (.cells #[.int .i64 op,.string tx,.int .i64 0] 81)):=q6x Z.o e HE.o Q
  have Am:Hid ((ws.drop p).head?≠some e):=by
   show _≠_;rw[q1r];exact Q
  have a:Hid (∃I,w.alloc (.cells #[.int .i64 op,.string tx,.int .i64 0] 81)=I/\Calls prog 150 #[.pointer (some ⟨b,0,none⟩)] I (fun r w'=>q3p K ws pl b (.level 0) p I r w')/\But w b w I/\I.heap.size=w.heap.size+1/\I.heap[w.heap.size]?=some (.cells #[.int .i64 op,.string tx,.int .i64 0] 81 (0,0))):=
   ⟨_,rfl,HS.o p Zl A1 _ Z.o,But.of (q1c w _),World.size_alloc ..,heap_alloc_new w _⟩
  clear Q Z;go_in;go_wp2_with fail;refine R.o.mono ?_;rintro r w'⟨rfl,rfl⟩;go_wp2_with fail;obtain⟨I,A9,Ab,z,A8,Aa⟩:=a.o;rw[A9];have Ai:Hid (But w b w I):=z;have Aj:=(show Hid (_=_)from Aa);clear z Aa a A9 R;refine Ab.mono ?_;clear Ab;intro r w2 hG;cases hG with
  | @bad u2 _ pr bt=>
   have HB:Hid (j0u K ws pl b e op tx p w (.panicked [q4c (pl (ws.length-u2.length))]) w2):=.bad (.aB0 Am.o pr) (Ai.o.trans (bt.mono (by omega)));clear pr bt;go_wp2;exact⟨rfl,HB.o⟩
  | @ok m2 ns2 u2 A2 c2 _ hg=>
   have M:=q9f hg.pr;have hu:ws.drop (ws.length-u2.length)=u2:=q5w M.1;have Ax:=hg.n;have U:=M.2 m2 ns2 u2 rfl;rw[q0e]at Ax U;simp only[Job.eats]at U;have Br:=hg.bt.size;have N:w2.heap[w.heap.size]?=some (.cells #[.int .i64 op,.string tx,.int .i64 0] 81 (0,0)):=(hg.bt.block _ (by omega) (by omega)).trans Aj.o;have d2:w2.cell? ⟨w,2,none⟩=some (.int .i64 0):=by rw[Lib.cell_of_heap N];rfl
   have f2:w2.frozen? ⟨w,2,none⟩=false:=Lib.frozen_of_heap N 2
   have Aq:Hid (y8e K ws pl b e op tx p w (ws.length-u2.length) 1 ns2 (.slice A2 ns2.length c2) (w2.setCell ⟨w,2,none⟩ (.int .i64 1))):=by
    have ho:q1p (w.heap.size+1) (.slice A2 ns2.length c2) ns2 w2:=by rw[<-A8];exact hg.o
    refine⟨Nat.le_refl _,by omega,by omega,by omega,ho.kept fun g h1 h2=>Below.heap_setCell _ _ _ _ (by show g≠w.heap.size;omega),hg.rd.far (by omega) (by omega) (by omega),(Ai.o.trans (hg.bt.mono (by omega))).setCell (p:=⟨w,2,none⟩) (.inr Zl) _,j1u N,fun r hr=>?_⟩;rw[hu]at hr;exact .aO0 Am.o hg.pr (by simpa using hr)
   clear hg hu Ax U M N;generalize Az:ns2.length=nl at Aq;have Bb:Hid (ns2.length=nl):=Az;clear Az;go_wp2_with fail
   go_loopw [7] (fun x wr=>∃(q n:Nat)(A:List Td)(A':Option Addr)(W c':Nat),x=.slice A' W c'/\A.length=W/\y8e K ws pl b e op tx p w q n A (.slice A' W c') wr) (fun _ wr=>k9o wr b)
   case atStart=>exact⟨_,1,ns2,A2,nl,c2,rfl,Bb.o,Aq.o⟩
   case round=>
    obtain⟨q,n,A,A3,H,c3,rfl,L,G⟩:=hrel;have J:=hid G;have X:Hid (A.length=H):=L;have Bh:=G.rd.le;have hn:=G.nn;have Bp:=G.nq;have Ag:=G.bt.size;have Bi:b<wr.heap.size:=G.rd.row.lt;have Bn:w.heap.size<wr.heap.size:=(Array.getElem?_eq_some_iff.1 G.bx).1;rw[L]at hn;by_cases Q:ws[q]?=some [44]
    ·obtain⟨f,d⟩:=List.getElem?_eq_some_iff.1 Q
     have m:Hid (ws.drop q=[44]::ws.drop (q+1)):=by
      show _=_;rw[List.drop_eq_getElem_cons f,d]
     have R:Hid (Calls prog 147 #[.pointer (some ⟨b,0,none⟩),.string ⟨#[44]⟩] wr fun r w'=>r=.returned (.bool true)/\Ry K ws pl b (q+1) w'/\But wr b wr w'):=q6f G.rd [44] Q;clear G L Q d;go_wp2_with fail;refine R.o.mono ?_;rintro r w4⟨rfl,h4,b4⟩;have j:Hid (But wr b wr w4):=b4;have Bs:=b4.size;have a:Hid (Calls prog 150 #[.pointer (some ⟨b,0,none⟩)] w4 (fun r w'=>q3p K ws pl b (.level 0) (q+1) w4 r w')):=HS.o (q+1) (by have:=J.o.lt;omega) (by omega) _ h4;clear h4 b4 R;go_wp2_with fail;refine a.o.mono ?_;intro r D hG;cases hG with
     | @bad u5 _ pr bt=>
      have HB:Hid (j0u K ws pl b e op tx p w (.panicked [q4c (pl (ws.length-u5.length))]) D):=by
       obtain⟨W,c⟩:∃W,n=W+1:=⟨n-1,by have:=J.o.n1;omega⟩;subst c;exact .bad (J.o.ok _ (by rw[m.o];exact .aB Ak.o pr)) ((J.o.bt.trans (j.o.mono Ag)).trans (bt.mono (by omega)))
      clear pr bt;go_wp2;exact⟨rfl,HB.o⟩
     | @ok m5 ns5 u5 A5 c5 _ hg=>
      have M:=q9f hg.pr;have hu:ws.drop (ws.length-u5.length)=u5:=q5w M.1;have Ay:=hg.n;have Ae:=M.2 m5 ns5 u5 rfl;rw[q0e]at Ay Ae;simp only[Job.eats]at Ae;have Be:=hg.bt.size;have An:Hid (q1p (w.heap.size+1) (.slice A3 H c3) A D):=(J.o.o.but2 j.o (by omega)).but2 hg.bt (by omega);have Bd:Hid (Tds D A5 ns5):=hg.o.tds;have Al:Hid (A5=none->ns5.length=0/\c5=0):=hg.o.none.2;have y:Hid (D.heap[w.heap.size]?=some (.cells #[.int .i64 op,.string tx,.int .i64 (n:Int)] 81 (0,0))):=(hg.bt.block _ (by omega) (by omega)).trans ((j.o.block _ (by omega) (by omega)).trans J.o.bx);have l:Hid (But w b w D):=(J.o.bt.trans (j.o.mono Ag)).trans (hg.bt.mono (by omega));have s:Hid (Ry K ws pl b (ws.length-u5.length) D):=hg.rd
      have Bc:Hid (∀r,PR (.args e (n+1) (A++ns5)) (ws.drop (ws.length-u5.length)) r->PR (.args e 0 []) (ws.drop p) r):=fun r hr=>by
       obtain⟨W,c⟩:∃W,n=W+1:=⟨n-1,by have:=J.o.n1;omega⟩;subst c;rw[hu]at hr;exact J.o.ok _ (by rw[m.o];exact .aO Ak.o hg.pr hr)
      have Bq:q<ws.length-u5.length:=by omega
      clear hg hu M Ae;generalize Ac:ns5.length=n5 at Ay Al;have Y:Hid (ns5.length=n5):=Ac;have Ad:H+n5<=1000000:=by omega
      clear Ac a;go_wp2_with(at_builtin;refine k1w rfl _ _ rfl (w.heap.size+1) _ A rfl An.o A5 n5 ns5 Y.o c5 rfl Bd.o Al.o (H+n5) (by rw[X.o]) Ad (by omega) ?_);intro A6 c6 w6 E C;have Bt:=C.size;have B:Below (w.heap.size+1) D w6:= Zb.grown C (by omega) (fun k hk=>(World.ownsRow.lt An.o k hk).1);have P:w6.heap[w.heap.size]?=some (.cells #[.int .i64 op,.string tx,.int .i64 (n:Int)] 81 (0,0)):=(B.block _ (by omega)).trans y.o;have d6:w6.cell? ⟨w,2,none⟩=some (.int .i64 (n:Int)):=by rw[Lib.cell_of_heap P];rfl
      have f6:w6.frozen? ⟨w,2,none⟩=false:=Lib.frozen_of_heap P 2
      have Ar:Hid (y8e K ws pl b e op tx p w (ws.length-u5.length) (n+1) (A++ns5) (.slice A6 (H+n5) c6) (w6.setCell ⟨w,2,none⟩ (.int .i64 ((n:Int)+1)))):=by
       have At:(A++ns5).length=H+n5:=by rw[List.length_append,X.o,Y.o]
       have h7:=J.o.lt;refine⟨by omega,by omega,by omega,by rw[At];omega,E.kept fun g h1 h2=>Below.heap_setCell _ _ _ _ (by show g≠w.heap.size;omega),(s.o.keepB B (by omega) (by omega) (by omega)).far (by omega) (by omega) (by omega),(l.o.trans (But.of (B.mono (by omega)))).setCell (p:=⟨w,2,none⟩) (.inr Zl) _,?_,Bc.o⟩;rw[show((n+1:Nat):Int)=(n:Int)+1 by omega];exact j1u P
      have Ah:Hid ((A++ns5).length=H+n5):=(show _=_ by rw[List.length_append,X.o,Y.o]);have Bg:(n:Int)+1<=60001:=by omega
      clear E C B P y;go_wp2;refine⟨⟨_,n+1,A++ns5,A6,H+n5,c6,rfl,Ah.o,Ar.o⟩,?_⟩;rw[Ar.o.rd.len_eq,J.o.rd.len_eq];omega
    ·have R:Hid (Calls prog 147 #[.pointer (some ⟨b,0,none⟩),.string ⟨#[44]⟩] wr fun r w'=>r=.returned (.bool false)/\w'=wr):=q6x G.rd [44] (by simp) Q;by_cases V:ws[q]?=some e
     ·obtain⟨f,d⟩:=List.getElem?_eq_some_iff.1 V
      have m:Hid (ws.drop q=e::ws.drop (q+1)):=by
       show _=_;rw[List.drop_eq_getElem_cons f,d]
      have HM:Hid (Calls prog 149 #[.pointer (some ⟨b,0,none⟩),.string (wbS e)] wr fun r w'=>r=.returned (.tuple #[])/\Ry K ws pl b (q+1) w'/\But wr b wr w'):=q5l G.rd e V;clear G L Q V d;go_wp2_with fail;refine R.o.mono ?_;rintro r w4⟨rfl,rfl⟩;go_wp2_with fail;refine HM.o.mono ?_;rintro r D⟨rfl,h5,b5⟩;have Be:=b5.size;have O:D.heap[w.heap.size]?=some (.cells #[.int .i64 op,.string tx,.int .i64 (n:Int)] 81 (0,0)):=(b5.block _ (by omega) (by omega)).trans J.o.bx;have d0:D.cell? ⟨w,0,none⟩=some (.int .i64 op):=by rw[Lib.cell_of_heap O];rfl
      have d1:D.cell? ⟨w,1,none⟩=some (.string tx):=by rw[Lib.cell_of_heap O];rfl
      have d2:D.cell? ⟨w,2,none⟩=some (.int .i64 (n:Int)):=by rw[Lib.cell_of_heap O];rfl
      have Af:q1p (w.heap.size+1) (.slice A3 H c3) A D:=J.o.o.but2 b5 (by omega);have As:Hid (q1p w (.slice (some ⟨D,0,none⟩) 1 1) [⟨op,tx,(n:Int)⟩] (D.alloc (.cells #[.int .i64 op,.string tx,.int .i64 (n:Int)] 81))):=(q1p.one D ⟨op,tx,(n:Int)⟩).down (by omega);have Ap:Hid (Tds (D.alloc (.cells #[.int .i64 op,.string tx,.int .i64 (n:Int)] 81)) A3 A):=Af.tds.alloc _;have Ba:Hid (A3=none->H=0/\c3=0):=Af.none.2;have Ao:Hid ((D.alloc (.cells #[.int .i64 op,.string tx,.int .i64 (n:Int)] 81)).heap.size=D.heap.size+1):=World.size_alloc ..;have s:Hid (Ry K ws pl b (q+1) (D.alloc (.cells #[.int .i64 op,.string tx,.int .i64 (n:Int)] 81))):=h5.keep (q1c D _);have l:Hid (But w b w (D.alloc (.cells #[.int .i64 op,.string tx,.int .i64 (n:Int)] 81))):=(J.o.bt.trans (b5.mono Ag)).alloc (by omega) _;have Ad:1+H<=1000000:=by omega
      have Au:b<D.heap.size:=h5.row.lt;have Aw:=h5.gwlt;have Av:=h5.galt;clear h5 b5 O Af R HM;go_wp2_with(at_builtin;refine k1w rfl _ _ rfl w.heap.size _ [⟨op,tx,(n:Int)⟩] rfl As.o A3 H A X.o c3 rfl Ap.o Ba.o (1+H) rfl Ad (by rw[Ao.o];omega) ?_);intro A6 c6 w6 E C
      have i:∀k',(Value.slice (some ⟨D,0,none⟩) 1 1).ownBlock=some k'->D.heap.size<=k':=fun k' hk=>by
       simp only[Value.ownBlock,Option.some.injEq]at hk;omega
      have B:Below D (D.alloc (.cells #[.int .i64 op,.string tx,.int .i64 (n:Int)] 81)) w6:= Zb.grown C (by rw[Ao.o];omega) i
      have HX:Hid (j0u K ws pl b e op tx p w (.returned (.slice A6 (H+1) c6)) w6):=by
       have L:=X.o;subst L;have G:=J.o;have v:(ws.drop (q+1)).length=ws.length-(q+1):=q0e;have Bm:=G.lt;have Bo:=G.nn;refine j0u.ok (n:=n) (ns:=A) (u:=ws.drop (q+1)) ⟨G.ok _ (by rw[m.o];exact .aEnd),?_,?_,?_,l.o.trans (But.of (B.mono (by omega)))⟩
       ·rw[show A.length+1=1+A.length by omega];exact E
       ·rw[v,q0e];omega
       ·rw[v,show ws.length-(ws.length-(q+1))=q+1 by omega];exact s.o.keepB B Au Aw Av
      clear E C B i s l As Ap;rw[show 1+H=H+1 by omega];go_wp2;go_ret;exact HX.o
     ·have HM:Hid (Calls prog 149 #[.pointer (some ⟨b,0,none⟩),.string (wbS e)] wr fun r w'=>r=.panicked [q4c (pl q)]/\w'=wr):=q6g G.rd e HE.o V
      have HX:Hid (j0u K ws pl b e op tx p w (.panicked [q4c (pl q)]) wr):=by
       have v:(ws.drop q).length=ws.length-q:=q0e;obtain⟨W,c⟩:∃W,n=W+1:=⟨n-1,by have:=G.n1;omega⟩;subst c;have h9:=j0u.bad (K:=K) (pl:=pl) (b:=b) (op:=op) (tx:=tx) (w:=w) (G.ok _ (.aSep (by rw[q1r];exact V) (by rw[q1r];exact Q))) G.bt;rw[v,show ws.length-(ws.length-q)=q by omega]at h9;exact h9
      clear G L Q V;go_wp2_with fail;refine R.o.mono ?_;rintro r w4⟨rfl,rfl⟩;go_wp2_with fail;refine HM.o.mono ?_;rintro r D⟨rfl,rfl⟩;go_wp2;exact⟨rfl,HX.o⟩
end
theorem k5b:∀(w:Wd)(a:Nat),(∀b∈w,q2s b=true)->Lib.decFrom a w=some (w.foldl (fun a c=>a*10+(c.toNat-48)) a)
 | [],a,_=>rfl
 | c::r,a,h=>by
  have hc:=h c (by simp);simp only[q2s,Bool.and_eq_true,decide_eq_true_eq]at hc;have e:Lib.digitVal c=some (c.toNat-48):=by rw[Lib.digitVal,if_pos hc]
  rw[Lib.decFrom,e];exact k5b r _ fun b hb=>h b (by simp[hb])
theorem v0i{w:Wd}(h:∀b∈w,q2s b=true)(h0:w≠[]):Lib.atoi w=some ((q4m w:Nat):Int):=by
 cases w with
 | nil=>exact absurd rfl h0
 | cons c r=>
  have A:=h c (by simp);simp only[q2s,Bool.and_eq_true,decide_eq_true_eq]at A
  have B:(c==45)=false:=by
   rw[beq_eq_false_iff_ne];rintro rfl;revert A;decide
  have C:(c==43)=false:=by
   rw[beq_eq_false_iff_ne];rintro rfl;revert A;decide
  have D:Lib.decNat (c::r)=some (q4m (c::r)):=by
   rw[Lib.decNat];exact k5b (c::r) 0 h
  simp only[Lib.atoi,B,C,D];rfl
theorem k4l(w:Wd)(h:∀b∈w,q2s b=true)(h0:w≠[])(hl:w.length<=6)(W:World):Calls prog 61 #[.string (wbS w)] W fun e w'=>e=.returned (.tuple #[.int .i64 ((q4m w:Nat):Int),.nilIface])/\Below W W w':=by
 refine(atoi_sh (wbS w) ((q4m w:Nat):Int) (by rw[<-q0b];show w.length<=18;omega) (v0i h h0) W).mono ?_;rintro e w'⟨rfl,t,rfl⟩;exact⟨rfl,Lib.bytesWorld_below _ _ _⟩
section
variable {K:LwK} {ws:List Wd} {pl:Nat→Nat} {b p:Nat} {w:World}
theorem q3p.lev2{e:Ending}{w':World}(h:q3p K ws pl b .single p w e w'):q3p K ws pl b (.level 2) p w e w':=by
 cases h with
 | ok h=>exact .ok ⟨.lev2 h.pr,h.o,h.n,h.rd,h.bt⟩
 | bad pr bt=>exact .bad (.lev2 pr) bt
theorem j9o{j:Job}{q:Nat}{w':World}(hq:q<=ws.length)(pr:PR j (ws.drop p) (.bad (ws.drop q)))(bt:But w b w w'):q3p K ws pl b j p w (.panicked [q4c (pl q)]) w':=by
 have A:=q3p.bad (K:=K) (pl:=pl) pr bt;rw[q0e,show ws.length-(ws.length-q)=q by omega]at A;exact A
theorem q3w(h:p<ws.length):ws.drop p=ws[p]::ws.drop (p+1):=List.drop_eq_getElem_cons h
theorem j0o(hS:∀q,p<q->q<=ws.length->j0z K ws pl b q)(hp:p<ws.length)(hn:nmW ws[p]=true)(h:Ry K ws pl b p w):
  Calls prog 241 #[.pointer (some ⟨b,0,none⟩)] w fun e w'=>q3p K ws pl b .single p w e w':=by
 have D:Hid (Calls prog 183 #[.pointer (some ⟨b,0,none⟩)] w fun e w'=>e=.returned (.string (wbS ws[p]))/\Ry K ws pl b (p+1) w'/\But w b w w'):=q6y h hp;have P:Hid (ws.drop p=ws[p]::ws.drop (p+1)):=q3w hp;have g:b<w.heap.size:=h.row.lt;clear h;by_cases G:ws[p+1]?=some [40]
 ·obtain⟨J,I⟩:=List.getElem?_eq_some_iff.1 G
  have H:Hid (ws.drop (p+1)=[40]::ws.drop (p+2)):=by
   show _=_;rw[q3w J,I]
  have Q:Hid (∀W,Ry K ws pl b (p+2) W->But w b w W->Calls prog 242 #[.pointer (some ⟨b,0,none⟩),.agg #[.int .i64 3,.string (wbS ws[p]),.int .i64 0],.string ⟨#[41]⟩] W fun r w'=>q3p K ws pl b .single p w r w'):=fun W hW hB=>by
   refine(k1m (e:=[41]) (op:=3) (tx:=wbS ws[p]) (by simp) (by decide) (fun q C N=>hS q (by omega) N) hW).mono ?_;intro r w' X;have Y:=hB.size;cases X with
   | bad pr bt=>exact .bad (by rw[P.o,H.o];exact .sCB hn pr) (hB.trans (bt.mono Y))
   | @ok n ns u A c _ hg=>
    have i:=hg.n;rw[q0e]at i;refine q3p.ok (m:=0) (ns:=clT ws[p] n::ns) (u:=u) ⟨by rw[P.o,H.o];exact .sCO hn hg.pr,hg.o.down Y,?_,hg.rd,hB.trans (hg.bt.mono Y)⟩;rw[q0e,List.length_cons];omega
  generalize wbS ws[p]=S at D Q;go_in;go_wp2_with fail;refine D.o.mono ?_;rintro e B⟨rfl,C,E⟩;have O:Hid (But w b w B):=E;have Z:=E.size;have M:Hid (Calls prog 147 #[.pointer (some ⟨b,0,none⟩),.string ⟨#[40]⟩] B fun e w'=>e=.returned (.bool true)/\Ry K ws pl b (p+2) w'/\But B b B w'):=q6f C [40] G;clear C E D G I;go_wp2_with fail;refine M.o.mono ?_;rintro e a⟨rfl,N,d⟩;have R:Hid (Calls prog 242 #[.pointer (some ⟨b,0,none⟩),.agg #[.int .i64 3,.string S,.int .i64 0],.string ⟨#[41]⟩] a fun r w'=>q3p K ws pl b .single p w r w'):=Q.o a N (O.o.trans (d.mono Z));clear N d M Q;go_wp2_with fail;refine R.o.mono ?_;intro r f X;cases X with
  | @bad u _ pr bt=>
   have L:Hid (q3p K ws pl b .single p w (.panicked [q4c (pl (ws.length-u.length))]) f):=.bad pr bt;clear pr bt;go_wp2;exact⟨rfl,L.o⟩
  | @ok m ns u A c _ hg=>
   have L:Hid (q3p K ws pl b .single p w (.returned (.slice A ns.length c)) f):=.ok hg;clear hg;generalize ns.length=nl at L⊢;go_wp2;go_ret;exact L.o
 ·have U:Hid (∀W,Ry K ws pl b (p+1) W->But w b w W->q3p K ws pl b .single p w (.returned (.slice (some ⟨W,0,none⟩) 1 1)) (W.alloc (.cells #[.int .i64 2,.string (wbS ws[p]),.int .i64 0] 81))):=fun W hW hB=>by
   refine q3p.ok (m:=0) (ns:=[nmT ws[p]]) (u:=ws.drop (p+1)) ⟨by rw[P.o];exact .sName hn (by rw[q1r];exact G),(q1p.one W (nmT ws[p])).down hB.size,?_,?_,hB.alloc hB.size _⟩
   ·rw[q0e,q0e];simp only[List.length_cons,List.length_nil];omega
   ·rw[q0e,show ws.length-(ws.length-(p+1))=p+1 by omega];exact hW.keep (q1c W _)
  generalize wbS ws[p]=S at D U;go_in;go_wp2_with fail;refine D.o.mono ?_;rintro e B⟨rfl,C,E⟩;have V:=hid (U.o B C E);have M:Hid (Calls prog 147 #[.pointer (some ⟨b,0,none⟩),.string ⟨#[40]⟩] B fun e w'=>e=.returned (.bool false)/\w'=B):=q6x C [40] (by simp) G;clear C E D G U;go_wp2_with fail;refine M.o.mono ?_;rintro e a⟨rfl,rfl⟩;go_wp2;go_ret;exact V.o
end
end Go.Proofs.YtelcnplcpboonaaGreatDoor
