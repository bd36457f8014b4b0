import Derived.Test.YtfdppahhbpfnoaaGreatDoorPi12
import Derived.Test.YtfdppahhbpfnoaaGreatDoorPi11
import Derived.Laws.Strings2
import Derived.BigRegion
open Go.Proofs.Tryz
namespace Go.Proofs.YtfdppahhbpfnoaaGreatDoor
open Go Go.RowKit
set_option maxRecDepth 100000
set_option maxHeartbeats 1000000
def y5a(w:World)(b:Nat):Nat:=match w.cell? ⟨b,1,none⟩with
 | some (.int _ n)=>n.toNat
 | _=>0
theorem Rd.at_eq{w:World}{b:Nat}{A:Option Addr}{c:Nat}{ws:List Wd}{B:Nat}{C:Bool}(h:Rd w b A c ws B C):y5a w b=B:=by
 unfold y5a;rw[h.c1];simp
def Rs.isBad:Rs->Bool
 | .ok _ _ _=>false
 | .bad _=>true
structure Got(b:Nat)(A:Option Addr)(c:Nat)(ws:List Wd)(j:Job)(p:Nat)(w:World)(r:Rs)(ns:List Td)(v:Value)(w':World):Prop where
 pr:PR j (ws.drop p) r
 o:q0w w v ns w'
 n:ns.length+r.rest.length<=(ws.drop p).length
 e:∀m ms u,r=.ok m ms u->ms=ns
 rd:Rd w' b A c ws (ws.length-r.rest.length) r.isBad
 bt:But w b w w'
abbrev z9z(b:Nat)(A:Option Addr)(c:Nat)(ws:List Wd)(k p:Nat):Prop:=∀w:World,Rd w b A c ws p false->Calls prog 36 #[.pointer (some ⟨b,0,none⟩),.int .i64 (k:Int)] w fun e w'=>∃r ns A' c',e=.returned (.slice A' ns.length c')/\Got b A c ws (.level k) p w r ns (.slice A' ns.length c') w'
abbrev v1g(b:Nat)(A:Option Addr)(c:Nat)(ws:List Wd)(p:Nat):Prop:=∀w:World,Rd w b A c ws p false->Calls prog 74 #[.pointer (some ⟨b,0,none⟩)] w fun e w'=>∃r ns A' c',e=.returned (.slice A' ns.length c')/\Got b A c ws .single p w r ns (.slice A' ns.length c') w'
abbrev Sil(b:Nat)(A:Option Addr)(c:Nat)(ws:List Wd)(p:Nat)(w:World)(e:Ending)(w':World):Prop:=e=.returned (.slice none 0 0)/\Rd w' b A c ws p true/\But w b w w'
theorem j0r{w:World}{b:Nat}{A:Option Addr}{c:Nat}{ws:List Wd}{p:Nat}(h:Rd w b A c ws p true):Calls prog 74 #[.pointer (some ⟨b,0,none⟩)] w fun e w'=>Sil b A c ws p w e w':=by
 have C:=hid h;obtain⟨G,H,I,B,_,_⟩:=h;have D:w.frozen? ⟨b,2,none⟩=false:=B.frozen;have E:Hid (∀q,(w.drewN q).frozen? ⟨b,2,none⟩=false):=fun q=>D
 clear B;go_in;go_wp2_with fail
 go_quiet (fail)
 go_wp2;go_ret;exact⟨rfl,(C.o.keep (q0f (Below.refl _ w) _)).setBad true,(But.of (q0f (Below.refl _ w) _)).setCell (p:=⟨b,2,none⟩) (.inl rfl) _⟩
theorem q0w.nil(B:Nat)(w:World):q0w B (.slice Option.none 0 0) [] w:=⟨rfl,.inl ⟨rfl,rfl⟩⟩
theorem k9u{w:World}{b:Nat}{A:Option Addr}{c:Nat}{ws:List Wd}{p:Nat}(h:Rd w b A c ws p true):Calls prog 36 #[.pointer (some ⟨b,0,none⟩),.int .i64 2] w fun e w'=>Sil b A c ws p w e w':=by
 have B:Hid (Calls prog 74 #[.pointer (some ⟨b,0,none⟩)] w fun e w'=>Sil b A c ws p w e w'):=j0r h;clear h;go_in;go_wp2_with fail;refine B.o.mono ?_;rintro e E⟨rfl,D,C⟩;go_wp2;go_ret;exact⟨rfl,D,C⟩
theorem k9t{w:World}{b:Nat}{A:Option Addr}{c:Nat}{ws:List Wd}{p:Nat}(h:Rd w b A c ws p true):Calls prog 36 #[.pointer (some ⟨b,0,none⟩),.int .i64 1] w fun e w'=>Sil b A c ws p w e w':=by
 have G:Hid (Calls prog 36 #[.pointer (some ⟨b,0,none⟩),.int .i64 2] w fun e w'=>Sil b A c ws p w e w'):=k9u h;clear h;go_in;go_wp2_with fail;refine G.o.mono ?_;rintro e H⟨rfl,B,C⟩;have I:=B.c2;have E:=hid B;have D:=hid C;clear B C;go_wp2_with fail
 go_loopw [5] (fun x wr=>wr=H/\x=.slice none 0 0) (fun _ _=>0)
 case atStart=>exact⟨rfl,rfl⟩
 case round=>
  obtain⟨rfl,rfl⟩:=hrel;go_wp2;go_ret;exact⟨rfl,E.o,D.o⟩
theorem z6p{w:World}{b:Nat}{A:Option Addr}{c:Nat}{ws:List Wd}{p:Nat}(h:Rd w b A c ws p true):Calls prog 36 #[.pointer (some ⟨b,0,none⟩),.int .i64 0] w fun e w'=>Sil b A c ws p w e w':=by
 have G:Hid (Calls prog 36 #[.pointer (some ⟨b,0,none⟩),.int .i64 1] w fun e w'=>Sil b A c ws p w e w'):=k9t h;clear h;go_in;go_wp2_with fail;refine G.o.mono ?_;rintro e H⟨rfl,B,C⟩;have I:=B.c2;have E:=hid B;have D:=hid C;clear B C;go_wp2_with fail
 go_loopw [5] (fun x wr=>wr=H/\x=.slice none 0 0) (fun _ _=>0)
 case atStart=>exact⟨rfl,rfl⟩
 case round=>
  obtain⟨rfl,rfl⟩:=hrel;go_wp2;go_ret;exact⟨rfl,E.o,D.o⟩
set_option maxHeartbeats 16000000
theorem q0k{ws:List Wd}{p:Nat}(_h:p<=ws.length):(ws.drop p).length=ws.length-p:=List.length_drop
theorem q5f(ws:List Wd)(p:Nat):(ws.drop p).head?=ws[p]?:=List.head?_drop
theorem z4u{ws:List Wd}{p:Nat}{r:List Wd}(h:r <:+ ws.drop p):ws.drop (ws.length-r.length)=r:=by
 obtain⟨t,A⟩:=h.trans (List.drop_suffix p ws);have B:=congrArg List.length A;rw[List.length_append]at B;have e:ws.length-r.length=t.length:=by omega
 rw[e,<-A,List.drop_left]
theorem k1e{b:Nat}{A:Option Addr}{c:Nat}{ws:List Wd}{p:Nat}(hs:v1g b A c ws p):z9z b A c ws 2 p:=by
 intro w h;have H:Hid (Calls prog 74 #[.pointer (some ⟨b,0,none⟩)] w fun e w'=>∃r B D E,e=.returned (.slice D B.length E)/\Got b A c ws .single p w r B (.slice D B.length E) w'):=hs w h;clear h hs;show Calls prog 36 #[.pointer (some ⟨b,0,none⟩),.int .i64 2] w _;go_in;go_wp2_with fail;refine H.o.mono ?_;rintro e J⟨r,B,D,E,rfl,C⟩;have G:Hid (Got b A c ws (.level 2) p w r B (.slice D B.length E) J):=⟨.lev2 C.pr,C.o,C.n,C.e,C.rd,C.bt⟩;have K:Hid (∃m,B.length=m):=⟨_,rfl⟩;generalize I:B.length=m;clear C;go_wp2;go_ret;exact⟨r,B,D,E,by rw[I];rfl,G.o⟩
theorem q0w.but{B b:Nat}{v:Value}{xs:List Td}{w w':World}(h:q0w B v xs w)(hb:But w b w w')(hB:b<B):q0w B v xs w':=h.kept fun g h1 h2=>hb.block g h2 (by omega)
structure y6k(b:Nat)(A:Option Addr)(c:Nat)(ws:List Wd)(k p:Nat)(w:World)(q:Nat)(bad:Bool)(acc:List Td)(v:Value)(wr:World):Prop where
 le:q<=ws.length
 lt:p<q\/bad=true
 pq:p<=q
 n:acc.length+(ws.length-q)<=ws.length-p
 o:q0w w v acc wr
 rd:Rd wr b A c ws q bad
 bt:But w b w wr
 ok:bad=false->∀r,PR (.loop k acc) (ws.drop q) r->PR (.level k) (ws.drop p) r
 bd:bad=true->PR (.level k) (ws.drop p) (.bad (ws.drop q))
theorem v3s{b:Nat}{A:Option Addr}{c:Nat}{ws:List Wd}{k p:Nat}{w:World}{r:Rs}{ns:List Td}{v:Value}{w1:World}(hk:k<2)(hp:p<=ws.length)(h:Got b A c ws (.level (k+1)) p w r ns v w1):y6k b A c ws k p w (ws.length-r.rest.length) r.isBad ns v w1:=by
 have B:=q5i h.pr;have C:=z4u B.1
 have H:r.rest.length<=ws.length-p:=by
  have:=h.n
  rw[q0k hp]at this;omega
 have G:=h.n;rw[q0k hp]at G;cases r with
 | bad u=>
  simp only[Rs.rest,Rs.isBad]at *;exact⟨by omega,.inr rfl,by omega,by omega,h.o,h.rd,h.bt,(fun e=>by cases e),(fun _=>by rw[C];exact .levB hk h.pr)⟩
 | ok m ms u=>
  have E:=h.e m ms u rfl;subst E;have D:=B.2 m ms u rfl;rw[q0k hp]at D;simp only[Rs.rest,Rs.isBad,Job.eats]at *;exact⟨by omega,.inl (by omega),by omega,by omega,h.o,h.rd,h.bt,(fun _ r hr=>by rw[C]at hr;exact .levO hk h.pr hr),(fun e=>by cases e)⟩
theorem y0x{b:Nat}{A:Option Addr}{c:Nat}{ws:List Wd}{k p:Nat}{w:World}{q:Nat}{B:List Td}{v:Value}{wr w3 w4 w5:World}{r:Rs}{ns:List Td}{v4 v5:Value}(hV:y6k b A c ws k p w q false B v wr)(hq:q<ws.length)(hd:ws.drop q=sgn k::ws.drop (q+1))
  (G:But w b w w3) (I:w.heap.size<=w3.heap.size) (hG:Got b A c ws (.level (k+1)) (q+1) w3 r ns v4 w4) (H:b<w.heap.size) (b5:Below w w4 w5) (ho:q0w w v5 (([sgT k]++B)++ns) w5):
  y6k b A c ws k p w (ws.length-r.rest.length) r.isBad (sgT k::(B++ns)) v5 w5/\q<ws.length-r.rest.length:=by
 have J:=q5i hG.pr;have K:=z4u J.1;have P:=hG.n;rw[q0k (by omega)]at P;have M:=hV.n;have N:=hV.pq;have E:Rd w5 b A c ws (ws.length-r.rest.length) r.isBad:=hG.rd.keepB b5 H;have D:But w b w w5:=(G.trans (hG.bt.mono I)).trans (But.of b5);have L:(([sgT k]++B)++ns)=sgT k::(B++ns):=by simp
 rw[L]at ho;have C:(sgT k::(B++ns)).length=1+B.length+ns.length:=by simp;omega
 cases r with
 | bad u=>
  simp only[Rs.rest,Rs.isBad]at *;exact⟨⟨by omega,.inr rfl,by omega,by rw[C];omega,ho,E,D,(fun e=>by cases e),(fun _=>by rw[K];exact hV.ok rfl _ (by rw[hd];exact .lopB hG.pr))⟩,by omega⟩
 | ok m ms u=>
  have O:=hG.e m ms u rfl;subst O;simp only[Rs.rest,Rs.isBad]at *;exact⟨⟨by omega,.inl (by omega),by omega,by rw[C];omega,ho,E,D,(fun _ r hr=>by rw[K]at hr;exact hV.ok rfl _ (by rw[hd];exact .lopO hG.pr hr)),(fun e=>by cases e)⟩,by omega⟩
theorem z3e(k:Nat)(hk:k=0\/k=1){b:Nat}{A:Option Addr}{c:Nat}{ws:List Wd}{p:Nat}(hl:ws.length<=60000)(hp:p<=ws.length)(hL:∀q,p<=q->q<=ws.length->z9z b A c ws (k+1) q):z9z b A c ws k p:=by
 have C:Tag k:=.mk;rcases hk with rfl|rfl
 all_goals
  intro w h;have HL:Hid (∀q,p<=q->q<=ws.length->z9z b A c ws ↑(q5m C 1 2) q):=hL;have z:Hid (Calls prog 36 #[.pointer (some ⟨b,0,none⟩),.int .i64 ↑(sel C (1:Int) 2)] w fun e w'=>∃r S U V,e=.returned (.slice U S.length V)/\Got b A c ws (.level ↑(q5m C 1 2)) p w r S (.slice U S.length V) w'):=hL p Zl hp w h;have j:b<w.heap.size:=h.row.lt;clear h hL;show Calls prog 36 #[.pointer (some ⟨b,0,none⟩),.int .i64 ↑(sel C (0:Int) 1)] w _;go_in;go_wp2_with fail;refine z.o.mono ?_;rintro e w1⟨r,S,U,V,rfl,hG⟩;have Ar:=hid (v3s (k:=↑(q5m C 0 1)) (by omega) hp hG);generalize hm:S.length=m;have HM:Hid (S.length=m):=hm;clear hG hm z;go_wp2_with fail
  go_loopw [5] (fun x wr=>∃(q:Nat)(i:Bool)(B:List Td)(U:Option Addr)(V:Nat),x=.slice U B.length V/\y6k b A c ws ↑(q5m C 0 1) p w q i B (.slice U B.length V) wr) (fun _ wr=>ws.length-y5a wr b)
  case atStart=>exact⟨_,_,S,U,V,by rw[HM.o],Ar.o⟩
  case round=>
   obtain⟨q,i,B,u,c1,rfl,D⟩:=hrel;have X:=hid D;have d1:=D.rd.c1;have d2:=D.rd.c2;have Y:=D.le;have hn:=D.n;have Az:wr.frozen? ⟨b,1,none⟩=false:=D.rd.row.frozen;have Aw:b<wr.heap.size:=D.rd.row.lt;have Ao:=D.bt.size;generalize Ai:B.length=al at hn;have H:Hid (B.length=al):=Ai;clear D Ai;cases i with
   | true=>
    go_wp2;go_ret;have D:=X.o;have P:(ws.drop q).length=ws.length-q:=q0k Y;refine⟨.bad (ws.drop q),B,u,c1,by rw[H.o];rfl,D.bd rfl,D.o,?_,(fun _ _ _ e=>by cases e),?_,D.bt⟩
    ·have Ay:=D.pq;have h1:=D.n;rw[q0k hp];simp only[Rs.rest,P];omega
    ·have h1:=D.rd;have e1:ws.length-(Rs.bad (ws.drop q)).rest.length=q:=by simp only[Rs.rest,P];omega
     rw[e1];exact h1
   | false=>
    have O:Hid (∀W:World,Below wr wr W->Calls prog 34 #[.pointer (some ⟨b,0,none⟩),.string ((⟨#[43,42]⟩:ByteArray).extract ↑(q5m C 0 1) ↑(q5m C 1 2))] W fun e w'=>e=.returned (.bool (!false&&(ws[q]?==some [↑(sel C (43:UInt8) 42)])))/\∃G,w'=W.drewN G):=fun W hb=>by
     have e0:(⟨#[43,42]⟩:ByteArray).extract ↑(q5m C 0 1) ↑(q5m C 1 2)=wbS [↑(sel C (43:UInt8) 42)]:=rfl;rw[e0];exact z2f (X.o.rd.keep hb) [↑(sel C (43:UInt8) 42)]
    cases J:(!false&&(ws[q]?==some ([↑(sel C (43:UInt8) 42)]:Wd)))with
    | false=>
     rw[J]at O
     have Ak:(ws.drop q).head?≠some (sgn ↑(q5m C 0 1)):=by
      rw[q5f];intro e;rw[e]at J;exact absurd J (by decide)
     have At:=hid Ak;clear J Ak;go_wp2_with fail;refine(O.o _ Zb).mono ?_;rintro e w2⟨rfl,G,rfl⟩;go_wp2;go_ret;have D:=X.o;have P:(ws.drop q).length=ws.length-q:=q0k Y;have e1:ws.length-(Rs.ok 0 B (ws.drop q)).rest.length=q:=by simp only[Rs.rest,P];omega
     refine⟨.ok 0 B (ws.drop q),B,u,c1,by rw[H.o];rfl,D.ok rfl _ (.lopE At.o),D.o,?_,(fun _ _ _ e=>by cases e;rfl),?_,D.bt.trans (But.of (q0f (Below.refl _ wr) G))⟩
     ·have Ay:=D.pq;have h1:=D.n;rw[q0k hp];simp only[Rs.rest,P];omega
     ·rw[e1];exact D.rd.keep (q0f (Below.refl _ wr) G)
    | true=>
     rw[J]at O;have Am:ws[q]?=some ([↑(sel C (43:UInt8) 42)]:Wd):=by simpa using J
     obtain⟨Z,An⟩:=List.getElem?_eq_some_iff.1 Am
     have Ap:Hid (ws.drop q=sgn ↑(q5m C 0 1)::ws.drop (q+1)):=by
      show _=_;rw[List.drop_eq_getElem_cons Z,An];rfl
     clear J Am An;go_wp2_with fail;refine(O.o _ Zb).mono ?_;rintro e w2⟨rfl,G,rfl⟩
     have Ae:Hid (Rd ((wr.drewN G).setCell ⟨b,1,none⟩ (.int .i64 ((q:Int)+1))) b A c ws (q+1) false):=by
      have h2:=(X.o.rd.keep (q0f (Below.refl _ wr) G)).setAt (q+1);rw[show((q+1:Nat):Int)=(q:Int)+1 by omega]at h2;exact h2
     have d:Hid (But wr b wr ((wr.drewN G).setCell ⟨b,1,none⟩ (.int .i64 ((q:Int)+1)))):=(But.of (q0f (Below.refl _ wr) G)).setCell (p:=⟨b,1,none⟩) (.inl rfl) _;have D:=X.o
     have Ah:Hid (q0w w (.slice (some ⟨wr,0,none⟩) 1 1) [sgT ↑(q5m C 0 1)] (((wr.drewN G).setCell ⟨b,1,none⟩ (.int .i64 ((q:Int)+1))).alloc (.cells #[.int .i64 ↑(sel C (5:Int) 6),.string ⟨#[]⟩,.int .i64 0] 47))):=by
      have h2:=q0w.one ((wr.drewN G).setCell ⟨b,1,none⟩ (.int .i64 ((q:Int)+1))) (sgT ↑(q5m C 0 1));have e2:((wr.drewN G).setCell ⟨b,1,none⟩ (.int .i64 ((q:Int)+1))).heap.size=wr.heap.size:=World.size_setCell ..;rw[e2]at h2;exact h2.down Ao
     have Ag:Hid (Tds (((wr.drewN G).setCell ⟨b,1,none⟩ (.int .i64 ((q:Int)+1))).alloc (.cells #[.int .i64 ↑(sel C (5:Int) 6),.string ⟨#[]⟩,.int .i64 0] 47)) u B):=((D.o.but d.o j).tds).alloc _
     have Ab:Hid (u=none->al=0/\c1=0):=by
      have h3:=D.o.none;rw[H.o]at h3;exact h3.2
     have Af:Hid (∀W,Below (wr.heap.size) ((wr.drewN G).setCell ⟨b,1,none⟩ (.int .i64 ((q:Int)+1))) W->Rd W b A c ws (q+1) false):=fun W hW=>Ae.o.keepB hW Aw
     have v:Hid (Below wr ((wr.drewN G).setCell ⟨b,1,none⟩ (.int .i64 ((q:Int)+1))) (((wr.drewN G).setCell ⟨b,1,none⟩ (.int .i64 ((q:Int)+1))).alloc (.cells #[.int .i64 ↑(sel C (5:Int) 6),.string ⟨#[]⟩,.int .i64 0] 47))):= Zb.alloc (by rw[World.size_setCell];exact Nat.le_refl _) _
     have a:(((wr.drewN G).setCell ⟨b,1,none⟩ (.int .i64 ((q:Int)+1))).alloc (.cells #[.int .i64 ↑(sel C (5:Int) 6),.string ⟨#[]⟩,.int .i64 0] 47)).heap.size=wr.heap.size+1:=by
      rw[World.size_alloc,World.size_setCell];rfl
     have M:=(show Hid (_=_)from a);clear D a;go_wp2_with(at_builtin;refine q4k rfl _ _ rfl w.heap.size _ [sgT ↑(q5m C 0 1)] rfl Ah.o u al B H.o c1 rfl Ag.o Ab.o (1+al) rfl (by omega) (by rw[M.o];omega) ?_);intro A3 c3 t Q E;have Ac:Hid (q0w w (.slice A3 (1+al) c3) ([sgT ↑(q5m C 0 1)]++B) t):=Q
     have K:∀k',(Value.slice (some ⟨wr,0,none⟩) 1 1).ownBlock=some k'->wr.heap.size<=k':=fun k' hk=>by
      simp only[Value.ownBlock,Option.some.injEq]at hk;omega
     have y:Hid (But wr b wr t):=(d.o.alloc (by rw[World.size_setCell];exact Nat.le_refl _) _).grown E (by rw[M.o];omega) K;have Au:Hid (Rd t b A c ws (q+1) false):=Af.o t (v.o.grown E (by rw[M.o];omega) K);have A0:=y.o.size;have Aa:Hid (Calls prog 36 #[.pointer (some ⟨b,0,none⟩),.int .i64 ↑(sel C (1:Int) 2)] t fun e w'=>∃r S U V,e=.returned (.slice U S.length V)/\Got b A c ws (.level ↑(q5m C 1 2)) (q+1) t r S (.slice U S.length V) w'):=HL.o (q+1) (by have:=X.o.pq;omega) (by omega) t Au.o;clear Q E K Ah Ag Ab Ae Af v M d O;go_wp2_with fail;refine Aa.o.mono ?_;rintro e w4⟨r4,L,A4,c4,rfl,I⟩;have Aq:=hid I;have l:=I.n;rw[q0k (by omega)]at l;have Av:Hid (Tds w4 A4 L):=I.o.tds;have A2:=I.bt.size;have Ad:Hid (q0w w (.slice A3 (1+al) c3) ([sgT ↑(q5m C 0 1)]++B) w4):=Ac.o.but I.bt j;generalize s:L.length=n4 at l;have f:Hid (L.length=n4):=s
     have As:Hid (A4=none->n4=0/\c4=0):=by
      have h3:=I.o.none;rw[s]at h3;exact h3.2
     have Ax:1+al+n4<=1000000:=by omega
     clear I s l Aa Ac;go_wp2_with(at_builtin;refine q4k rfl _ _ rfl w.heap.size _ ([sgT ↑(q5m C 0 1)]++B) rfl Ad.o A4 n4 L f.o c4 rfl Av.o As.o (1+al+n4) (by rw[List.length_append,H.o];rfl) Ax (by omega) ?_);intro A5 c5 w5 R N;have Aj:Below w w4 w5:= Zb.grown N (by omega) (fun k' hk=>(World.ownsRow.lt Ad.o k' hk).1);have Al:=y0x X.o Z Ap.o (X.o.bt.trans (y.o.mono Ao)) (by omega) Aq.o j Aj R;have g:=hid Al;clear R N Aj Al;go_wp2;refine⟨⟨ws.length-r4.rest.length,r4.isBad,sgT ↑(q5m C 0 1)::(B++L),A5,c5,?_,?_⟩,?_⟩
     ·have e5:(sgT ↑(q5m C 0 1)::(B++L)).length=1+al+n4:=by rw[List.length_cons,List.length_append,H.o,f.o];omega
      rw[e5]
     ·have e5:(sgT ↑(q5m C 0 1)::(B++L)).length=1+al+n4:=by rw[List.length_cons,List.length_append,H.o,f.o];omega
      rw[e5];exact g.o.1
     ·rw[g.o.1.rd.at_eq,X.o.rd.at_eq]
      have:=g.o.2
      omega
def y6r(w:World)(b:Nat):Nat:=match w.cell? ⟨b,2,none⟩with
 | some (.bool true)=>0
 | _=>1
theorem Rd.nb_eq{w:World}{b:Nat}{A:Option Addr}{c:Nat}{ws:List Wd}{C:Nat}{B:Bool}(h:Rd w b A c ws C B):y6r w b=if B then 0 else 1:=by
 unfold y6r;rw[h.c2];cases B<;>rfl
structure y6i(b:Nat)(A:Option Addr)(c:Nat)(ws:List Wd)(e:Wd)(p:Nat)(w:World)(r:Rs)(n:Nat)(ns:List Td)(v:Value)(w':World):Prop where
 pr:PR (.args e 0 []) (ws.drop p) r
 o:q0w w v ns w'
 nl:ns.length+r.rest.length<=(ws.drop p).length
 ev:∀m ms u,r=.ok m ms u->ms=ns/\m=n
 rd:Rd w' b A c ws (ws.length-r.rest.length) r.isBad
 bt:But w b w w'
 le:n<=60000
abbrev y6j(b:Nat)(A:Option Addr)(c:Nat)(ws:List Wd)(e:Wd)(p:Nat):Prop:=∀w:World,Rd w b A c ws p false->Calls prog 116 #[.pointer (some ⟨b,0,none⟩),.string (wbS e)] w fun ev w'=>∃r n ns A' c',ev=.returned (.tuple #[.int .i64 ((n:Nat):Int),.slice A' ns.length c'])/\y6i b A c ws e p w r n ns (.slice A' ns.length c') w'
structure y3c(b:Nat)(A:Option Addr)(c:Nat)(ws:List Wd)(e:Wd)(p:Nat)(w:World)(q:Nat)(bad:Bool)(n:Nat)(acc:List Td)(v:Value)(wr:World):Prop where
 le:q<=ws.length
 pq:p<=q
 cn:bad=false->n<=q-p
 nl:acc.length+(ws.length-q)<=ws.length-p
 o:q0w w v acc wr
 rd:Rd wr b A c ws q bad
 bt:But w b w wr
 ok:bad=false->∀r,PR (.args e n acc) (ws.drop q) r->PR (.args e 0 []) (ws.drop p) r
 bd:bad=true->PR (.args e 0 []) (ws.drop p) (.bad (ws.drop q))
theorem j6d{b:Nat}{A:Option Addr}{c:Nat}{ws:List Wd}{e:Wd}{p:Nat}{w:World}{q q':Nat}{n:Nat}{B:List Td}{v:Value}{wr w3 w4 w5:World}{r:Rs}{ns:List Td}{v4 v5:Value}(hV:y3c b A c ws e p w q false n B v wr)(hq:q'<=ws.length)(R:q<=q')
  (hB:∀u,PR (.level 0) (ws.drop q') (.bad u)->PR (.args e n B) (ws.drop q) (.bad u)) (hO:∀m ms u r,PR (.level 0) (ws.drop q') (.ok m ms u)->PR (.args e (n+1) (B++ms)) u r->PR (.args e n B) (ws.drop q) r)
  (H:But w b w w3) (J:w.heap.size<=w3.heap.size) (hG:Got b A c ws (.level 0) q' w3 r ns v4 w4) (I:b<w.heap.size) (b5:Below w w4 w5) (ho:q0w w v5 (B++ns) w5):
  y3c b A c ws e p w (ws.length-r.rest.length) r.isBad (n+1) (B++ns) v5 w5/\2*(ws.length-(ws.length-r.rest.length))+(if r.isBad then 0 else 1)<2*(ws.length-q)+1:=by
 have G:=q5i hG.pr;have K:=z4u G.1;have Q:=hG.n;rw[q0k hq]at Q;have N:=hV.nl;have O:=hV.pq;have M:=hV.cn rfl;have E:Rd w5 b A c ws (ws.length-r.rest.length) r.isBad:=hG.rd.keepB b5 I;have D:But w b w w5:=(H.trans (hG.bt.mono J)).trans (But.of b5);have C:(B++ns).length=B.length+ns.length:=List.length_append;cases r with
 | bad u=>
  simp only[Rs.rest,Rs.isBad]at *;exact⟨⟨by omega,by omega,(fun e=>by cases e),by rw[C];omega,ho,E,D,(fun e=>by cases e),(fun _=>by rw[K];exact hV.ok rfl _ (hB _ hG.pr))⟩,by simp only[if_true];omega⟩
 | ok m ms u=>
  have P:=hG.e m ms u rfl;subst P;have L:=G.2 m ms u rfl;rw[q0k hq]at L;simp only[Rs.rest,Rs.isBad,Job.eats]at *;exact⟨⟨by omega,by omega,(fun _=>by omega),by rw[C];omega,ho,E,D,(fun _ r hr=>by rw[K]at hr;exact hV.ok rfl _ (hO _ _ _ _ hG.pr hr)),(fun e=>by cases e)⟩,by simp only[Bool.false_eq_true,if_false];omega⟩
theorem k1l{b:Nat}{A:Option Addr}{c:Nat}{ws:List Wd}{e:Wd}{p:Nat}(he:e≠[44])(hl:ws.length<=60000)(hp:p<=ws.length)(hL:∀q,p<=q->q<=ws.length->z9z b A c ws 0 q):y6j b A c ws e p:=by
 intro w h;have HL:Hid (∀q,p<=q->q<=ws.length->z9z b A c ws 0 q):=hL;have HE:Hid (e≠[44]):=he;have M:b<w.heap.size:=h.row.lt;have Av:Hid (y3c b A c ws e p w p false 0 [] (.slice none 0 0) w):=⟨hp,Nat.le_refl _,fun _=>Nat.zero_le _,by simp,q0w.nil _ _,h,But.refl _ _ _,fun _ r hr=>hr,fun e=>by cases e⟩;clear h hL he;generalize hS:wbS e=S;have HS:Hid (wbS e=S):=hS;clear hS;go_in;go_wp2_with fail
 go_loopw [6,7] (fun x n wr=>∃(q:Nat)(Ab:Bool)(n':Nat)(C:List Td)(A':Option Addr)(c':Nat),x=.slice A' C.length c'/\n=.int .i64 (n':Int)/\n'<=60001/\y3c b A c ws e p w q Ab n' C (.slice A' C.length c') wr) (fun _ _ wr=>2*(ws.length-y5a wr b)+y6r wr b)
 case atStart=>exact⟨p,false,0,[],none,0,rfl,rfl,by omega,Av.o⟩
 case round=>
  obtain⟨q,Ab,n,C,A1,c1,rfl,rfl,A0,L⟩:=hrel;have K:=hid L;have d1:=L.rd.c1;have d2:=L.rd.c2;have X:=L.le;have Ap:=L.pq;have hn:=L.nl;have Ai:Ab=false->n<=60000:=fun e=>by have:=L.cn e;omega
  have A3:wr.frozen? ⟨b,1,none⟩=false:=L.rd.row.frozen;have A2:b<wr.heap.size:=L.rd.row.lt;have Ad:=L.bt.size;generalize Al:C.length=al at hn;have J:Hid (C.length=al):=Al;clear L Al;cases Ab with
  | true=>
   clear Ai;go_wp2;refine bodyPost_ret (v:=.tuple #[.int .i64 0,.slice none 0 0]) (by simp[results,Tryz.results116,go_sem]) rfl ?_;have L:=K.o;have j:(ws.drop q).length=ws.length-q:=q0k X;have e1:ws.length-(Rs.bad (ws.drop q)).rest.length=q:=by simp only[Rs.rest,j];omega
   refine⟨.bad (ws.drop q),0,[],none,0,rfl,L.bd rfl,q0w.nil _ _,?_,(fun _ _ _ e=>by cases e),?_,L.bt,by omega⟩
   ·rw[q0k hp];simp only[Rs.rest,j,List.length_nil];omega
   ·rw[e1];exact L.rd
  | false=>
   have Ax:=Ai rfl;clear Ai
   have Y:Hid (Calls prog 34 #[.pointer (some ⟨b,0,none⟩),.string S] wr fun z w'=>z=.returned (.bool (!false&&(ws[q]?==some e)))/\∃q',w'=wr.drewN q'):=by
    have:=z2f K.o.rd e
    rw[HS.o]at this;exact this
   cases U:(!false&&(ws[q]?==some e))with
   | true=>
    rw[U]at Y;have l:ws[q]?=some e:=by simpa using U
    obtain⟨t,s⟩:=List.getElem?_eq_some_iff.1 l
    have Aa:Hid (ws.drop q=e::ws.drop (q+1)):=by
     show _=_;rw[List.drop_eq_getElem_cons t,s]
    clear U l s;go_wp2_with fail;refine Y.o.mono ?_;rintro z w2⟨rfl,q',rfl⟩;go_wp2;refine bodyPost_ret (v:=.tuple #[.int .i64 (n:Int),.slice A1 al c1]) (by simp[results,Tryz.results116,go_sem]) rfl ?_;have L:=K.o;have j:(ws.drop (q+1)).length=ws.length-(q+1):=q0k (by omega);have e1:ws.length-(Rs.ok n C (ws.drop (q+1))).rest.length=q+1:=by simp only[Rs.rest,j];omega
    have Ay:Rd ((wr.drewN q').setCell ⟨b,1,none⟩ (.int .i64 ((q:Int)+1))) b A c ws (q+1) false:=by
     have h2:=(L.rd.keep (q0f (Below.refl _ wr) q')).setAt (q+1);rw[show((q+1:Nat):Int)=(q:Int)+1 by omega]at h2;exact h2
    have Am:But wr b wr ((wr.drewN q').setCell ⟨b,1,none⟩ (.int .i64 ((q:Int)+1))):=(But.of (q0f (Below.refl _ wr) q')).setCell (p:=⟨b,1,none⟩) (.inl rfl) _;refine⟨.ok n C (ws.drop (q+1)),n,C,A1,c1,by rw[J.o],L.ok rfl _ (by rw[Aa.o];exact .aEnd),L.o.but Am M,?_,(fun _ _ _ e=>by cases e;exact⟨rfl,rfl⟩),?_,L.bt.trans (Am.mono Ad),Ax⟩
    ·have Z:=L.nl;rw[q0k hp];simp only[Rs.rest,j];omega
    ·rw[e1];exact Ay
   | false=>
    rw[U]at Y
    have Ao:(ws.drop q).head?≠some e:=by
     rw[q5f];intro e0;rw[e0]at U;simp at U
    have Ag:=hid Ao;clear U Ao;by_cases Aw:n=0
    ·subst Aw;go_wp2_with fail;refine Y.o.mono ?_;rintro z w2⟨rfl,q',rfl⟩;have O:Hid (Calls prog 36 #[.pointer (some ⟨b,0,none⟩),.int .i64 0] (wr.drewN q') fun e w'=>∃r ns A' c',e=.returned (.slice A' ns.length c')/\Got b A c ws (.level 0) q (wr.drewN q') r ns (.slice A' ns.length c') w'):=HL.o q Ap X _ (K.o.rd.keep (q0f (Below.refl _ wr) q'));have I:Hid (But wr b wr (wr.drewN q')):=But.of (q0f (Below.refl _ wr) q');generalize wr.drewN q'=w2 at O I⊢;have Aq:=I.o.size;go_wp2_with fail;refine O.o.mono ?_;rintro z y⟨r4,H,A4,c4,rfl,E⟩;have Ae:=hid E;have V:=E.n;rw[q0k (by omega)]at V;have Ah:Hid (Tds y A4 H):=E.o.tds;have Ar:=E.bt.size
     have P:Hid (q0w w (.slice A1 al c1) C y):=by
      have Z:=K.o.o;rw[J.o]at Z;exact(Z.but I.o M).but E.bt M
     generalize W:H.length=n4 at V;have d:Hid (H.length=n4):=W
     have Af:Hid (A4=none->n4=0/\c4=0):=by
      have h3:=E.o.none;rw[W]at h3;exact h3.2
     have Aj:al+n4<=1000000:=by omega
     clear E W V O;go_wp2_with(at_builtin;refine q4k rfl _ _ rfl w.heap.size _ C rfl P.o A4 n4 H d.o c4 rfl Ah.o Af.o (al+n4) (by rw[J.o]) Aj (by omega) ?_);intro A5 c5 w5 D B;have N:Below w y w5:= Zb.grown B (by omega) (fun k' hk=>(World.ownsRow.lt P.o k' hk).1);have k:=j6d (q':=q) K.o (by omega) (by omega) (fun u hu=>.aB0 Ag.o hu) (fun m ms u r Z h2=>.aO0 Ag.o Z h2) (K.o.bt.trans (I.o.mono Ad)) (by omega) Ae.o M N D;have G:=hid k;have e5:(C++H).length=al+n4:=by rw[List.length_append,J.o,d.o]
     have a:=(show Hid (_=_)from e5);clear D B N k e5;go_wp2;refine⟨⟨ws.length-r4.rest.length,r4.isBad,1,C++H,A5,c5,by rw[a.o],rfl,by omega,?_⟩,?_⟩
     ·rw[a.o];exact G.o.1
     ·rw[G.o.1.rd.at_eq,K.o.rd.at_eq,G.o.1.rd.nb_eq,K.o.rd.nb_eq];simpa using G.o.2
    ·obtain⟨n,rfl⟩:∃n',n=n'+1:=⟨n-1,by omega⟩;have Az:(0:Int)<((n+1:Nat):Int):=by omega
     have Q:Hid (∀q',Calls prog 35 #[.pointer (some ⟨b,0,none⟩),.string ⟨#[44]⟩] (wr.drewN q') fun e w'=>(∃v,e=.returned v)/\Rd w' b A c ws (q1n ws q false [44]) (q0u ws q false [44])/\But (wr.drewN q').heap.size b (wr.drewN q') w'):=fun q'=>q8e (K.o.rd.keep (q0f (Below.refl _ wr) q')) hl X [44]
     cases R:(!false&&(ws[q]?==some ([44]:Wd)))with
     | true=>
      have l:ws[q]?=some ([44]:Wd):=by simpa using R
      obtain⟨t,s⟩:=List.getElem?_eq_some_iff.1 l
      have Aa:Hid (ws.drop q=[44]::ws.drop (q+1)):=by
       show _=_;rw[List.drop_eq_getElem_cons t,s]
      unfold q1n q0u at Q;rw[R]at Q;simp only[if_true,Bool.not_true]at Q;clear R l s;go_wp2_with fail;refine Y.o.mono ?_;rintro z w1⟨rfl,q',rfl⟩;go_wp2_with fail;refine(Q.o q').mono ?_;rintro z w2⟨⟨vv,rfl⟩,f,g⟩;have O:Hid (Calls prog 36 #[.pointer (some ⟨b,0,none⟩),.int .i64 0] w2 fun e w'=>∃r ns A' c',e=.returned (.slice A' ns.length c')/\Got b A c ws (.level 0) (q+1) w2 r ns (.slice A' ns.length c') w'):=HL.o (q+1) (by omega) (by omega) _ f;have I:Hid (But wr b wr w2):=(But.of (q0f (Below.refl _ wr) q')).trans g;have Aq:=I.o.size;clear f g;go_wp2_with fail;refine O.o.mono ?_;rintro z y⟨r4,H,A4,c4,rfl,E⟩;have Ae:=hid E;have V:=E.n;rw[q0k (by omega)]at V;have Ah:Hid (Tds y A4 H):=E.o.tds;have Ar:=E.bt.size
      have P:Hid (q0w w (.slice A1 al c1) C y):=by
       have Z:=K.o.o;rw[J.o]at Z;exact(Z.but I.o M).but E.bt M
      generalize W:H.length=n4 at V;have d:Hid (H.length=n4):=W
      have Af:Hid (A4=none->n4=0/\c4=0):=by
       have h3:=E.o.none;rw[W]at h3;exact h3.2
      have Aj:al+n4<=1000000:=by omega
      clear E W V O;go_wp2_with(at_builtin;refine q4k rfl _ _ rfl w.heap.size _ C rfl P.o A4 n4 H d.o c4 rfl Ah.o Af.o (al+n4) (by rw[J.o]) Aj (by omega) ?_);intro A5 c5 w5 D B;have N:Below w y w5:= Zb.grown B (by omega) (fun k' hk=>(World.ownsRow.lt P.o k' hk).1);have k:=j6d (q':=q+1) K.o (by omega) (by omega) (fun u hu=>by rw[Aa.o];exact .aB HE.o hu) (fun m ms u r Z h2=>by rw[Aa.o];exact .aO HE.o Z h2) (K.o.bt.trans (I.o.mono Ad)) (by omega) Ae.o M N D;have G:=hid k;have e5:(C++H).length=al+n4:=by rw[List.length_append,J.o,d.o]
      have a:=(show Hid (_=_)from e5);clear D B N k e5;go_wp2;refine⟨⟨ws.length-r4.rest.length,r4.isBad,n+1+1,C++H,A5,c5,by rw[a.o],by go_num,by omega,?_⟩,?_⟩
      ·rw[a.o];exact G.o.1
      ·rw[G.o.1.rd.at_eq,K.o.rd.at_eq,G.o.1.rd.nb_eq,K.o.rd.nb_eq];simpa using G.o.2
     | false=>
      have An:(ws.drop q).head?≠some [44]:=by
       rw[q5f];intro e0;rw[e0]at R;exact absurd R (by decide)
      have At:=hid An;unfold q1n q0u at Q;rw[R]at Q;simp only[Bool.false_eq_true,if_false,Bool.not_false]at Q;clear R An;go_wp2_with fail;refine Y.o.mono ?_;rintro z w1⟨rfl,q',rfl⟩;go_wp2_with fail;refine(Q.o q').mono ?_;rintro z w2⟨⟨vv,rfl⟩,f,g⟩;have O:Hid (Calls prog 36 #[.pointer (some ⟨b,0,none⟩),.int .i64 0] w2 fun e w'=>Sil b A c ws q w2 e w'):=z6p f;have I:Hid (But wr b wr w2):=(But.of (q0f (Below.refl _ wr) q')).trans g;have Aq:=I.o.size;clear f g;go_wp2_with fail;refine O.o.mono ?_;rintro z y⟨rfl,Ak,Ac⟩
      have P:Hid (q0w w (.slice A1 al c1) C y):=by
       have Z:=K.o.o;rw[J.o]at Z;exact(Z.but I.o M).but Ac M
      have Au:=hid Ak;have As:Hid (But w b w y):=(K.o.bt.trans (I.o.mono Ad)).trans (Ac.mono (by omega));have Ar:=Ac.size;clear Ak Ac;go_wp2_with(at_builtin;refine q4k rfl _ _ rfl w.heap.size _ C rfl P.o none 0 [] rfl 0 rfl (fun i hi=>by simp at hi) (fun _=>⟨rfl,rfl⟩) al (by rw[J.o];rfl) (by omega) (by omega) ?_);intro A5 c5 w5 D B;have N:Below w y w5:= Zb.grown B (by omega) (fun k' hk=>(World.ownsRow.lt P.o k' hk).1);have G:Hid (y3c b A c ws e p w q true (n+1+1) C (.slice A5 al c5) w5):=⟨X,Ap,(fun e=>by cases e),K.o.nl,D,Au.o.keepB N M,As.o.trans (But.of N),(fun e=>by cases e),fun _=>K.o.ok rfl _ (.aSep Ag.o At.o)⟩;clear D B N;go_wp2;refine⟨⟨q,true,n+1+1,C,A5,c5,by rw[J.o],by go_num,by omega,?_⟩,?_⟩
      ·rw[J.o];exact G.o
      ·rw[G.o.rd.at_eq,K.o.rd.at_eq,G.o.rd.nb_eq,K.o.rd.nb_eq];simp
theorem v3l(bp be bf s o n cap i j:Nat)(x2:Int)(f2:Bool)(w:World)(hn:n<=400)(hi:(i:Int)<n)(A:(i:Int)+1<n)(hj:(j:Int)<n)(B:i+1<j)(h1:bp≠be)(h2:bp≠bf)(h3:be≠bf)(h4:s≠be)(h5:s≠bf)
  (c0:w.cell? ⟨bp,0,none⟩=some (.slice (some ⟨s,o,none⟩) n cap)) (c1:w.cell? ⟨bp,1,none⟩=some (.slice (some ⟨be,0,none⟩) n n)) (c2:w.cell? ⟨bp,2,none⟩=some (.slice (some ⟨bf,0,none⟩) n n))
  (d1:w.cell? ⟨s,o+i*3,none⟩=some (.int .i64 6))
  (e1:w.cell? ⟨be,i+1,none⟩=some (.int .i64 (j:Int)))
  (e2:w.cell? ⟨be,j,none⟩=some (.int .i64 x2))
  (e3:w.cell? ⟨bf,i+1,none⟩=some (.bool true))
  (e4:w.cell? ⟨bf,j,none⟩=some (.bool f2))
  (y1 y2:Value) (e5:w.cell? ⟨be,i,none⟩=some y1) (e6:w.cell? ⟨bf,i,none⟩=some y2) (z1:w.frozen? ⟨be,i,none⟩=false) (z2:w.frozen? ⟨bf,i,none⟩=false):
  Calls prog 90 #[.pointer (some ⟨bp,0,none⟩),.int .i64 i] w fun e w'=>e=.returned (.tuple #[])/\z2t be bf i (.int .i64 x2) (.bool f2) w w':=by
 have H:=j1h hn hi;have D:(0:Int)<=(i:Int)+1:=by omega
 have C:(0:Int)<=(i:Int):=by omega
 have G:((i:Int)+1).toNat=i+1:=by omega
 have E:(0:Int)<=(j:Int):=by omega
 go_in;go_wp2_with fail
 go_region_held3 (fun w'=>w'.cell? ⟨bp,0,none⟩=some (.slice (some ⟨s,o,none⟩) n cap)/\w'.cell? ⟨bp,1,none⟩=some (.slice (some ⟨be,0,none⟩) n n)/\w'.cell? ⟨bp,2,none⟩=some (.slice (some ⟨bf,0,none⟩) n n)/\w'.cell? ⟨s,o+i*3,none⟩=some (.int .i64 6)/\w'.cell? ⟨be,i+1,none⟩=some (.int .i64 (j:Int))/\w'.cell? ⟨be,j,none⟩=some (.int .i64 x2)/\w'.cell? ⟨bf,i+1,none⟩=some (.bool true)/\w'.cell? ⟨bf,j,none⟩=some (.bool f2))
  (first|exact⟨c0,c1,c2,d1,e1,e2,e3,e4⟩|exact⟨(cso (by omega)).trans c0,(cso (by omega)).trans c1,(cso (by omega)).trans c2,(cso (by omega)).trans d1,(cso (by omega)).trans e1,(cso (by omega)).trans e2,(cso (by omega)).trans e3,(cso (by omega)).trans e4⟩|exact⟨(cso (by omega)).trans ((cso (by omega)).trans c0),(cso (by omega)).trans ((cso (by omega)).trans c1),(cso (by omega)).trans ((cso (by omega)).trans c2),(cso (by omega)).trans ((cso (by omega)).trans d1),(cso (by omega)).trans ((cso (by omega)).trans e1),(cso (by omega)).trans ((cso (by omega)).trans e2),(cso (by omega)).trans ((cso (by omega)).trans e3),(cso (by omega)).trans ((cso (by omega)).trans e4)⟩) (fail)
 all_goals
  go_wp2
  go_end0
  exact⟨rfl,rfl,rfl,rfl,rfl⟩
theorem v3k(bp be bf s o n cap i j:Nat)(x2:Int)(f2:Bool)(w:World)(hn:n<=400)(hi:(i:Int)<n)(A:(i:Int)+1<n)(hj:(j:Int)<n)(_hij:i+1<j)(h1:bp≠be)(h2:bp≠bf)(h3:be≠bf)(h4:s≠be)(h5:s≠bf)
  (c0:w.cell? ⟨bp,0,none⟩=some (.slice (some ⟨s,o,none⟩) n cap)) (c1:w.cell? ⟨bp,1,none⟩=some (.slice (some ⟨be,0,none⟩) n n)) (c2:w.cell? ⟨bp,2,none⟩=some (.slice (some ⟨bf,0,none⟩) n n))
  (d1:w.cell? ⟨s,o+i*3,none⟩=some (.int .i64 6))
  (e1:w.cell? ⟨be,i+1,none⟩=some (.int .i64 (j:Int)))
  (e2:w.cell? ⟨be,j,none⟩=some (.int .i64 x2))
  (e3:w.cell? ⟨bf,i+1,none⟩=some (.bool false))
  (_e4:w.cell? ⟨bf,j,none⟩=some (.bool f2))
  (y1 y2:Value) (e5:w.cell? ⟨be,i,none⟩=some y1) (e6:w.cell? ⟨bf,i,none⟩=some y2) (z1:w.frozen? ⟨be,i,none⟩=false) (z2:w.frozen? ⟨bf,i,none⟩=false):
  Calls prog 90 #[.pointer (some ⟨bp,0,none⟩),.int .i64 i] w fun e w'=>e=.returned (.tuple #[])/\z2t be bf i (.int .i64 x2) (.bool false) w w':=by
 have G:=j1h hn hi;have C:(0:Int)<=(i:Int)+1:=by omega
 have B:(0:Int)<=(i:Int):=by omega
 have E:((i:Int)+1).toNat=i+1:=by omega
 have D:(0:Int)<=(j:Int):=by omega
 have H:=(cso (W:=w) (v:=.int .i64 x2) (b:=be) (o:=i) (by omega)).trans c0;have I:=(cso (W:=w) (v:=.int .i64 x2) (b:=be) (o:=i) (by omega)).trans c1;have J:=(cso (W:=w) (v:=.int .i64 x2) (b:=be) (o:=i) (by omega)).trans c2;have K:=(cso (W:=w) (v:=.int .i64 x2) (b:=be) (o:=i) (by omega)).trans e3;have L:=(cso (W:=w) (v:=.int .i64 x2) (b:=be) (o:=i) (by omega)).trans e6;have M:=(csf (W:=w) (v:=.int .i64 x2) (a:=⟨be,i,none⟩)).trans z2;go_in;go_wp2_with fail
 go_region
 all_goals
  go_wp2
  go_end0
  exact⟨rfl,rfl,rfl,rfl,rfl⟩
end Go.Proofs.YtfdppahhbpfnoaaGreatDoor
