import Derived.Test.YtchdplceopegoaaGreatDoorPi12
import Derived.Test.YtchdplceopegoaaGreatDoorPi08
open Go.Proofs.Tryz
open List (drop_eq_getElem_cons getElem_map length length_append length_cons length_drop length_map length_nil)
open Nat (le_refl zero_le)
namespace Go.Proofs.YtchdplceopegoaaGreatDoor
open Go Go.RowKit
set_option maxRecDepth 100000
set_option maxHeartbeats 1000000
structure Rd(w:World)(b:Nat)(A:Option Addr)(c:Nat)(ws:List Wd)(at_:Nat)(bad:Bool):Prop where
 c0:w.cell? ⟨b,0,none⟩=some (.slice A ws.length c)
 c1:w.cell? ⟨b,1,none⟩=some (.int .i64 (at_:Int))
 c2:w.cell? ⟨b,2,none⟩=some (.bool bad)
 row:k1g w b 3
 wd:Wds w A (ws.map wbS)
 lt:∀ba oa,A=some ⟨ba,oa,none⟩->ba<b
theorem v3d{w:World}{A:Option Addr}{xs:List ByteArray}(h:Wds w A xs){b k:Nat}{v:Value}(lt:∀ba oa,A=some ⟨ba,oa,none⟩->ba<b):Wds (w.setCell ⟨b,k,none⟩ v) A xs:=by
 intro i D;obtain⟨ba,oa,e,B,C⟩:=h i D;exact⟨ba,oa,e,by rw[World.size_setCell];exact B,by rw[cso (.inl (by have:=lt ba oa e;omega))];exact C⟩
theorem Rd.keepB{w w':World}{b B:Nat}{A:Option Addr}{c:Nat}{ws:List Wd}{C:Nat}{D:Bool}(h:Rd w b A c ws C D)(hb:Below B w w')(hB:b<B):Rd w' b A c ws C D:=by
 refine⟨(hb.cell (p:=b) hB).trans h.c0,(hb.cell (p:=(b,1)) hB).trans h.c1,(hb.cell (p:=(b,2)) hB).trans h.c2,h.row.kept (hb.block b hB),?_,h.lt⟩;intro i J;obtain⟨E,H,e,G,I⟩:=h.wd i J
 have:=h.lt E H e
 exact⟨E,H,e,Nat.lt_of_lt_of_le G hb.size,(hb.cell (p:=⟨E,_,none⟩) (by show E<B;omega)).trans I⟩
theorem Rd.keep{w w':World}{b:Nat}{A:Option Addr}{c:Nat}{ws:List Wd}{at_:Nat}{bad:Bool}(h:Rd w b A c ws at_ bad)(hb:Below w w w'):Rd w' b A c ws at_ bad:=h.keepB hb h.row.lt
theorem Rd.setAt{w:World}{b:Nat}{A:Option Addr}{c:Nat}{ws:List Wd}{at_:Nat}{bad:Bool}(h:Rd w b A c ws at_ bad)(n:Nat):Rd (w.setCell ⟨b,1,none⟩ (.int .i64 (n:Int))) b A c ws n bad:=
 ⟨(cso (.inr (by omega))).trans h.c0,css h.c1,(cso (.inr (by omega))).trans h.c2,h.row.set,v3d h.wd h.lt,h.lt⟩
theorem Rd.setBad{w:World}{b:Nat}{A:Option Addr}{c:Nat}{ws:List Wd}{at_:Nat}{bad:Bool}(h:Rd w b A c ws at_ bad)(n:Bool):Rd (w.setCell ⟨b,2,none⟩ (.bool n)) b A c ws at_ n:=
 ⟨(cso (.inr (by omega))).trans h.c0,(cso (.inr (by omega))).trans h.c1,css h.c2,h.row.set,v3d h.wd h.lt,h.lt⟩
theorem v2x(a b:Wd):((wbS a).toList==(wbS b).toList)=(a==b):=by
 rw[Lib.toList_data,Lib.toList_data];rfl
theorem z2v{w:World}{b:Nat}{A:Option Addr}{c:Nat}{ws:List Wd}{B:Nat}{D:Bool}(h:Rd w b A c ws B D)(s:Wd):
  Calls prog 24 #[.pointer b,.string (wbS s)] w fun e w'=>e=.returned (.bool (!D&&(ws[B]?==some s)))/\∃q,w'=w.drewN q:=by
 obtain⟨L,M,N,_,H,_⟩:=h;cases D with
 | true=>
  generalize wbS s=S;go_in;go_wp2_with fail
  go_quiet (fail)
  go_wp2;go_ret;exact⟨rfl,_,rfl⟩
 | false=>
  by_cases E:B<ws.length
  ·obtain⟨K,O,rfl,J,I⟩:=H B (by rw[length_map];exact E);rw[getElem_map]at I;have G:(B:Int)<(ws.length:Int):=by omega
   have C:Hid (((wbS ws[B]).toList==(wbS s).toList)=(!false&&(ws[B]?==some s))):=by
    show _=_;rw[v2x,List.getElem?_eq_getElem E];rfl
   generalize(!false&&(ws[B]?==some s))=R at C⊢
   generalize wbS s=S at C⊢;generalize wbS ws[B]=X at C I;clear H;go_in;go_wp2_with fail
   go_quiet (fail)
   go_wp2;go_ret;exact⟨by rw[<-C.o];rfl,_,rfl⟩
  ·have G:¬(B:Int)<(ws.length:Int):=by omega
   have C:Hid ((!false&&(ws[B]?==some s))=false):=by
    show _=_;rw[List.getElem?_eq_none (by omega)];rfl
   generalize(!false&&(ws[B]?==some s))=R at C⊢
   generalize wbS s=S;clear H;go_in;go_wp2_with fail
   go_quiet (fail)
   go_wp2;go_ret;exact⟨by rw[C.o];rfl,_,rfl⟩
def q1q(ws:List Wd)(at_:Nat)(bad:Bool)(s:Wd):Nat:=if(!bad&&(ws[at_]?==some s))=true then at_+1 else at_
def q0y(ws:List Wd)(at_:Nat)(bad:Bool)(s:Wd):Bool:=!(!bad&&(ws[at_]?==some s))
theorem q8i{w:World}{b:Nat}{A:Option Addr}{c:Nat}{ws:List Wd}{B:Nat}{D:Bool}(h:Rd w b A c ws B D)(hl:ws.length<=60000)(ha:B<=ws.length)(s:Wd):
  Calls prog 26 #[.pointer b,.string (wbS s)] w fun e w'=>(∃v,e=.returned v)/\Rd w' b A c ws (q1q ws B D s) (q0y ws B D s)/\But w b w w':=by
 have E:Hid (Cp 24 #[.pointer b,.string (wbS s)] w fun e w'=>e=.returned (.bool (!D&&(ws[B]?==some s)))/\∃q,w'=w.drewN q):=z2v h s;unfold q1q q0y;cases G:(!D&&(ws[B]?==some s))with
 | true=>
  have J:D=false:=by
   cases D with
   | false=>rfl
   | true=>simp at G
  subst J;rw[G]at E;simp only[if_true,Bool.not_true];have H:=hid h;obtain⟨I,L,M,C,_,_⟩:=h;have O:w.frozen? (b,1)=false:=C.frozen;generalize wbS s=S at E⊢;clear C G I;go_in;go_wp2_with fail;refine E.o.mono ?_;rintro e N⟨rfl,q,rfl⟩;go_wp2
  go_end0
  refine⟨⟨_,rfl⟩,?_,?_⟩
  ·have K:=(H.o.keep (q0f (Below.refl _ w) q)).setAt (B+1);rw[show((B+1:Nat):Int)=(B:Int)+1 by omega]at K;exact K
  ·exact(But.of (q0f (Below.refl _ w) q)).setCell (p:=(b,1)) (.inl rfl) _
 | false=>
  rw[G]at E;simp only[Bool.false_eq_true,if_false,Bool.not_false];have H:=hid h;obtain⟨I,L,M,C,_,_⟩:=h;have P:w.frozen? (b,2)=false:=C.frozen;generalize wbS s=S at E⊢;clear C G I;go_in;go_wp2_with fail;refine E.o.mono ?_;rintro e N⟨rfl,q,rfl⟩;go_wp2
  go_end0
  exact⟨⟨_,rfl⟩,(H.o.keep (q0f (Below.refl _ w) q)).setBad true,(But.of (q0f (Below.refl _ w) q)).setCell (p:=(b,2)) (.inl rfl) _⟩
def y9e(w:World)(b:Nat):Nat:=match w.cell? ⟨b,1,none⟩with
 | some (.int _ n)=>n.toNat
 | _=>0
theorem Rd.at_eq{w:World}{b:Nat}{A:Option Addr}{c:Nat}{ws:List Wd}{B:Nat}{C:Bool}(h:Rd w b A c ws B C):y9e w b=B:=by
 unfold y9e;rw[h.c1];simp
def Rs.isBad:Rs->Bool
 | .ok _ _ _=>false
 | .bad _=>true
structure Got(b:Nat)(A:Option Addr)(c:Nat)(ws:List Wd)(j:Job)(p:Nat)(w:World)(r:Rs)(ns:List Td)(v:Value)(w':World):Prop where
 pr:PR j (ws.drop p) r
 o:q1b w v ns w'
 n:ns.length+r.rest.length<=(ws.drop p).length
 e:∀m ms u,r=.ok m ms u->ms=ns
 rd:Rd w' b A c ws (ws.length-r.rest.length) r.isBad
 bt:But w b w w'
abbrev k4x(b:Nat)(A:Option Addr)(c:Nat)(ws:List Wd)(k p:Nat):Prop:=∀w:World,Rd w b A c ws p false->Calls prog 27 #[.pointer (some ⟨b,0,none⟩),.int .i64 (k:Int)] w fun e w'=>∃r ns A' c',e=.returned (.slice A' ns.length c')/\Got b A c ws (.level k) p w r ns (.slice A' ns.length c') w'
abbrev v4g(b:Nat)(A:Option Addr)(c:Nat)(ws:List Wd)(p:Nat):Prop:=∀w:World,Rd w b A c ws p false->Calls prog 43 #[.pointer (some ⟨b,0,none⟩)] w fun e w'=>∃r ns A' c',e=.returned (.slice A' ns.length c')/\Got b A c ws .single p w r ns (.slice A' ns.length c') w'
abbrev Sil(b:Nat)(A:Option Addr)(c:Nat)(ws:List Wd)(p:Nat)(w:World)(e:Ending)(w':World):Prop:=e=.returned (.slice none 0 0)/\Rd w' b A c ws p true/\But w b w w'
theorem j3c{w:World}{b:Nat}{A:Option Addr}{c:Nat}{ws:List Wd}{p:Nat}(h:Rd w b A c ws p true):Calls prog 43 #[.pointer b] w fun e w'=>Sil b A c ws p w e w':=by
 have C:=hid h;obtain⟨G,H,I,B,_,_⟩:=h;have D:w.frozen? (b,2)=false:=B.frozen;have E:Hid (∀q,(w.drewN q).frozen? (b,2)=false):=fun q=>D
 clear B;go_in;go_wp2_with fail
 go_quiet (fail)
 go_wp2;go_ret;exact⟨rfl,(C.o.keep (q0f (Below.refl _ w) _)).setBad true,(But.of (q0f (Below.refl _ w) _)).setCell (p:=(b,2)) (.inl rfl) _⟩
theorem q1b.nil(B:Nat)(w:World):q1b B (.slice Option.none 0 0) [] w:=⟨rfl,.inl ⟨rfl,rfl⟩⟩
theorem j2d{w:World}{b:Nat}{A:Option Addr}{c:Nat}{ws:List Wd}{p:Nat}(h:Rd w b A c ws p true):Calls prog 27 #[.pointer b,.int .i64 2] w fun e w'=>Sil b A c ws p w e w':=by
 have B:Hid (Cp 43 #[.pointer b] w fun e w'=>Sil b A c ws p w e w'):=j3c h;clear h;go_in;go_wp2_with fail;refine B.o.mono ?_;rintro e E⟨rfl,D,C⟩;go_wp2;go_ret;exact⟨rfl,D,C⟩
theorem j2c{w:World}{b:Nat}{A:Option Addr}{c:Nat}{ws:List Wd}{p:Nat}(h:Rd w b A c ws p true):Calls prog 27 #[.pointer b,.int .i64 1] w fun e w'=>Sil b A c ws p w e w':=by
 have G:Hid (Cp 27 #[.pointer b,.int .i64 2] w fun e w'=>Sil b A c ws p w e w'):=j2d h;clear h;go_in;go_wp2_with fail;refine G.o.mono ?_;rintro e H⟨rfl,B,C⟩;have I:=B.c2;have E:=hid B;have D:=hid C;clear B C;go_wp2_with fail
 go_loopw [5] (fun x wr=>wr=H/\x=.slice none 0 0) (fun _ _=>0)
 case atStart=>exact⟨rfl,rfl⟩
 case round=>
  obtain⟨rfl,rfl⟩:=hrel;go_wp2;go_ret;exact⟨rfl,E.o,D.o⟩
theorem z7k{w:World}{b:Nat}{A:Option Addr}{c:Nat}{ws:List Wd}{p:Nat}(h:Rd w b A c ws p true):Calls prog 27 #[.pointer b,.int .i64 0] w fun e w'=>Sil b A c ws p w e w':=by
 have G:Hid (Cp 27 #[.pointer b,.int .i64 1] w fun e w'=>Sil b A c ws p w e w'):=j2c h;clear h;go_in;go_wp2_with fail;refine G.o.mono ?_;rintro e H⟨rfl,B,C⟩;have I:=B.c2;have E:=hid B;have D:=hid C;clear B C;go_wp2_with fail
 go_loopw [5] (fun x wr=>wr=H/\x=.slice none 0 0) (fun _ _=>0)
 case atStart=>exact⟨rfl,rfl⟩
 case round=>
  obtain⟨rfl,rfl⟩:=hrel;go_wp2;go_ret;exact⟨rfl,E.o,D.o⟩
set_option maxHeartbeats 16000000
theorem q0m{ws:List Wd}{p:Nat}(_h:p<=ws.length):(ws.drop p).length=ws.length-p:=length_drop
theorem q5l(ws:List Wd)(p:Nat):(ws.drop p).head?=ws[p]?:=List.head?_drop
theorem z5o{ws:List Wd}{p:Nat}{r:List Wd}(h:r <:+ ws.drop p):ws.drop (ws.length-r.length)=r:=by
 obtain⟨t,A⟩:=h.trans (List.drop_suffix p ws);have B:=congrArg length A;rw[length_append]at B;have e:ws.length-r.length=t.length:=by omega
 rw[e,<-A,List.drop_left]
theorem k2r{b:Nat}{A:Option Addr}{c:Nat}{ws:List Wd}{p:Nat}(hs:v4g b A c ws p):k4x b A c ws 2 p:=by
 intro w h;have H:=hid (hs w h);clear h hs;show Calls prog 27 #[.pointer b,.int .i64 2] w _;go_in;go_wp2_with fail;refine H.o.mono ?_;rintro e J⟨r,C,D,E,rfl,B⟩;have G:Hid (Got b A c ws (.level 2) p w r C (.slice D C.length E) J):=⟨.lev2 B.pr,B.o,B.n,B.e,B.rd,B.bt⟩;have K:Hid (∃m,C.length=m):=⟨_,rfl⟩;generalize I:C.length=m;clear B;go_wp2;go_ret;exact⟨r,C,D,E,by rw[I];rfl,G.o⟩
theorem q1b.but{B b:Nat}{v:Value}{xs:List Td}{w w':World}(h:q1b B v xs w)(hb:But w b w w')(hB:b<B):q1b B v xs w':=h.kept fun g h1 h2=>hb.block g h2 (by omega)
structure g0t(b:Nat)(A:Option Addr)(c:Nat)(ws:List Wd)(k p:Nat)(w:World)(q:Nat)(bad:Bool)(acc:List Td)(v:Value)(wr:World):Prop where
 le:q<=ws.length
 lt:p<q\/bad=true
 pq:p<=q
 n:acc.length+(ws.length-q)<=ws.length-p
 o:q1b w v acc wr
 rd:Rd wr b A c ws q bad
 bt:But w b w wr
 ok:bad=false->∀r,PR (.loop k acc) (ws.drop q) r->PR (.level k) (ws.drop p) r
 bd:bad=true->PR (.level k) (ws.drop p) (.bad (ws.drop q))
theorem v6r{b:Nat}{A:Option Addr}{c:Nat}{ws:List Wd}{k p:Nat}{w:World}{r:Rs}{ns:List Td}{v:Value}{w1:World}(hk:k<2)(hp:p<=ws.length)(h:Got b A c ws (.level (k+1)) p w r ns v w1):g0t b A c ws k p w (ws.length-r.rest.length) r.isBad ns v w1:=by
 have B:=q5o h.pr;have C:=z5o B.1
 have H:r.rest.length<=ws.length-p:=by
  have:=h.n
  rw[q0m hp]at this;omega
 have G:=h.n;rw[q0m hp]at G;cases r with
 | bad u=>
  simp only[Rs.rest,Rs.isBad]at *;exact⟨by omega,.inr rfl,by omega,by omega,h.o,h.rd,h.bt,(fun e=>by cases e),(fun _=>by rw[C];exact .levB hk h.pr)⟩
 | ok m ms u=>
  have E:=h.e m ms u rfl;subst E;have D:=B.2 m ms u rfl;rw[q0m hp]at D;simp only[Rs.rest,Rs.isBad,Job.eats]at *;exact⟨by omega,.inl (by omega),by omega,by omega,h.o,h.rd,h.bt,(fun _ r hr=>by rw[C]at hr;exact .levO hk h.pr hr),(fun e=>by cases e)⟩
theorem y4m{b:Nat}{A:Option Addr}{c:Nat}{ws:List Wd}{k p:Nat}{w:World}{q:Nat}{B:List Td}{v:Value}{wr w3 w4 w5:World}{r:Rs}{ns:List Td}{v4 v5:Value}(hV:g0t b A c ws k p w q false B v wr)(hq:q<ws.length)(hd:ws.drop q=sgn k::ws.drop (q+1))
  (G:But w b w w3) (I:w.heap.size<=w3.heap.size) (hG:Got b A c ws (.level (k+1)) (q+1) w3 r ns v4 w4) (H:b<w.heap.size) (b5:Below w w4 w5) (ho:q1b w v5 (([sgT k]++B)++ns) w5):
  g0t b A c ws k p w (ws.length-r.rest.length) r.isBad (sgT k::(B++ns)) v5 w5/\q<ws.length-r.rest.length:=by
 have J:=q5o hG.pr;have K:=z5o J.1;have P:=hG.n;rw[q0m (by omega)]at P;have M:=hV.n;have N:=hV.pq;have E:=hG.rd.keepB b5 H;have D:=(G.trans (hG.bt.mono I)).trans (But.of b5);have L:(([sgT k]++B)++ns)=sgT k::(B++ns):=by simp
 rw[L]at ho;have C:(sgT k::(B++ns)).length=1+B.length+ns.length:=by simp;omega
 cases r with
 | bad u=>
  simp only[Rs.rest,Rs.isBad]at *;exact⟨⟨by omega,.inr rfl,by omega,by rw[C];omega,ho,E,D,(fun e=>by cases e),(fun _=>by rw[K];exact hV.ok rfl _ (by rw[hd];exact .lopB hG.pr))⟩,by omega⟩
 | ok m ms u=>
  have O:=hG.e m ms u rfl;subst O;simp only[Rs.rest,Rs.isBad]at *;exact⟨⟨by omega,.inl (by omega),by omega,by rw[C];omega,ho,E,D,(fun _ r hr=>by rw[K]at hr;exact hV.ok rfl _ (by rw[hd];exact .lopO hG.pr hr)),(fun e=>by cases e)⟩,by omega⟩
theorem z4b(k:Nat)(hk:k=0\/k=1){b:Nat}{A:Option Addr}{c:Nat}{ws:List Wd}{p:Nat}(hl:ws.length<=60000)(hp:p<=ws.length)(hL:∀q,p<=q->q<=ws.length->k4x b A c ws (k+1) q):k4x b A c ws k p:=by
 have C:Tag k:=.mk;rcases hk with rfl|rfl
 all_goals
  intro w h;have HL:Hid (∀q,p<=q->q<=ws.length->k4x b A c ws ↑(q5t C 1 2) q):=hL;have Af:Hid (Cp 27 #[.pointer b,.int .i64 ↑(sel C (1:Int) 2)] w fun e w'=>∃r O P Q,e=.returned (.slice P O.length Q)/\Got b A c ws (.level ↑(q5t C 1 2)) p w r O (.slice P O.length Q) w'):=hL p Zl hp w h;have d:b<w.heap.size:=h.row.lt;show Calls prog 27 #[.pointer b,.int .i64 ↑(sel C (0:Int) 1)] w _;go_in;go_wp2_with fail;refine Af.o.mono ?_;rintro e w1⟨r,O,P,Q,rfl,hG⟩;have Ah:=hid (v6r (k:=↑(q5t C 0 1)) (by omega) hp hG);generalize hm:O.length=m;have HM:Hid (O.length=m):=hm;go_wp2_with fail
  go_loopw [5] (fun x wr=>∃(q:Nat)(a:Bool)(B:List Td)(P:Option Addr)(Q:Nat),x=.slice P B.length Q/\g0t b A c ws ↑(q5t C 0 1) p w q a B (.slice P B.length Q) wr) (fun _ wr=>ws.length-y9e wr b)
  case atStart=>exact⟨_,_,O,P,Q,by rw[HM.o],Ah.o⟩
  case round=>
   obtain⟨q,a,B,j,c1,rfl,D⟩:=hrel;have S:=hid D;have d1:=D.rd.c1;have d2:=D.rd.c2;have V:=D.le;have hn:=D.n;have A2:wr.frozen? (b,1)=false:=D.rd.row.frozen;have Au:b<wr.heap.size:=D.rd.row.lt;have Ab:=D.bt.size;generalize As:B.length=al at hn;have G:Hid (B.length=al):=As;cases a with
   | true=>
    go_wp2;go_ret;have D:=S.o;have L:=q0m V;refine⟨.bad (ws.drop q),B,j,c1,by rw[G.o];rfl,D.bd rfl,D.o,?_,(fun _ _ _ e=>by cases e),?_,D.bt⟩
    ·have Ay:=D.pq;have h1:=D.n;rw[q0m hp];simp only[Rs.rest,L];omega
    ·have h1:=D.rd;have e1:ws.length-(Rs.bad (ws.drop q)).rest.length=q:=by simp only[Rs.rest,L];omega
     rw[e1];exact h1
   | false=>
    have R:Hid (∀W:World,Below wr wr W->Cp 24 #[.pointer ↑b,.string ((⟨#[43,42]⟩:ByteArray).extract ↑(q5t C 0 1) ↑(q5t C 1 2))] W fun e w'=>e=.returned (.bool (!false&&(ws[q]?==some [↑(sel C (43:UInt8) 42)])))/\∃E,w'=W.drewN E):=fun W hb=>by
     have e0:(⟨#[43,42]⟩:ByteArray).extract ↑(q5t C 0 1) ↑(q5t C 1 2)=wbS [↑(sel C (43:UInt8) 42)]:=rfl;rw[e0];exact z2v (S.o.rd.keep hb) [↑(sel C (43:UInt8) 42)]
    cases M:(!false&&(ws[q]?==some ([↑(sel C (43:UInt8) 42)]:Wd)))with
    | false=>
     rw[M]at R
     have Aw:(ws.drop q).head?≠some (sgn ↑(q5t C 0 1)):=by
      rw[q5l];intro e;rw[e]at M;exact absurd M (by decide)
     have Ak:=hid Aw;go_wp2_with fail;refine(R.o _ Zb).mono ?_;rintro e w2⟨rfl,E,rfl⟩;go_wp2;go_ret;have D:=S.o;have L:(ws.drop q).length=ws.length-q:=q0m V;have e1:ws.length-(Rs.ok 0 B (ws.drop q)).rest.length=q:=by simp only[Rs.rest,L];omega
     refine⟨.ok 0 B (ws.drop q),B,j,c1,by rw[G.o];rfl,D.ok rfl _ (.lopE Ak.o),D.o,?_,(fun _ _ _ e=>by cases e;rfl),?_,D.bt.trans (But.of (q0f (Below.refl _ wr) E))⟩
     ·have Ay:=D.pq;have h1:=D.n;rw[q0m hp];simp only[Rs.rest,L];omega
     ·rw[e1];exact D.rd.keep (q0f (Below.refl _ wr) E)
    | true=>
     rw[M]at R;have Az:ws[q]?=some ([↑(sel C (43:UInt8) 42)]:Wd):=by simpa using M
     obtain⟨X,A0⟩:=List.getElem?_eq_some_iff.1 Az
     have Ad:Hid (ws.drop q=sgn ↑(q5t C 0 1)::ws.drop (q+1)):=by
      show _=_;rw[drop_eq_getElem_cons X,A0];rfl
     go_wp2_with fail;refine(R.o _ Zb).mono ?_;rintro e w2⟨rfl,E,rfl⟩
     have Am:Hid (Rd ((wr.drewN E).setCell ↑(b,1) ↑((q:Int)+1)) b A c ws (q+1) false):=by
      have u:=(S.o.rd.keep (q0f (Below.refl _ wr) E)).setAt (q+1);rw[show((q+1:Nat):Int)=(q:Int)+1 by omega]at u;exact u
     have l:Hid (But wr b wr ((wr.drewN E).setCell ⟨b,1,none⟩ (.int .i64 ((q:Int)+1)))):=(But.of (q0f (Below.refl _ wr) E)).setCell (p:=⟨b,1,none⟩) (.inl rfl) _;have D:=S.o
     have Ar:Hid (q1b w (.slice ↑wr.heap.size 1 1) [sgT ↑(q5t C 0 1)] (((wr.drewN E).setCell ↑(b,1) ↑((q:Int)+1)).alloc (.cells #[.int .i64 ↑(sel C (5:Int) 6),.string ⟨#[]⟩,.int .i64 0] 71))):=by
      have u:=q1b.one ((wr.drewN E).setCell ↑(b,1) ↑((q:Int)+1)) (sgT ↑(q5t C 0 1));have e2:((wr.drewN E).setCell ↑(b,1) ↑((q:Int)+1)).heap.size=wr.heap.size:=World.size_setCell ..;rw[e2]at u;exact u.down Ab
     have Ap:Hid (Tds (((wr.drewN E).setCell ↑(b,1) ↑((q:Int)+1)).alloc (.cells #[.int .i64 ↑(sel C (5:Int) 6),.string ⟨#[]⟩,.int .i64 0] 71)) j B):=((D.o.but l.o d).tds).alloc _
     have Ai:Hid (j=none->al=0/\c1=0):=by
      have v:=D.o.none;rw[G.o]at v;exact v.2
     have An:Hid (∀W,Below (wr.heap.size) ((wr.drewN E).setCell ↑(b,1) ↑((q:Int)+1)) W->Rd W b A c ws (q+1) false):=fun W hW=>Am.o.keepB hW Au
     have Ac:Hid (Below wr ((wr.drewN E).setCell ↑(b,1) ↑((q:Int)+1)) (((wr.drewN E).setCell ↑(b,1) ↑((q:Int)+1)).alloc (.cells #[.int .i64 ↑(sel C (5:Int) 6),.string ⟨#[]⟩,.int .i64 0] 71))):= Zb.alloc (by rw[World.size_setCell];exact le_refl _) _
     have Aa:(((wr.drewN E).setCell ↑(b,1) ↑((q:Int)+1)).alloc (.cells #[.int .i64 ↑(sel C (5:Int) 6),.string ⟨#[]⟩,.int .i64 0] 71)).heap.size=wr.heap.size+1:=by
      rw[World.size_alloc,World.size_setCell];rfl
     have K:=(show Hid (_=_)from Aa);go_wp2_with(at_builtin;refine q4l rfl _ _ rfl w.heap.size _ [sgT ↑(q5t C 0 1)] rfl Ar.o j al B G.o c1 rfl Ap.o Ai.o (1+al) rfl (by omega) (by rw[K.o];omega) ?_);intro A3 c3 i f I;have Al:Hid (q1b w (.slice A3 (1+al) c3) ([sgT ↑(q5t C 0 1)]++B) i):=f
     have N:∀k',(Value.slice wr.heap.size 1 1).ownBlock=some k'->wr.heap.size<=k':=fun k' hk=>by
      simp only[Value.ownBlock,Option.some.injEq]at hk;omega
     have s:Hid (But wr b wr i):=(l.o.alloc (by rw[World.size_setCell];exact le_refl _) _).grown I (by rw[K.o];omega) N;have Ao:Hid (Rd i b A c ws (q+1) false):=An.o i (Ac.o.grown I (by rw[K.o];omega) N);have A6:=s.o.size;have Ag:Hid (Cp 27 #[.pointer b,.int .i64 ↑(sel C (1:Int) 2)] i fun e w'=>∃r O P Q,e=.returned (.slice P O.length Q)/\Got b A c ws (.level ↑(q5t C 1 2)) (q+1) i r O (.slice P O.length Q) w'):=HL.o (q+1) (by have:=S.o.pq;omega) (by omega) i Ao.o;go_wp2_with fail;refine Ag.o.mono ?_;rintro e w4⟨r4,H,A4,c4,rfl,J⟩;have Ae:=hid J;have y:=J.n;rw[q0m (by omega)]at y;have Aq:Hid (Tds w4 A4 H):=J.o.tds;have A7:=J.bt.size;have t:Hid (q1b w (.slice A3 (1+al) c3) ([sgT ↑(q5t C 0 1)]++B) w4):=Al.o.but J.bt d;generalize z:H.length=n4 at y;have Y:Hid (H.length=n4):=z
     have Aj:Hid (A4=none->n4=0/\c4=0):=by
      have v:=J.o.none;rw[z]at v;exact v.2
     have Av:1+al+n4<=1000000:=by omega
     go_wp2_with(at_builtin;refine q4l rfl _ _ rfl w.heap.size _ ([sgT ↑(q5t C 0 1)]++B) rfl t.o A4 n4 H Y.o c4 rfl Aq.o Aj.o (1+al+n4) (by rw[length_append,G.o];rfl) Av (by omega) ?_);intro A5 c5 w5 g U;have At:Below w w4 w5:= Zb.grown U (by omega) (fun k' hk=>(World.ownsRow.lt t.o k' hk).1);have Ax:=y4m S.o X Ad.o (S.o.bt.trans (s.o.mono Ab)) (by omega) Ae.o d At g;have Z:=hid Ax;go_wp2;refine⟨⟨ws.length-r4.rest.length,r4.isBad,sgT ↑(q5t C 0 1)::(B++H),A5,c5,?_,?_⟩,?_⟩
     ·have e5:(sgT ↑(q5t C 0 1)::(B++H)).length=1+al+n4:=by rw[length_cons,length_append,G.o,Y.o];omega
      rw[e5]
     ·have e5:(sgT ↑(q5t C 0 1)::(B++H)).length=1+al+n4:=by rw[length_cons,length_append,G.o,Y.o];omega
      rw[e5];exact Z.o.1
     ·rw[Z.o.1.rd.at_eq,S.o.rd.at_eq]
      have:=Z.o.2
      omega
def g1b(w:World)(b:Nat):Nat:=match w.cell? ⟨b,2,none⟩with
 | some (.bool true)=>0
 | _=>1
theorem Rd.nb_eq{w:World}{b:Nat}{A:Option Addr}{c:Nat}{ws:List Wd}{C:Nat}{B:Bool}(h:Rd w b A c ws C B):g1b w b=if B then 0 else 1:=by
 unfold g1b;rw[h.c2];cases B<;>rfl
structure g0q(b:Nat)(A:Option Addr)(c:Nat)(ws:List Wd)(e:Wd)(p:Nat)(w:World)(r:Rs)(n:Nat)(ns:List Td)(v:Value)(w':World):Prop where
 pr:PR (.args e 0 []) (ws.drop p) r
 o:q1b w v ns w'
 nl:ns.length+r.rest.length<=(ws.drop p).length
 ev:∀m ms u,r=.ok m ms u->ms=ns/\m=n
 rd:Rd w' b A c ws (ws.length-r.rest.length) r.isBad
 bt:But w b w w'
 le:n<=60000
abbrev g0s(b:Nat)(A:Option Addr)(c:Nat)(ws:List Wd)(e:Wd)(p:Nat):Prop:=∀w:World,Rd w b A c ws p false->Calls prog 71 #[.pointer (some ⟨b,0,none⟩),.string (wbS e)] w fun ev w'=>∃r n ns A' c',ev=.returned (.tuple #[.int .i64 ((n:Nat):Int),.slice A' ns.length c'])/\g0q b A c ws e p w r n ns (.slice A' ns.length c') w'
structure y6x(b:Nat)(A:Option Addr)(c:Nat)(ws:List Wd)(e:Wd)(p:Nat)(w:World)(q:Nat)(bad:Bool)(n:Nat)(acc:List Td)(v:Value)(wr:World):Prop where
 le:q<=ws.length
 pq:p<=q
 cn:bad=false->n<=q-p
 nl:acc.length+(ws.length-q)<=ws.length-p
 o:q1b w v acc wr
 rd:Rd wr b A c ws q bad
 bt:But w b w wr
 ok:bad=false->∀r,PR (.args e n acc) (ws.drop q) r->PR (.args e 0 []) (ws.drop p) r
 bd:bad=true->PR (.args e 0 []) (ws.drop p) (.bad (ws.drop q))
theorem j8q{b:Nat}{A:Option Addr}{c:Nat}{ws:List Wd}{e:Wd}{p:Nat}{w:World}{q q':Nat}{n:Nat}{B:List Td}{v:Value}{wr w3 w4 w5:World}{r:Rs}{ns:List Td}{v4 v5:Value}(hV:y6x b A c ws e p w q false n B v wr)(hq:q'<=ws.length)(R:q<=q')
  (hB:∀u,PR (.level 0) (ws.drop q') (.bad u)->PR (.args e n B) (ws.drop q) (.bad u)) (hO:∀m ms u r,PR (.level 0) (ws.drop q') (.ok m ms u)->PR (.args e (n+1) (B++ms)) u r->PR (.args e n B) (ws.drop q) r)
  (H:But w b w w3) (J:w.heap.size<=w3.heap.size) (hG:Got b A c ws (.level 0) q' w3 r ns v4 w4) (I:b<w.heap.size) (b5:Below w w4 w5) (ho:q1b w v5 (B++ns) w5):
  y6x b A c ws e p w (ws.length-r.rest.length) r.isBad (n+1) (B++ns) v5 w5/\2*(ws.length-(ws.length-r.rest.length))+(if r.isBad then 0 else 1)<2*(ws.length-q)+1:=by
 have G:=q5o hG.pr;have K:=z5o G.1;have Q:=hG.n;rw[q0m hq]at Q;have N:=hV.nl;have O:=hV.pq;have M:=hV.cn rfl;have E:=hG.rd.keepB b5 I;have D:=(H.trans (hG.bt.mono J)).trans (But.of b5);have C:(B++ns).length=B.length+ns.length:=length_append;cases r with
 | bad u=>
  simp only[Rs.rest,Rs.isBad]at *;exact⟨⟨by omega,by omega,(fun e=>by cases e),by rw[C];omega,ho,E,D,(fun e=>by cases e),(fun _=>by rw[K];exact hV.ok rfl _ (hB _ hG.pr))⟩,by simp only[if_true];omega⟩
 | ok m ms u=>
  have P:=hG.e m ms u rfl;subst P;have L:=G.2 m ms u rfl;rw[q0m hq]at L;simp only[Rs.rest,Rs.isBad,Job.eats]at *;exact⟨⟨by omega,by omega,(fun _=>by omega),by rw[C];omega,ho,E,D,(fun _ r hr=>by rw[K]at hr;exact hV.ok rfl _ (hO _ _ _ _ hG.pr hr)),(fun e=>by cases e)⟩,by simp only[Bool.false_eq_true,if_false];omega⟩
theorem k2y{b:Nat}{A:Option Addr}{c:Nat}{ws:List Wd}{e:Wd}{p:Nat}(he:e≠[44])(hl:ws.length<=60000)(hp:p<=ws.length)(hL:∀q,p<=q->q<=ws.length->k4x b A c ws 0 q):g0s b A c ws e p:=by
 intro w h;have HL:=hid hL;have HE:=hid he;have L:=h.row.lt;have Au:Hid (y6x b A c ws e p w p false 0 [] (.slice none 0 0) w):=⟨hp,le_refl _,fun _=>zero_le _,by simp,q1b.nil _ _,h,But.refl _ _ _,fun _ r hr=>hr,fun e=>by cases e⟩;clear h hL he;generalize hS:wbS e=S;have HS:=hid hS;clear hS;go_in;go_wp2_with fail
 go_loopw [6,7] (fun x n wr=>∃(q:Nat)(Aa:Bool)(n':Nat)(C:List Td)(A':Option Addr)(c':Nat),x=.slice A' C.length c'/\n=(n':Int)/\n'<=60001/\y6x b A c ws e p w q Aa n' C (.slice A' C.length c') wr) (fun _ _ wr=>2*(ws.length-y9e wr b)+g1b wr b)
 case atStart=>exact⟨p,false,0,[],none,0,rfl,rfl,by omega,Au.o⟩
 case round=>
  obtain⟨q,Aa,n,C,A1,c1,rfl,rfl,Az,K⟩:=hrel;have J:=hid K;have d1:=K.rd.c1;have d2:=K.rd.c2;have X:=K.le;have Ao:=K.pq;have hn:=K.nl;have Ah:Aa=false->n<=60000:=fun e=>by have:=K.cn e;omega
  have A2:wr.frozen? (b,1)=false:=K.rd.row.frozen;have A0:=K.rd.row.lt;have Ac:=K.bt.size;generalize Ak:C.length=al at hn;have I:=hid Ak;clear K Ak;cases Aa with
  | true=>
   clear Ah;go_wp2;refine bodyPost_ret (v:=.tuple #[.int .i64 0,.slice none 0 0]) (by simp[results,Tryz.results71,go_sem]) rfl ?_;have K:=J.o;have j:(ws.drop q).length=ws.length-q:=q0m X;have e1:ws.length-(Rs.bad (ws.drop q)).rest.length=q:=by simp only[Rs.rest,j];omega
   refine⟨.bad (ws.drop q),0,[],none,0,rfl,K.bd rfl,q1b.nil _ _,?_,(fun _ _ _ e=>by cases e),?_,K.bt,by omega⟩
   ·rw[q0m hp];simp only[Rs.rest,j,length_nil];omega
   ·rw[e1];exact K.rd
  | false=>
   have Aw:=Ah rfl;clear Ah
   have Y:Hid (Cp 24 #[.pointer b,.string S] wr fun y w'=>y=.returned (.bool (!false&&(ws[q]?==some e)))/\∃q',w'=wr.drewN q'):=by
    have:=z2v J.o.rd e
    rw[HS.o]at this;exact this
   cases U:(!false&&(ws[q]?==some e))with
   | true=>
    rw[U]at Y;have l:ws[q]?=some e:=by simpa using U
    obtain⟨t,s⟩:=List.getElem?_eq_some_iff.1 l
    have z:Hid (ws.drop q=e::ws.drop (q+1)):=by
     show _=_;rw[drop_eq_getElem_cons t,s]
    clear U l s;go_wp2_with fail;refine Y.o.mono ?_;rintro y w2⟨rfl,q',rfl⟩;go_wp2;refine bodyPost_ret (v:=.tuple #[(n:Int),.slice A1 al c1]) (by simp[results,Tryz.results71,go_sem]) rfl ?_;have K:=J.o;have j:(ws.drop (q+1)).length=ws.length-(q+1):=q0m (by omega);have e1:ws.length-(Rs.ok n C (ws.drop (q+1))).rest.length=q+1:=by simp only[Rs.rest,j];omega
    have Ax:Rd ((wr.drewN q').setCell ↑(b,1) ↑((q:Int)+1)) b A c ws (q+1) false:=by
     have h2:=(K.rd.keep (q0f (Below.refl _ wr) q')).setAt (q+1);rw[show((q+1:Nat):Int)=(q:Int)+1 by omega]at h2;exact h2
    have Al:But wr b wr ((wr.drewN q').setCell ↑(b,1) ↑((q:Int)+1)):=(But.of (q0f (Below.refl _ wr) q')).setCell (p:=↑(b,1)) (.inl rfl) _;refine⟨.ok n C (ws.drop (q+1)),n,C,A1,c1,by rw[I.o],K.ok rfl _ (by rw[z.o];exact .aEnd),K.o.but Al L,?_,(fun _ _ _ e=>by cases e;exact⟨rfl,rfl⟩),?_,K.bt.trans (Al.mono Ac),Aw⟩
    ·have Z:=K.nl;rw[q0m hp];simp only[Rs.rest,j];omega
    ·rw[e1];exact Ax
   | false=>
    rw[U]at Y
    have An:(ws.drop q).head?≠some e:=by
     rw[q5l];intro e0;rw[e0]at U;simp at U
    have Af:=hid An;clear U An;by_cases Av:n=0
    ·subst Av;go_wp2_with fail;refine Y.o.mono ?_;rintro y w2⟨rfl,q',rfl⟩;have O:=hid (HL.o q Ao X _ (J.o.rd.keep (q0f (Below.refl _ wr) q')));have H:Hid (But wr b wr (wr.drewN q')):=But.of (q0f (Below.refl _ wr) q');generalize wr.drewN q'=w2 at O H⊢;have Ap:=H.o.size;go_wp2_with fail;refine O.o.mono ?_;rintro y w4⟨r4,N,A4,c4,rfl,E⟩;have Ad:=hid E;have V:=E.n;rw[q0m (by omega)]at V;have Ag:=hid E.o.tds;have Aq:=E.bt.size
     have P:Hid (q1b w (.slice A1 al c1) C w4):=by
      have Z:=J.o.o;rw[I.o]at Z;exact(Z.but H.o L).but E.bt L
     generalize W:N.length=n4 at V;have d:=hid W
     have Ae:Hid (A4=none->n4=0/\c4=0):=by
      have h3:=E.o.none;rw[W]at h3;exact h3.2
     have Ai:al+n4<=1000000:=by omega
     clear E W V O;go_wp2_with(at_builtin;refine q4l rfl _ _ rfl w.heap.size _ C rfl P.o A4 n4 N d.o c4 rfl Ag.o Ae.o (al+n4) (by rw[I.o]) Ai (by omega) ?_);intro A5 c5 w5 D B;have M:= Zb.grown B (by omega) (fun k' hk=>(World.ownsRow.lt P.o k' hk).1);have k:=j8q (q':=q) J.o (by omega) (by omega) (fun u hu=>.aB0 Af.o hu) (fun m ms u r Z h2=>.aO0 Af.o Z h2) (J.o.bt.trans (H.o.mono Ac)) (by omega) Ad.o L M D;have G:=hid k;have e5:(C++N).length=al+n4:=by rw[length_append,I.o,d.o]
     have a:=(show Hid (_=_)from e5);clear D B M k e5;go_wp2;refine⟨⟨ws.length-r4.rest.length,r4.isBad,1,C++N,A5,c5,by rw[a.o],rfl,by omega,?_⟩,?_⟩
     ·rw[a.o];exact G.o.1
     ·rw[G.o.1.rd.at_eq,J.o.rd.at_eq,G.o.1.rd.nb_eq,J.o.rd.nb_eq];simpa using G.o.2
    ·obtain⟨n,rfl⟩:∃n',n=n'+1:=⟨n-1,by omega⟩;have Ay:(0:Int)<((n+1:Nat):Int):=by omega
     have Q:Hid (∀q',Cp 26 #[.pointer b,.string ⟨#[44]⟩] (wr.drewN q') fun e w'=>(∃v,e=.returned v)/\Rd w' b A c ws (q1q ws q false [44]) (q0y ws q false [44])/\But (wr.drewN q').heap.size b (wr.drewN q') w'):=fun q'=>q8i (J.o.rd.keep (q0f (Below.refl _ wr) q')) hl X [44]
     cases R:(!false&&(ws[q]?==some ([44]:Wd)))with
     | true=>
      have l:ws[q]?=some ([44]:Wd):=by simpa using R
      obtain⟨t,s⟩:=List.getElem?_eq_some_iff.1 l
      have z:Hid (ws.drop q=[44]::ws.drop (q+1)):=by
       show _=_;rw[drop_eq_getElem_cons t,s]
      unfold q1q q0y at Q;rw[R]at Q;simp only[if_true,Bool.not_true]at Q;clear R l s;go_wp2_with fail;refine Y.o.mono ?_;rintro y w1⟨rfl,q',rfl⟩;go_wp2_with fail;refine(Q.o q').mono ?_;rintro y w2⟨⟨vv,rfl⟩,f,g⟩;have O:=hid (HL.o (q+1) (by omega) (by omega) _ f);have H:=hid ((But.of (q0f (Below.refl _ wr) q')).trans g);have Ap:=H.o.size;clear f g;go_wp2_with fail;refine O.o.mono ?_;rintro y w4⟨r4,N,A4,c4,rfl,E⟩;have Ad:=hid E;have V:=E.n;rw[q0m (by omega)]at V;have Ag:=hid E.o.tds;have Aq:=E.bt.size
      have P:Hid (q1b w (.slice A1 al c1) C w4):=by
       have Z:=J.o.o;rw[I.o]at Z;exact(Z.but H.o L).but E.bt L
      generalize W:N.length=n4 at V;have d:=hid W
      have Ae:Hid (A4=none->n4=0/\c4=0):=by
       have h3:=E.o.none;rw[W]at h3;exact h3.2
      have Ai:al+n4<=1000000:=by omega
      clear E W V O;go_wp2_with(at_builtin;refine q4l rfl _ _ rfl w.heap.size _ C rfl P.o A4 n4 N d.o c4 rfl Ag.o Ae.o (al+n4) (by rw[I.o]) Ai (by omega) ?_);intro A5 c5 w5 D B;have M:= Zb.grown B (by omega) (fun k' hk=>(World.ownsRow.lt P.o k' hk).1);have k:=j8q (q':=q+1) J.o (by omega) (by omega) (fun u hu=>by rw[z.o];exact .aB HE.o hu) (fun m ms u r Z h2=>by rw[z.o];exact .aO HE.o Z h2) (J.o.bt.trans (H.o.mono Ac)) (by omega) Ad.o L M D;have G:=hid k;have e5:(C++N).length=al+n4:=by rw[length_append,I.o,d.o]
      have a:=(show Hid (_=_)from e5);clear D B M k e5;go_wp2;refine⟨⟨ws.length-r4.rest.length,r4.isBad,n+1+1,C++N,A5,c5,by rw[a.o],by go_num,by omega,?_⟩,?_⟩
      ·rw[a.o];exact G.o.1
      ·rw[G.o.1.rd.at_eq,J.o.rd.at_eq,G.o.1.rd.nb_eq,J.o.rd.nb_eq];simpa using G.o.2
     | false=>
      have Am:(ws.drop q).head?≠some [44]:=by
       rw[q5l];intro e0;rw[e0]at R;exact absurd R (by decide)
      have As:=hid Am;unfold q1q q0y at Q;rw[R]at Q;simp only[Bool.false_eq_true,if_false,Bool.not_false]at Q;clear R Am;go_wp2_with fail;refine Y.o.mono ?_;rintro y w1⟨rfl,q',rfl⟩;go_wp2_with fail;refine(Q.o q').mono ?_;rintro y w2⟨⟨vv,rfl⟩,f,g⟩;have O:=hid (z7k f);have H:=hid ((But.of (q0f (Below.refl _ wr) q')).trans g);have Ap:=H.o.size;clear f g;go_wp2_with fail;refine O.o.mono ?_;rintro y w4⟨rfl,Aj,Ab⟩
      have P:Hid (q1b w (.slice A1 al c1) C w4):=by
       have Z:=J.o.o;rw[I.o]at Z;exact(Z.but H.o L).but Ab L
      have At:=hid Aj;have Ar:=hid ((J.o.bt.trans (H.o.mono Ac)).trans (Ab.mono (by omega)));have Aq:=Ab.size;clear Aj Ab;go_wp2_with(at_builtin;refine q4l rfl _ _ rfl w.heap.size _ C rfl P.o none 0 [] rfl 0 rfl (fun i hi=>by simp at hi) (fun _=>⟨rfl,rfl⟩) al (by rw[I.o];rfl) (by omega) (by omega) ?_);intro A5 c5 w5 D B;have M:= Zb.grown B (by omega) (fun k' hk=>(World.ownsRow.lt P.o k' hk).1);have G:Hid (y6x b A c ws e p w q true (n+1+1) C (.slice A5 al c5) w5):=⟨X,Ao,(fun e=>by cases e),J.o.nl,D,At.o.keepB M L,Ar.o.trans (But.of M),(fun e=>by cases e),fun _=>J.o.ok rfl _ (.aSep Af.o As.o)⟩;clear D B M;go_wp2;refine⟨⟨q,true,n+1+1,C,A5,c5,by rw[I.o],by go_num,by omega,?_⟩,?_⟩
      ·rw[I.o];exact G.o
      ·rw[G.o.rd.at_eq,J.o.rd.at_eq,G.o.rd.nb_eq,J.o.rd.nb_eq];simp
theorem q1g(s:ByteArray)(w:World):Cw 25 #[.string s] w (.bool (q0o s)):=by
 unfold Cw;by_cases P:(s.size:Int)<1
 ·have A:Hid (q0o s=false):=z5g (by omega);go_in;go_wp2;go_ret;exact⟨by rw[A.o];rfl,rfl⟩
 by_cases Q:8<(s.size:Int)
 ·have A:Hid (q0o s=false):=z7o (by omega);go_in;go_wp2;go_ret;exact⟨by rw[A.o];rfl,rfl⟩
 by_cases G:s=⟨#[108,101,116]⟩
 ·subst G;go_in;go_wp2;go_ret;exact⟨by rfl,rfl⟩
 have N:Hid (¬s=⟨#[108,101,116]⟩):=G
 have J:¬s.toList=[108,101,116]:=by
  rw[ByteArray.toList_eq];intro e;exact G (j8e.1 e)
 have L:(s.toList==[108,101,116])=false:=beq_false_of_ne J;have M:(⟨#[108,101,116]⟩:ByteArray).toList=[108,101,116]:=by rw[ByteArray.toList_eq]
 go_in;go_wp2
 go_loopw [3] (fun i wr=>wr=w/\∃k:Nat,k<=s.size/\i=.int .i64 k/\∀j(h:j<s.size),j<k->q2a s[j]=true) (fun i _=>s.size-(intOf i).toNat)
 case atStart=>exact⟨rfl,0,zero_le _,rfl,fun j _ hj=>by omega⟩
 case round=>
  obtain⟨rfl,k,R,rfl,B⟩:=hrel;have K:Hid (∀j(h:j<s.size),j<k->q2a s[j]=true):=B;by_cases I:k<s.size
  ·cases C:q2a s[k]with
   | false=>
    have A:Hid (q0o s=false):=k3k I C;have E:Hid (q2a s[k]=false):=C;go_wp2_with(go_at_call 41;refine(q6p _ _).mono ?_;rintro e O⟨rfl,rfl⟩;rw[E.o]);go_ret;exact⟨by rw[A.o];rfl,rfl⟩
   | true=>
    have E:Hid (q2a s[k]=true):=C
    have D:Hid (∀j(h:j<s.size),j<k+1->q2a s[j]=true):=fun j h hj=>by
     by_cases H:j=k
     ·subst H;exact C
     ·exact K.o j h (by omega)
    go_wp2_with(go_at_call 41;refine(q6p _ _).mono ?_;rintro e O⟨rfl,rfl⟩;rw[E.o])
    go_roundw
    case rel=>exact⟨by trivial,k+1,by omega,by go_num,D.o⟩
    case measure=>simp[intOf];omega
  ·have A:Hid (q0o s=true):=k3j (by omega) (by omega) N.o fun j h=>K.o j h (by omega)
   go_wp2;go_ret;exact⟨by rw[A.o];rfl,rfl⟩
theorem v2u(s:ByteArray)(i e:Nat)(h1:i<=e)(h2:e<=s.size)(W:World):(Instr.slice 9 (.string s) (some ↑(i:Int)) (some ↑((e:Nat):Int)) none).run prog W=.ok (.string (wbS (((btL s).drop i).take (e-i)))) W:=by
 have h:=run_slice_string (P:=prog) (w:=W) 9 s .i64 .i64 (i:Int) (e:Int) Tryz.underlying9 (by omega) (by omega) (by omega);rw[Int.toNat_natCast,Int.toNat_natCast,z0f]at h;exact h
structure g0v(s:ByteArray)(w:World)(fr i:Nat)(dn:List (List UInt8))(A:Option Addr)(c:Nat)(wr:World):Prop where
 b:Below w w wr
 le:fr<=i
 li:i<=s.size
 ln:dn.length<=fr
 no:∀j(h:j<s.size),fr<=j->j<i->s[j]≠32
 eq:q4x (btL s)=dn++q4x ((btL s).drop fr)
 ro:wr.ownsRow w.heap.size 9 1 (.slice A dn.length c) dn.length (strCells (dn.map wbS))
theorem k9k{s:ByteArray}{fr i:Nat}(h:fr<=i)(hi:i<=s.size)(no:∀j(h:j<s.size),fr<=j->j<i->s[j]≠32):∀b∈((btL s).drop fr).take (i-fr),b≠32:=by
 intro b A;obtain⟨j,B,rfl⟩:=List.getElem_of_mem A;rw[List.length_take,length_drop,q0c]at B;rw[List.getElem_take,List.getElem_drop];exact no (fr+j) (by omega) (by omega) (by omega)
theorem v7d{s:ByteArray}{fr i:Nat}(h:fr<=i)(hi:i<s.size):(btL s).drop fr=((btL s).drop fr).take (i-fr)++s[i]::(btL s).drop (i+1):=by
 have A:=(List.take_append_drop (i-fr) ((btL s).drop fr)).symm;rw[List.drop_drop,show fr+(i-fr)=i by omega,q1i hi]at A;exact A
theorem v0l{s:ByteArray}{fr:Nat}:((btL s).drop fr).take (s.size-fr)=(btL s).drop fr:=by
 rw[List.take_of_length_le (by rw[length_drop,q0c];exact le_refl _)]
theorem q4d(s:ByteArray)(w:World)(Aa:s.size<=1000000000000):Calls prog 23 #[.string s] w fun e w'=>(∃A c,e=.returned (.slice A (q0d (btL s)).length c)/\q2i w (.slice A (q0d (btL s)).length c) ((q0d (btL s)).map wbS) w')/\Below w w w':=by
 by_cases l:s.size=0
 ·have o:Hid (q0d (btL s)=[]):=by
   show q0d (btL s)=[];rw[q0d,if_pos (List.eq_nil_of_length_eq_zero (by rw[q0c];exact l))]
  have q:((s.size:Int)==0)=true:=beq_iff_eq.2 (by omega);clear l;go_in;go_wp2;go_ret;rw[o.o];exact⟨⟨none,0,rfl,World.ownsRow_nil _ _ _ _⟩,Below.refl _ _⟩
 ·have o:Hid (q0d (btL s)=q4x (btL s)):=by
   show q0d (btL s)=_;rw[q0d,if_neg];intro e
   have:=congrArg length e
   rw[q0c,length_nil]at this;exact l this
  have q:((s.size:Int)==0)=false:=beq_false_of_ne (by omega);clear l;obtain⟨i0,X,a,d,g⟩:=info_parts z1l;go_in;go_wp2
  go_loopw [3,4,5] (fun x f i wr=>∃(E k:Nat)(H:List (List UInt8))(A:Option Addr)(c:Nat),x=.slice A H.length c/\f=(E:Int)/\i=(k:Int)/\g0v s w E k H A c wr) (fun _ _ i _=>s.size-(intOf i).toNat)
  case atStart=>exact⟨0,0,[],none,0,rfl,rfl,rfl,{b:=Below.refl _ _,le:=le_refl _,li:=zero_le _,ln:=le_refl _,no:=fun j _ _ h=>by omega,eq:=rfl,ro:=World.ownsRow_nil _ _ _ _}⟩
  case round=>
   obtain⟨E,k,H,A,c,rfl,rfl,rfl,R⟩:=hrel;have G:Hid (g0v s w E k H A c wr):=R;have L:=R.le;have N:=R.li;have y:=R.ln;have Y:=R.b.size;clear R;by_cases O:k<s.size
   ·have v:(k:Int)<(s.size:Int):=by omega
    cases S:(s[k]==32)with
    | true=>
     have r:((s[k].toNat:Int)==32)=true:=by rw[show(32:Int)=((32:Nat):Int)from rfl,q6f _ 32 (by decide)];exact S
     have Q:=v2u s E k L N
     have I:Hid (q4x (btL s)=(H++[((btL s).drop E).take (k-E)])++q4x ((btL s).drop (k+1))):=by
      show _=_;have M:=v7d L O;rw[beq_iff_eq.1 S]at M;rw[G.o.eq,List.append_assoc]
      congr 1
      conv=>lhs;rw[M]
      rw[j0c _ _ (k9k L N G.o.no)];rfl
     generalize((btL s).drop E).take (k-E)=W at Q I
     clear S;go_wp2_with(at_builtin;refine wpList_append_lies _ rfl _ _ 51 rfl w.heap.size 9 i0 _ 1 16 Tryz.underlying51 X a d g rfl (by decide) _ _ _ rfl (World.ownsRow.alloc G.o.ro _) wr.heap.size 1 1 [.string (wbS W)] rfl rfl (cell_one_new wr _ _) (by intro u Z;simp at Z;subst Z;rfl) (by decide) (by unfold maxLen;omega) (by omega) (by simp;omega) (wr.heap.size+1) (by simp) ?_);intro U D m C B J K
     have p:Hid (g0v s w (k+1) (k+1) (H++[W]) U D m):=by
      refine{b:=(G.o.b.alloc Y (.cells #[.string (wbS W)] 9)).grown B (by simp;omega) (fun j hj=>(World.ownsRow.lt G.o.ro j hj).1),le:=le_refl _,li:=O,ln:=by simp;omega,no:=fun j _ _ h=>by omega,eq:=I.o,ro:=?_};rw[length_append,List.map_append,q2f];exact C
     clear C B J K;go_wp2
     go_roundw
     case rel=>exact⟨k+1,k+1,H++[W],some ↑U,D,by rw[length_append];rfl,by go_num,by go_num,p.o⟩
     case measure=>simp[intOf];omega
    | false=>
     have r:((s[k].toNat:Int)==32)=false:=by rw[show(32:Int)=((32:Nat):Int)from rfl,q6f _ 32 (by decide)];exact S
     have p:Hid (g0v s w E (k+1) H A c wr):=by
      refine{b:=G.o.b,le:=by omega,li:=O,ln:=y,no:=fun j h M h2=>?_,eq:=G.o.eq,ro:=G.o.ro};by_cases t:j=k
      ·subst t;simpa using S
      ·exact G.o.no j h M (by omega)
     clear S;go_wp2
     go_roundw
     case rel=>exact⟨E,k+1,H,A,c,rfl,rfl,by go_num,p.o⟩
     case measure=>simp[intOf];omega
   ·obtain rfl:k=s.size:=by omega
    have v:¬(s.size:Int)<(s.size:Int):=by omega
    have Q:∀W:World,(Instr.slice 9 (.string s) (some ↑(E:Int)) none none).run prog W=.ok (.string (wbS ((btL s).drop E))) W:=fun W=>by
     have h:=run_slice_string_l (P:=prog) W 9 s Tryz.underlying9 .i64 (E:Int) (by omega) (by omega);rw[Int.toNat_natCast,z0f,v0l]at h;exact h
    have I:Hid (q0d (btL s)=H++[(btL s).drop E]):=by
     show _=_;rw[o.o,G.o.eq,j0d];have M:=k9k L N G.o.no;rw[v0l]at M;exact M
    generalize(btL s).drop E=W at Q I
    go_wp2_with(at_builtin;refine wpList_append_lies _ rfl _ _ 51 rfl w.heap.size 9 i0 _ 1 16 Tryz.underlying51 X a d g rfl (by decide) _ _ _ rfl (World.ownsRow.alloc G.o.ro _) wr.heap.size 1 1 [.string (wbS W)] rfl rfl (cell_one_new wr _ _) (by intro u Z;simp at Z;subst Z;rfl) (by decide) (by unfold maxLen;omega) (by omega) (by simp;omega) (wr.heap.size+1) (by simp) ?_);intro U D m C B J K;have V:=(G.o.b.alloc Y (.cells #[.string (wbS W)] 9)).grown B (by simp;omega) (fun j hj=>(World.ownsRow.lt G.o.ro j hj).1)
    have z:q2i w (.slice U (H.length+1) D) ((H++[W]).map wbS) m:=by
     show m.ownsRow _ _ _ _ _ _;rw[length_map,length_append,List.map_append,q2f];exact C
    have HO:=hid z;have n:=hid V;clear C B J K z V;go_wp2;go_ret;rw[I.o,length_append];exact⟨⟨some ↑U,D,rfl,HO.o⟩,n.o⟩
theorem y5y{w:Wd}(h:q3l w)(hn:z0d w=true):(∀b∈w,q1x b=true)/\w.length<=6:=by
 obtain⟨c,r,rfl,_,K,J,_⟩:=h;have E:q1x c=true:=hn;have B:q2a c=false:=z9h E;simp only[q4y,B,E,if_true,Bool.false_eq_true,if_false,Bool.and_eq_true,decide_eq_true_eq]at K;simp only[q0x,B,E,if_true,Bool.false_eq_true,if_false,length_cons]at J
 have C:r.takeWhile q1x=r:=by
  have I:=z5y (p:=q1x) r;rw[show(r.takeWhile q1x).length=r.length by omega,List.take_length]at I;exact I.symm
 refine⟨fun b D=>?_,by simp only[length_cons];omega⟩;rcases List.mem_cons.1 D with rfl|D
 ·exact E
 ·rw[<-C]at D
  have H:∀(l:List UInt8)x,x∈l.takeWhile q1x->q1x x=true:=by
   intro l
   induction l with
   | nil=>intro x A;cases A
   | cons a l ih=>
    intro x A;rw[List.takeWhile_cons]at A;by_cases G:q1x a=true
    ·rw[if_pos G]at A;rcases List.mem_cons.1 A with rfl|A
     ·exact G
     ·exact ih x A
    ·rw[if_neg G]at A;cases A
  exact H r b D
theorem j3s{w:Wd}{S:ByteArray}(h:wbS w=S)(h0:w≠[]):0<S.size/\∀h1:0<S.size,q1x S[0]=z0d w:=by
 subst h;cases w with
 | nil=>exact absurd rfl h0
 | cons c r=>exact⟨by rw[<-q0c];show 0<(c::r).length;simp,fun _=>rfl⟩
theorem j3d{b:Nat}{A:Option Addr}{c:Nat}{ws:List Wd}{p:Nat}(hp:p<=ws.length)(he:ws.length<=p):v4g b A c ws p:=by
 intro w h;have D:=hid h;obtain⟨I,J,K,B,_,_⟩:=h;have L:w.frozen? (b,2)=false:=B.frozen;have H:(ws.length:Int)<=(p:Int):=by omega
 have C:Hid (p=ws.length):=(show p=ws.length by omega);clear B he;show Calls _ _ _ _ _;go_in;go_wp2_with fail
 go_quiet (fail)
 go_wp2;go_ret;have G:ws.drop p=[]:=List.drop_eq_nil_of_le (by rw[C.o];exact le_refl _);refine⟨.bad [],[],none,0,rfl,by rw[G];exact .sinN,q1b.nil _ _,by simp[Rs.rest],(fun _ _ _ e=>by cases e),?_,?_⟩
 ·have E:ws.length-(Rs.bad []).rest.length=p:=by rw[C.o];rfl
  rw[E];exact(D.o.keep (q0f (Below.refl _ w) _)).setBad true
 ·exact(But.of (q0f (Below.refl _ w) _)).setCell (p:=(b,2)) (.inl rfl) _
theorem v0z{b:Nat}{A:Option Addr}{c:Nat}{ws:List Wd}{p:Nat}{w w1 w4 w5:World}{r:Rs}{ns:List Td}{v:Value}(hd:ws.drop p=[40]::ws.drop (p+1))(Q:p<ws.length)(H:b<w.heap.size)(b1:But w b w w1)(hG:Got b A c ws (.level 0) (p+1) w1 r ns v w4)
  (hR:Rd w5 b A c ws (q1q ws (ws.length-r.rest.length) r.isBad [41]) (q0y ws (ws.length-r.rest.length) r.isBad [41])) (b5:But w4 b w4 w5):∃r',Got b A c ws .single p w r' ns v w5:=by
 have K:=q5o hG.pr;have N:=z5o K.1;have L:=hG.n;rw[q0m (by omega)]at L;have G:=b1.size;have R:=hG.bt.size;have J:=(hG.o.down G).but b5 H;have B:=(b1.trans (hG.bt.mono G)).trans (b5.mono (by omega));have C:(ws.drop p).length=ws.length-p:=q0m (by omega);cases r with
 | bad u=>
  simp only[Rs.rest,Rs.isBad,q1q,q0y,Bool.not_true,Bool.false_and,Bool.false_eq_true,if_false,Bool.not_false]at *;exact⟨.bad u,by rw[hd];exact .sPB hG.pr,J,by rw[C];simp only[Rs.rest];omega,(fun _ _ _ e=>by cases e),hR,B⟩
 | ok m ms u=>
  have O:=hG.e m ms u rfl;subst O;simp only[Rs.rest,Rs.isBad]at *;have P:ws[ws.length-u.length]?=u.head?:=by rw[<-q5l,N]
  unfold q1q q0y at hR;rw[P]at hR;cases E:(!false&&(u.head?==some ([41]:Wd)))with
  | true=>
   rw[E]at hR;simp only[if_true,Bool.not_true]at hR
   obtain⟨D,rfl⟩:∃D,u=[41]::D:=by
    cases u with
    | nil=>simp at E
    | cons a D=>
     have:a=[41]:=by simpa using E
     exact⟨D,by rw[this]⟩
   simp only[length_cons]at L hR;have M:ws.length-(D.length+1)+1=ws.length-D.length:=by omega
   rw[M]at hR;exact⟨.ok 0 ms D,by rw[hd];exact .sPC hG.pr,J,by rw[C];simp only[Rs.rest];omega,(fun _ _ _ e=>by cases e;rfl),hR,B⟩
  | false=>
   rw[E]at hR;simp only[Bool.false_eq_true,if_false,Bool.not_false]at hR
   have I:u.head?≠some [41]:=fun e=>by
    rw[e]at E;exact absurd E (by decide)
   exact⟨.bad u,by rw[hd];exact .sPX hG.pr I,J,by rw[C];simp only[Rs.rest];omega,(fun _ _ _ e=>by cases e),hR,B⟩
theorem k8z{b:Nat}{A:Option Addr}{c:Nat}{ws:List Wd}{p q:Nat}{e:Wd}{w w1 w4 w5:World}{r:Rs}{n:Nat}{ns:List Td}{v v5:Value}{x:Td}(K:p<q)(hq:q<=ws.length)(E:b<w.heap.size)(b1:But w b w w1)(hG:g0q b A c ws e q w1 r n ns v w4)
  (hB:∀u,PR (.args e 0 []) (ws.drop q) (.bad u)->PR .single (ws.drop p) (.bad u)) (hO:∀u,PR (.args e 0 []) (ws.drop q) (.ok n ns u)->PR .single (ws.drop p) (.ok 0 (x::ns) u))
  (b5:Below w w4 w5) (ho:q1b w v5 ([x]++ns) w5):∃r',Got b A c ws .single p w r' (x::ns) v5 w5:=by
 have L:=q5o hG.pr;have J:=hG.nl;rw[q0m hq]at J;have G:=b1.size;have D:=hG.rd.keepB b5 E;have B:But w b w w5:=(b1.trans (hG.bt.mono G)).trans (But.of b5);have C:(ws.drop p).length=ws.length-p:=q0m (by omega);cases r with
 | bad u=>
  simp only[Rs.rest,Rs.isBad]at *;exact⟨.bad u,hB u hG.pr,ho,by rw[C];simp only[Rs.rest,length_cons];omega,(fun _ _ _ e=>by cases e),D,B⟩
 | ok m ms u=>
  obtain⟨H,I⟩:=hG.ev m ms u rfl;subst H I;simp only[Rs.rest,Rs.isBad]at *;exact⟨.ok 0 (x::ms) u,hO u hG.pr,ho,by rw[C];simp only[Rs.rest,length_cons];omega,(fun _ _ _ e=>by cases e;rfl),D,B⟩
theorem v1s{b:Nat}{A:Option Addr}{c:Nat}{ws:List Wd}{p:Nat}(hl:ws.length<=60000)(H:p<ws.length)(I:ws[p]≠[])(h1:ws[p]≠[40])(h2:ws[p]≠[91])(h3:z0d ws[p]=false)(h4:nmW ws[p]=false):v4g b A c ws p:=by
 intro w h;have Z:=hid h;have f:b<w.heap.size:=h.row.lt;have o:w.frozen? (b,1)=false:=h.row.frozen;have q:w.frozen? (b,2)=false:=h.row.frozen;obtain⟨l,m,n,_,R,_⟩:=h;have g:¬(ws.length:Int)<=(p:Int):=by omega
 have Q:(p:Int)<(ws.length:Int):=by omega
 have K:Hid (ws.drop p=ws[p]::ws.drop (p+1)):=drop_eq_getElem_cons H;obtain⟨k,r,rfl,d,P⟩:=R p (by rw[length_map];exact H);rw[getElem_map]at P;have D:Hid (q0o (wbS ws[p])=nmW ws[p]):=(show q0o (wbS ws[p])=nmW ws[p]from rfl);have B:((wbS ws[p]).toList==[40])=(ws[p]==[40]):=by rw[Lib.toList_data];rfl
 have C:((wbS ws[p]).toList==[91])=(ws[p]==[91]):=by rw[Lib.toList_data];rfl
 generalize M:wbS ws[p]=X at P D B C;obtain⟨O,J⟩:=j3s M I;have j:Hid (wbS ws[p]=X):=M;have S:(0:Int)<(X.size:Int):=by omega
 have E:Hid (∀W:World,Cw 42 #[.int .u8 (X[0].toNat:Int)] W (.bool (z0d ws[p]))):=fun W=>by
  have:=q2g X[0] W
  rw[J O]at this;exact this
 have G:Hid (∀W:World,Cw 25 #[.string X] W (.bool (nmW ws[p]))):=fun W=>by
  have:=q1g X W
  rw[D.o]at this;exact this
 have Y:Hid (∀q',Below w w (w.drewN q')):=fun q'=>q0f (Below.refl _ w) q'
 have U:(ws[p]==[40])=false:=by simpa using h1
 have V:(ws[p]==[91])=false:=by simpa using h2
 rw[U]at B;rw[V]at C;rw[h3]at E;rw[h4]at G
 have L:Hid (PR .single (ws.drop p) (.bad (ws.drop p))):=by
  show PR _ _ _;rw[K.o];exact .sBad h1 h2 h3 h4
 clear h1 h2 h3 h4 U V;clear M J I R D;show Calls _ _ _ _ _;go_in;go_wp2_with fail
 go_quiet (fail)
 go_wp2_with fail
 go_quiet (fail)
 go_wp2_with fail;refine(G.o _).mono ?_;rintro e i⟨rfl,rfl⟩;go_wp2_with fail;refine(E.o _).mono ?_;rintro e i⟨rfl,rfl⟩;go_wp2;go_ret;have N:(ws.drop p).length=ws.length-p:=q0m (by omega);have a:ws.length-(Rs.bad (ws.drop p)).rest.length=p:=by simp only[Rs.rest,N];omega
 refine⟨.bad (ws.drop p),[],none,0,rfl,L.o,q1b.nil _ _,by simp[Rs.rest],(fun _ _ _ e=>by cases e),?_,?_⟩
 ·rw[a];exact(Z.o.keep (q0f (Below.refl _ w) _)).setBad true
 ·exact(But.of (q0f (Below.refl _ w) _)).setCell (p:=(b,2)) (.inl rfl) _
theorem j3g{b:Nat}{A:Option Addr}{c:Nat}{ws:List Wd}{p:Nat}(hl:ws.length<=60000)(E:p<ws.length)(N:ws[p]≠[])(h1:ws[p]=[40])(hL:k4x b A c ws 0 (p+1)):v4g b A c ws p:=by
 intro w h;have x:=hid h;have f:b<w.heap.size:=h.row.lt;have f1:w.frozen? (b,1)=false:=h.row.frozen;have f2:w.frozen? (b,2)=false:=h.row.frozen;obtain⟨c0,c1,c2,_,q,_⟩:=h;have Ac:¬(ws.length:Int)<=(p:Int):=by omega
 have o:(p:Int)<(ws.length:Int):=by omega
 have H:Hid (ws.drop p=ws[p]::ws.drop (p+1)):=drop_eq_getElem_cons E;obtain⟨a,i,rfl,Ab,j⟩:=q p (by rw[length_map];exact E);rw[getElem_map]at j;have D:Hid (q0o (wbS ws[p])=nmW ws[p]):=(show q0o (wbS ws[p])=nmW ws[p]from rfl);have C:((wbS ws[p]).toList==[40])=(ws[p]==[40]):=by rw[Lib.toList_data];rfl
 have P:((wbS ws[p]).toList==[91])=(ws[p]==[91]):=by rw[Lib.toList_data];rfl
 generalize d:wbS ws[p]=X at j D C P;obtain⟨g,Q⟩:=j3s d N;have HX:Hid (wbS ws[p]=X):=d;have r:(0:Int)<(X.size:Int):=by omega
 have I:Hid (∀W:World,Cw 42 #[.int .u8 (X[0].toNat:Int)] W (.bool (z0d ws[p]))):=fun W=>by
  have:=q2g X[0] W
  rw[Q g]at this;exact this
 have K:Hid (∀W:World,Cw 25 #[.string X] W (.bool (nmW ws[p]))):=fun W=>by
  have:=q1g X W
  rw[D.o]at this;exact this
 have u:Hid (∀q',Below w w (w.drewN q')):=fun q'=>q0f (Below.refl _ w) q'
 have s:(ws[p]==[40])=true:=by rw[h1];rfl
 rw[s]at C;have l:z0d ws[p]=false:=by rw[h1];rfl
 have m:nmW ws[p]=false:=by rw[h1];exact k6k
 rw[l]at I;rw[m]at K;rw[h1]at H;have z:=(show Hid (k4x b (some ↑(a,i)) c ws 0 (p+1))from hL)
 have Y:Hid (∀q',Rd ((w.drewN q').setCell ↑(b,1) ↑((p:Int)+1)) b (some ↑(a,i)) c ws (p+1) false):=fun q'=>by
  have k:=(x.o.keep (q0f (Below.refl _ w) q')).setAt (p+1);rw[show((p+1:Nat):Int)=(p:Int)+1 by omega]at k;exact k
 have U:Hid (∀q',But w b w ((w.drewN q').setCell ↑(b,1) ↑((p:Int)+1))):=fun q'=>(But.of (q0f (Below.refl _ w) q')).setCell (p:=↑(b,1)) (.inl rfl) _
 clear h1 l m s hL;clear d Q N q D;show Calls _ _ _ _ _;go_in;go_wp2_with fail
 go_quiet (fail)
 go_wp2_with fail
 go_quiet (fail)
 go_wp2_with fail;refine(K.o _).mono ?_;rintro e w1⟨rfl,rfl⟩;go_wp2_with fail;refine(I.o _).mono ?_;rintro e w1⟨rfl,rfl⟩;go_wp2_with fail;refine(z.o _ (Y.o _)).mono ?_;rintro e S⟨R,G,t,c4,rfl,B⟩;have J:=hid B;have Aa:b<S.heap.size:=B.rd.row.lt;have Z:Hid (Cp 26 #[.pointer b,.string ⟨#[41]⟩] S fun e w'=>(∃v,e=.returned v)/\Rd w' b (some ↑(a,i)) c ws (q1q ws (ws.length-R.rest.length) R.isBad [41]) (q0y ws (ws.length-R.rest.length) R.isBad [41])/\But S b S w'):=q8i B.rd hl (by omega) [41];generalize O:G.length=n4;have V:Hid (G.length=n4):=O;clear B O;go_wp2_with fail;refine Z.o.mono ?_;rintro e w5⟨⟨vv,rfl⟩,L,M⟩;obtain⟨r',n⟩:=v0z H.o E f (U.o _) J.o L M;have y:=hid n;clear L M n J;go_wp2;go_ret;exact⟨r',G,t,c4,by rw[V.o];rfl,y.o⟩
theorem j3e{b:Nat}{A:Option Addr}{c:Nat}{ws:List Wd}{p:Nat}(hl:ws.length<=60000)(d:p<ws.length)(g:ws[p]≠[])(h1:ws[p]=[91])(hL:g0s b A c ws [93] (p+1)):v4g b A c ws p:=by
 intro w h;have HD:=hid h;have Ab:b<w.heap.size:=h.row.lt;have f1:w.frozen? (b,1)=false:=h.row.frozen;have f2:w.frozen? ↑(b,2)=false:=h.row.frozen;obtain⟨c0,c1,c2,_,hw,_⟩:=h;have Ak:¬(ws.length:Int)<=(p:Int):=by omega
 have Af:(p:Int)<(ws.length:Int):=by omega
 have J:Hid (ws.drop p=ws[p]::ws.drop (p+1)):=drop_eq_getElem_cons d;obtain⟨ba,oa,rfl,Ai,d0⟩:=hw p (by rw[length_map];exact d);rw[getElem_map]at d0;have K:Hid (q0o (wbS ws[p])=nmW ws[p]):=(show q0o (wbS ws[p])=nmW ws[p]from rfl);have G:((wbS ws[p]).toList==[40])=(ws[p]==[40]):=by rw[Lib.toList_data];rfl
 have H:((wbS ws[p]).toList==[91])=(ws[p]==[91]):=by rw[Lib.toList_data];rfl
 generalize hX:wbS ws[p]=X at d0 K G H;obtain⟨Ae,i⟩:=j3s hX g;have HX:Hid (wbS ws[p]=X):=hX;have Ag:(0:Int)<(X.size:Int):=by omega
 have Q:Hid (∀W:World,Cp 42 #[.int .u8 (X[0].toNat:Int)] W fun e M=>e=.returned (.bool (z0d ws[p]))/\W=M):=fun W=>by
  have:=q2g X[0] W
  rw[i Ae]at this;exact this
 have S:Hid (∀W:World,Cp 25 #[.string X] W fun e M=>e=.returned (.bool (nmW ws[p]))/\W=M):=fun W=>by
  have:=q1g X W
  rw[K.o]at this;exact this
 have Ah:Hid (∀q',Below w w (w.drewN q')):=fun q'=>q0f (Below.refl _ w) q'
 have k1:(ws[p]==[40])=false:=by rw[h1];rfl
 have k2:(ws[p]==[91])=true:=by rw[h1];rfl
 rw[k1]at G;rw[k2]at H;have Y:z0d ws[p]=false:=by rw[h1];rfl
 have h4:nmW ws[p]=false:=by rw[h1];exact k6l
 rw[Y]at Q;rw[h4]at S;rw[h1]at J
 have U:Hid (∀q',Rd ((w.drewN q').setCell ↑(b,1) ↑((p:Int)+1)) b (some ↑(ba,oa)) c ws (p+1) false):=fun q'=>by
  have s:=(HD.o.keep (q0f (Below.refl _ w) q')).setAt (p+1);rw[show((p+1:Nat):Int)=(p:Int)+1 by omega]at s;exact s
 have O:Hid (∀q',But w b w ((w.drewN q').setCell ↑(b,1) ↑((p:Int)+1))):=fun q'=>(But.of (q0f (Below.refl _ w) q')).setCell (p:=↑(b,1)) (.inl rfl) _
 have HL:Hid (∀q',Cp 71 #[.pointer ↑b,.string ⟨#[93]⟩] ((w.drewN q').setCell ↑(b,1) ↑((p:Int)+1)) fun ev M=>∃k r n j l m,ev=.returned (.tuple #[↑((n:Nat):Int),.slice l j.length m])/\But w b w k/\g0q b (some ↑(ba,oa)) c ws [93] (p+1) k r n j (.slice l j.length m) M):=fun q'=>by
  refine(hL _ (U.o q')).mono ?_;rintro e M⟨r,n,j,l,m,h1,s⟩;exact⟨_,r,n,j,l,m,h1,O.o q',s⟩
 clear h1 Y h4 k1 k2 hL U O;clear hX i g hw K;show Calls _ _ _ _ _;go_in;go_wp2_with fail
 go_quiet (fail)
 go_wp2_with fail
 go_quiet (fail)
 go_wp2_with fail;refine(S.o _).mono ?_;rintro e k⟨rfl,rfl⟩;go_wp2_with fail;refine(Q.o _).mono ?_;rintro e k⟨rfl,rfl⟩;go_wp2_with fail;refine(HL.o _).mono ?_;rintro e N⟨k,r4,n,D,t,c4,rfl,Z,B⟩;have y:=hid B;have f:=B.nl;rw[q0m (by omega)]at f;have Aj:=B.le;have Ac:=Z.size;have Ad:=B.bt.size;have Aa:Hid (Tds N t D):=B.o.tds;generalize L:D.length=n4 at f;have R:Hid (D.length=n4):=L
 have z:Hid (t=none->n4=0/\c4=0):=by
  have Y:=B.o.none;rw[L]at Y;exact Y.2
 have I:w.heap.size<=N.heap.size:=by omega
 have V:Hid (q1b w (.slice N.heap.size 1 1) [lsT n] (N.alloc (.cells #[.int .i64 4,.string ⟨#[]⟩,(n:Int)] 71))):=(q1b.one N (lsT n)).down I;have v:=hid Z;clear B L Ac Ad;go_wp2_with(at_builtin;refine q4l rfl _ _ rfl w.heap.size _ [lsT n] rfl V.o t n4 D R.o c4 rfl (Aa.o.alloc _) z.o (1+n4) rfl (by omega) (by rw[World.size_alloc];omega) ?_);intro A5 c5 w5 E C;have a:Below w N w5:=(Zb.alloc I _).grown C (by rw[World.size_alloc];omega) (fun k' hk=>(World.ownsRow.lt V.o k' hk).1);obtain⟨r',hG⟩:=k8z (ws:=ws) (p:=p) (q:=p+1) (x:=lsT n) (by omega) (by omega) Ab v.o y.o (fun u hu=>by rw[J.o];exact .sLB hu) (fun u hu=>by rw[J.o];exact .sLO hu) a E;have HG:=hid hG
 have P:Hid ((lsT n::D).length=1+n4):=by
  show _=_;rw[length_cons,R.o];omega
 clear E C a hG;go_wp2;go_ret;exact⟨r',lsT n::D,A5,c5,by rw[P.o];rfl,by rw[P.o];exact HG.o⟩
theorem v0j{w:Wd}{S:ByteArray}(h:wbS w=S)(hf:∀b∈w,q1x b=true)(hl:w.length<=6):∃N:Nat->Nat,N 0=0/\N S.size=z6i w/\∀k(h:k<S.size),N (k+1)=N k*10+(S[k].toNat-48)/\48<=S[k].toNat/\S[k].toNat<=57/\N k<=1000000:=by
 subst h;have H:(wbS w).size=w.length:=rfl
 have B:∀k(h:k<w.length),z6i (w.take (k+1))=z6i (w.take k)*10+(w[k].toNat-48):=by
  intro k h;rw[List.take_succ_eq_append_getElem h];unfold z6i;rw[List.foldl_append];rfl
 have A:∀k(h:k<w.length),48<=w[k].toNat/\w[k].toNat<=57:=by
  intro k h;have D:=hf w[k] (List.getElem_mem h);unfold q1x at D;simpa using D
 have G:∀k,k<=w.length->z6i (w.take k)+1<=10 ^ k:=by
  intro k
  induction k with
  | zero=>intro _;simp[z6i]
  | succ k ih=>
   intro E;have D:=ih (by omega);have I:=A k (by omega);rw[B k (by omega),Nat.pow_succ];omega
 refine⟨fun k=>z6i (w.take k),by simp[z6i],by show z6i (w.take w.length)=_;rw[List.take_length],fun k E=>?_⟩;have C:=E;have J:=G k (by omega);have K:10 ^ k<=10 ^ 6:=Nat.pow_le_pow_right (by omega) (by omega);exact⟨B k C,(A k C).1,(A k C).2,by show z6i (w.take k)<=1000000;omega⟩
theorem j8z{w:Wd}(h:nmW w=true):w≠[40]/\w≠[91]/\z0d w=false:=by
 refine⟨fun e=>?_,fun e=>?_,?_⟩
 ·rw[e,k6k]at h;cases h
 ·rw[e,k6l]at h;cases h
 ·cases A:z0d w with
  | false=>rfl
  | true=>rw[q3h A]at h;cases h
theorem y8s{w:Wd}(h:z0d w=true):w≠[40]/\w≠[91]/\nmW w=false:=by
 refine⟨fun e=>?_,fun e=>?_,q3h h⟩
 ·rw[e,y1g]at h;cases h
 ·rw[e,y1h]at h;cases h
theorem v0r{b:Nat}{A:Option Addr}{c:Nat}{ws:List Wd}{p:Nat}{w w1:World}{x:Td}(H:p<ws.length)(C:b<w.heap.size)(hR:Rd w1 b A c ws (p+1) false)(hB:But w b w w1)(hp:PR .single (ws.drop p) (.ok 0 [x] (ws.drop (p+1)))):
  Got b A c ws .single p w (.ok 0 [x] (ws.drop (p+1))) [x] (.slice w1.heap.size 1 1) (w1.alloc (.cells #[x.op,.string x.tx,x.n] 71)):=by
 have E:=hB.size;have D:(ws.drop p).length=ws.length-p:=q0m (by omega);have B:(ws.drop (p+1)).length=ws.length-(p+1):=q0m (by omega);have G:ws.length-(Rs.ok 0 [x] (ws.drop (p+1))).rest.length=p+1:=by simp only[Rs.rest,B];omega
 refine⟨hp,(q1b.one w1 x).down E,by rw[D];simp only[Rs.rest,B,length_cons,length_nil];omega,(fun _ _ _ e=>by cases e;rfl),?_,?_⟩
 ·rw[G];exact hR.keepB (Zb.alloc E _) C
 ·exact hB.alloc E _
theorem j3f{b:Nat}{A:Option Addr}{c:Nat}{ws:List Wd}{p:Nat}(hl:ws.length<=60000)(H:p<ws.length)(Q:ws[p]≠[])(hn:z0d ws[p]=true)(ht:q3l ws[p]):v4g b A c ws p:=by
 intro w h;have HD:=hid h;have g:b<w.heap.size:=h.row.lt;have f1:w.frozen? (b,1)=false:=h.row.frozen;have f2:w.frozen? ↑(b,2)=false:=h.row.frozen;obtain⟨c0,c1,c2,_,v,_⟩:=h;have Ad:¬(ws.length:Int)<=(p:Int):=by omega
 have u:(p:Int)<(ws.length:Int):=by omega
 have U:Hid (ws.drop p=ws[p]::ws.drop (p+1)):=drop_eq_getElem_cons H;obtain⟨ba,oa,rfl,Ac,q⟩:=v p (by rw[length_map];exact H);rw[getElem_map]at q;have G:Hid (q0o (wbS ws[p])=nmW ws[p]):=(show q0o (wbS ws[p])=nmW ws[p]from rfl);have D:((wbS ws[p]).toList==[40])=(ws[p]==[40]):=by rw[Lib.toList_data];rfl
 have E:((wbS ws[p]).toList==[91])=(ws[p]==[91]):=by rw[Lib.toList_data];rfl
 generalize P:wbS ws[p]=X at q G D E;obtain⟨o,R⟩:=j3s P Q;have HX:Hid (wbS ws[p]=X):=P;have x:(0:Int)<(X.size:Int):=by omega
 have J:Hid (∀W:World,Cw 42 #[.int .u8 (X[0].toNat:Int)] W (.bool (z0d ws[p]))):=fun W=>by
  have:=q2g X[0] W
  rw[R o]at this;exact this
 have K:Hid (∀W:World,Cw 25 #[.string X] W (.bool (nmW ws[p]))):=fun W=>by
  have:=q1g X W
  rw[G.o]at this;exact this
 have Aa:Hid (∀B,Below w w (w.drewN B)):=fun B=>q0f (Below.refl _ w) B
 obtain⟨s,L,t⟩:=y8s hn;have y:(ws[p]==[40])=false:=by simpa using s
 have z:(ws[p]==[91])=false:=by simpa using L
 rw[y]at D;rw[z]at E;rw[hn]at J;rw[t]at K;have C:=y5y ht hn;obtain⟨N,f,O,M⟩:=v0j P C.1 C.2;have Y:Hid (N X.size=z6i ws[p]):=O;have V:Hid (∀k(h:k<X.size),N (k+1)=N k*10+(X[k].toNat-48)/\48<=X[k].toNat/\X[k].toNat<=57/\N k<=1000000):=M
 have Z:Hid (PR .single (ws.drop p) (.ok 0 [y6n ws[p]] (ws.drop (p+1)))):=by
  show PR _ _ _;rw[U.o];exact .sNum hn
 have Ab:X.size<=6:=by rw[<-P];exact C.2
 have a:Hid (∀B,Rd ((w.drewN B).setCell ↑(b,1) ↑((p:Int)+1)) b (some ↑(ba,oa)) c ws (p+1) false):=fun B=>by
  have L:=(HD.o.keep (q0f (Below.refl _ w) B)).setAt (p+1);rw[show((p+1:Nat):Int)=(p:Int)+1 by omega]at L;exact L
 have S:Hid (∀B,But w b w ((w.drewN B).setCell ↑(b,1) ↑((p:Int)+1))):=fun B=>(But.of (q0f (Below.refl _ w) B)).setCell (p:=↑(b,1)) (.inl rfl) _
 clear s L t y z hn ht C O M;clear P R Q v G;show Calls _ _ _ _ _;go_in;go_wp2_with fail
 go_quiet (fail)
 go_wp2_with fail
 go_quiet (fail)
 go_wp2_with fail;refine(K.o _).mono ?_;rintro e w1⟨rfl,rfl⟩;go_wp2_with fail;refine(J.o _).mono ?_;rintro e w1⟨rfl,rfl⟩;go_wp2_with fail
 go_loopw [10,11] (fun n i wr=>∃k:Nat,k<=X.size/\i=↑(k:Int)/\n=↑(N k:Int)/\∃B,wr=(w.drewN B).setCell ↑(b,1) ↑((p:Int)+1)) (fun _ i _=>X.size-(intOf i).toNat)
 case atStart=>exact⟨0,zero_le _,rfl,by rw[f];rfl,_,rfl⟩
 case round=>
  obtain⟨k,hk,rfl,rfl,B,rfl⟩:=hrel;by_cases m:k<X.size
  ·have l:(k:Int)<(X.size:Int):=by omega
   obtain⟨r,e2,e3,e4⟩:=V.o k m;have I:Hid (N (k+1)=N k*10+(X[k].toNat-48)):=r;generalize Ae:X[k].toNat=xk at e2 e3 I;clear r;go_wp2
   go_roundw
   case rel=>
    refine⟨k+1,by omega,by go_num,?_,B,rfl⟩;rw[I.o]
    congr 1
    omega
   case measure=>simp[intOf];omega
  ·have l:¬(k:Int)<(X.size:Int):=by omega
   have j:k=X.size:=by omega
   subst j;rw[Y.o];have d:=v0r H g (a.o B) (S.o B) Z.o;rw[World.size_setCell]at d;have HG:=hid d;clear d;go_wp2;go_ret;exact⟨_,[y6n ws[p]],_,_,rfl,HG.o⟩
theorem k7d{b:Nat}{A:Option Addr}{c:Nat}{ws:List Wd}{p:Nat}(hl:ws.length<=60000)(G:p<ws.length)(P:ws[p]≠[])(hn:nmW ws[p]=true)(h5:(ws[p+1]?==some [40])=false):v4g b A c ws p:=by
 intro w h;have s:=hid h;have Y:b<w.heap.size:=h.row.lt;have f1:w.frozen? ↑(b,1)=false:=h.row.frozen;have f2:w.frozen? ↑(b,2)=false:=h.row.frozen;obtain⟨c0,c1,c2,_,k,_⟩:=h;have x:¬(ws.length:Int)<=(p:Int):=by omega
 have j:(p:Int)<(ws.length:Int):=by omega
 have R:Hid (ws.drop p=ws[p]::ws.drop (p+1)):=drop_eq_getElem_cons G;obtain⟨a,o,rfl,v,d⟩:=k p (by rw[length_map];exact G);rw[getElem_map]at d;have D:Hid (q0o (wbS ws[p])=nmW ws[p]):=(show q0o (wbS ws[p])=nmW ws[p]from rfl);have B:((wbS ws[p]).toList==[40])=(ws[p]==[40]):=by rw[Lib.toList_data];rfl
 have C:((wbS ws[p]).toList==[91])=(ws[p]==[91]):=by rw[Lib.toList_data];rfl
 generalize V:wbS ws[p]=X at d D B C;obtain⟨Z,Q⟩:=j3s V P;have u:Hid (wbS ws[p]=X):=V;have l:(0:Int)<(X.size:Int):=by omega
 have K:Hid (∀W:World,Cp 42 #[.int .u8 (X[0].toNat:Int)] W fun e H=>e=.returned (.bool (z0d ws[p]))/\W=H):=fun W=>by
  have:=q2g X[0] W
  rw[Q Z]at this;exact this
 have L:Hid (∀W:World,Cp 25 #[.string X] W fun e H=>e=.returned (.bool (nmW ws[p]))/\W=H):=fun W=>by
  have:=q1g X W
  rw[D.o]at this;exact this
 have r:Hid (∀q',Below w w (w.drewN q')):=fun q'=>q0f (Below.refl _ w) q'
 obtain⟨f,M,g⟩:=j8z hn;have m:(ws[p]==[40])=false:=by simpa using f
 have n:(ws[p]==[91])=false:=by simpa using M
 rw[m]at B;rw[n]at C;rw[g]at K;rw[hn]at L
 have U:Hid (PR .single (ws.drop p) (.ok 0 [nmT ws[p]] (ws.drop (p+1)))):=by
  show PR _ _ _;rw[R.o];refine .sName hn ?_;rw[q5l];intro e;rw[e]at h5;exact absurd h5 (by decide)
 have E:Hid (∀q',Rd ((w.drewN q').setCell ↑(b,1) ↑((p:Int)+1)) b (some ↑(a,o)) c ws (p+1) false):=fun q'=>by
  have M:=(s.o.keep (q0f (Below.refl _ w) q')).setAt (p+1);rw[show((p+1:Nat):Int)=(p:Int)+1 by omega]at M;exact M
 have J:Hid (∀q',But w b w ((w.drewN q').setCell ↑(b,1) ↑((p:Int)+1))):=fun q'=>(But.of (q0f (Below.refl _ w) q')).setCell (p:=↑(b,1)) (.inl rfl) _
 have S:Hid (∀q',Cp 24 #[.pointer ↑b,.string ⟨#[40]⟩] ((w.drewN q').setCell ↑(b,1) ↑((p:Int)+1)) fun e H=>e=.returned (.bool false)/\Rd H b (some ↑(a,o)) c ws (p+1) false/\But w b w H):=fun q'=>by
  have I:=z2v (E.o q') [40];rw[show(!false&&(ws[p+1]?==some [40]))=false from h5]at I;refine I.mono ?_;rintro e H⟨rfl,q,rfl⟩;exact⟨rfl,(E.o q').keep (q0f Zb q),(J.o q').trans (But.of (q0f Zb q))⟩
 clear f M g m n hn h5 E J;clear V Q P k D;show Calls _ _ _ _ _;go_in;go_wp2_with fail
 go_quiet (fail)
 go_wp2_with fail
 go_quiet (fail)
 go_wp2_with fail;refine(L.o _).mono ?_;rintro e y⟨rfl,rfl⟩;go_wp2_with fail;refine(K.o _).mono ?_;rintro e y⟨rfl,rfl⟩;go_wp2_with fail;refine(S.o _).mono ?_;rintro e z⟨rfl,O,N⟩;have i:=v0r G Y O N U.o;have t:=hid i;clear i O N;go_wp2;go_ret;refine⟨.ok 0 [nmT ws[p]] (ws.drop (p+1)),[nmT ws[p]],some ↑z.heap.size,1,rfl,?_⟩;have I:=t.o;unfold nmT at I⊢;simp only[u.o]at I⊢;exact I
theorem k7c{b:Nat}{A:Option Addr}{c:Nat}{ws:List Wd}{p:Nat}(hl:ws.length<=60000)(k:p<ws.length)(m:ws[p]≠[])(hn:nmW ws[p]=true)(h5:(ws[p+1]?==some [40])=true)(hL:g0s b A c ws [41] (p+2)):v4g b A c ws p:=by
 intro w h;have HD:=hid h;have Ag:b<w.heap.size:=h.row.lt;have f1:w.frozen? ↑(b,1)=false:=h.row.frozen;have f2:w.frozen? ↑(b,2)=false:=h.row.frozen;obtain⟨c0,c1,c2,_,hw,_⟩:=h;have As:¬(ws.length:Int)<=(p:Int):=by omega
 have Al:(p:Int)<(ws.length:Int):=by omega
 have Ab:Hid (ws.drop p=ws[p]::ws.drop (p+1)):=drop_eq_getElem_cons k;obtain⟨z,oa,rfl,Aq,d0⟩:=hw p (by rw[length_map];exact k);rw[getElem_map]at d0;have N:Hid (q0o (wbS ws[p])=nmW ws[p]):=(show q0o (wbS ws[p])=nmW ws[p]from rfl);have K:((wbS ws[p]).toList==[40])=(ws[p]==[40]):=by rw[Lib.toList_data];rfl
 have L:((wbS ws[p]).toList==[91])=(ws[p]==[91]):=by rw[Lib.toList_data];rfl
 generalize hX:wbS ws[p]=X at d0 N K L;obtain⟨Ak,s⟩:=j3s hX m;have HX:Hid (wbS ws[p]=X):=hX;have Am:(0:Int)<(X.size:Int):=by omega
 have V:Hid (∀W:World,Cp 42 #[.int .u8 (X[0].toNat:Int)] W fun e G=>e=.returned (.bool (z0d ws[p]))/\W=G):=fun W=>by
  have:=q2g X[0] W
  rw[s Ak]at this;exact this
 have a:Hid (∀W:World,Cp 25 #[.string X] W fun e G=>e=.returned (.bool (nmW ws[p]))/\W=G):=fun W=>by
  have:=q1g X W
  rw[N.o]at this;exact this
 have An:Hid (∀q',Below w w (w.drewN q')):=fun q'=>q0f (Below.refl _ w) q'
 obtain⟨h1,P,f⟩:=j8z hn;have k1:(ws[p]==[40])=false:=by simpa using h1
 have k2:(ws[p]==[91])=false:=by simpa using P
 rw[k1]at K;rw[k2]at L;rw[f]at V;rw[hn]at a;have h6:ws[p+1]?=some [40]:=by simpa using h5
 obtain⟨Ah,h7⟩:=List.getElem?_eq_some_iff.1 h6
 have I:Hid (ws.drop p=ws[p]::[40]::ws.drop (p+2)):=by
  show _=_;rw[Ab.o,drop_eq_getElem_cons Ah,h7]
 have J:Hid (nmW ws[p]=true):=hn
 have O:Hid (∀q',Rd ((w.drewN q').setCell ↑(b,1) ↑((p:Int)+1)) b (some ↑(z,oa)) c ws (p+1) false):=fun q'=>by
  have P:=(HD.o.keep (q0f (Below.refl _ w) q')).setAt (p+1);rw[show((p+1:Nat):Int)=(p:Int)+1 by omega]at P;exact P
 have S:Hid (∀q',But w b w ((w.drewN q').setCell ↑(b,1) ↑((p:Int)+1))):=fun q'=>(But.of (q0f (Below.refl _ w) q')).setCell (p:=↑(b,1)) (.inl rfl) _
 have Ad:Hid (∀q',Cp 24 #[.pointer ↑b,.string ⟨#[40]⟩] ((w.drewN q').setCell ↑(b,1) ↑((p:Int)+1)) fun e G=>e=.returned (.bool true)/\Rd G b (some ↑(z,oa)) c ws (p+1) false/\But w b w G):=fun q'=>by
  have h9:=z2v (O.o q') [40];rw[show(!false&&(ws[p+1]?==some [40]))=true from h5]at h9;refine h9.mono ?_;rintro e G⟨rfl,q2,rfl⟩;exact⟨rfl,(O.o q').keep (q0f Zb q2),(S.o q').trans (But.of (q0f Zb q2))⟩
 have Y:=(show Hid (g0s b (some ↑(z,oa)) c ws [41] (p+2))from hL);clear h1 P f k1 k2 hn h5 h6 h7 O S hL;clear hX s m hw N;show Calls _ _ _ _ _;go_in;go_wp2_with fail
 go_quiet (fail)
 go_wp2_with fail
 go_quiet (fail)
 go_wp2_with fail;refine(a.o _).mono ?_;rintro e v⟨rfl,rfl⟩;go_wp2_with fail;refine(V.o _).mono ?_;rintro e v⟨rfl,rfl⟩;go_wp2_with fail;refine(Ad.o _).mono ?_;rintro e w2⟨rfl,H,i⟩;have Ao:=H.c1;have Ap:w2.frozen? ↑(b,1)=false:=H.row.frozen
 have HL:Hid (Cp 71 #[.pointer ↑b,.string ⟨#[41]⟩] (w2.setCell ↑(b,1) ↑(((p+1:Nat):Int)+1)) fun ev G=>∃v r n t y c',ev=.returned (.tuple #[↑((n:Nat):Int),.slice y t.length c'])/\But w b w v/\g0q b (some ↑(z,oa)) c ws [41] (p+2) v r n t (.slice y t.length c') G):=by
  have h8:=H.setAt (p+2);rw[show((p+2:Nat):Int)=((p+1:Nat):Int)+1 by omega]at h8;refine(Y.o _ h8).mono ?_;rintro e G⟨r,n,t,y,c',h1,P⟩;exact⟨_,r,n,t,y,c',h1,i.setCell (p:=↑(b,1)) (.inl rfl) _,P⟩
 clear H i Y;go_wp2_with fail;refine HL.o.mono ?_;rintro e R⟨v,r4,n,D,A4,c4,rfl,g,B⟩;have Ac:=hid B;have l:=B.nl;rw[q0m (by omega)]at l;have Ar:=B.le;have Ai:=g.size;have Aj:=B.bt.size;have Af:Hid (Tds R A4 D):=B.o.tds;generalize Q:D.length=n4 at l;have Z:Hid (D.length=n4):=Q
 have Ae:Hid (A4=none->n4=0/\c4=0):=by
  have f:=B.o.none;rw[Q]at f;exact f.2
 have M:w.heap.size<=R.heap.size:=by omega
 have d:Hid (q1b w (.slice ↑R.heap.size 1 1) [(⟨3,X,(n:Nat)⟩:Td)] (R.alloc (.cells #[.int .i64 3,.string X,↑(n:Int)] 71))):=(q1b.one R ((⟨3,X,(n:Nat)⟩:Td))).down M;have Aa:=hid g;clear B Q Ai Aj;go_wp2_with(at_builtin;refine q4l rfl _ _ rfl w.heap.size _ [(⟨3,X,(n:Nat)⟩:Td)] rfl d.o A4 n4 D Z.o c4 rfl (Af.o.alloc _) Ae.o (1+n4) rfl (by omega) (by rw[World.size_alloc];omega) ?_);intro A5 c5 w5 E C;have j:Below w R w5:=(Zb.alloc M _).grown C (by rw[World.size_alloc];omega) (fun k' hk=>(World.ownsRow.lt d.o k' hk).1);obtain⟨r',hG⟩:=k8z (ws:=ws) (p:=p) (q:=p+2) (x:=(⟨3,X,(n:Nat)⟩:Td)) (by omega) (by omega) Ag Aa.o Ac.o (fun u hu=>by rw[I.o];exact .sCB J.o hu) (fun u hu=>by rw[I.o,<-HX.o];exact .sCO J.o hu) j E;have HG:=hid hG
 have U:Hid (((⟨3,X,(n:Nat)⟩:Td)::D).length=1+n4):=by
  show _=_;rw[length_cons,Z.o];omega
 clear E C j hG;go_wp2;go_ret;exact⟨r',(⟨3,X,(n:Nat)⟩:Td)::D,A5,c5,by rw[U.o];rfl,by rw[U.o];exact HG.o⟩
theorem z7v{b:Nat}{A:Option Addr}{c:Nat}{ws:List Wd}{p:Nat}(hl:ws.length<=60000)(ht:∀x∈ws,q3l x)(hp:p<=ws.length)(hL:∀q,p<q->q<=ws.length->k4x b A c ws 0 q):v4g b A c ws p:=by
 by_cases B:p<ws.length
 ·have E:=ht ws[p] (List.getElem_mem B)
  have C:ws[p]≠[]:=by
   obtain⟨x,r,e,_⟩:=E;rw[e];simp
  by_cases I:ws[p]=[40]
  ·exact j3g hl B C I (hL _ (by omega) (by omega))
  ·by_cases J:ws[p]=[91]
   ·exact j3e hl B C J (k2y (by decide) hl (by omega) fun q G D=>hL q (by omega) D)
   ·cases G:z0d ws[p]with
    | true=>exact j3f hl B C G E
    | false=>
     cases D:nmW ws[p]with
     | false=>exact v1s hl B C I J G D
     | true=>
      cases H:(ws[p+1]?==some ([40]:Wd))with
      | false=>exact k7d hl B C D H
      | true=>
       have K:ws[p+1]?=some [40]:=by simpa using H
       obtain⟨L,_⟩:=List.getElem?_eq_some_iff.1 K;exact k7c hl B C D H (k2y (by decide) hl (by omega) fun q G D=>hL q (by omega) D)
 ·exact j3d hp (by omega)
theorem v7t{b:Nat}{A:Option Addr}{c:Nat}{ws:List Wd}(hl:ws.length<=60000)(ht:∀x∈ws,q3l x):∀n p,p<=ws.length->ws.length-p<=n->k4x b A c ws 2 p/\k4x b A c ws 1 p/\k4x b A c ws 0 p:=by
 intro n
 induction n with
 | zero=>
  intro p D G;have E:p=ws.length:=by omega
  subst E;have B:k4x b A c ws 2 ws.length:=k2r (z7v hl ht D fun q C B=>by omega)
  have C:k4x b A c ws 1 ws.length:=z4b 1 (.inr rfl) hl D fun q h3 h4=>by
   have:q=ws.length:=by omega
   subst this;exact B
  refine⟨B,C,z4b 0 (.inl rfl) hl D fun q h3 h4=>?_⟩
  have:q=ws.length:=by omega
  subst this;exact C
 | succ n ih=>
  intro p D G;have B:k4x b A c ws 2 p:=k2r (z7v hl ht D fun q C B=>(ih q B (by omega)).2.2)
  have C:k4x b A c ws 1 p:=z4b 1 (.inr rfl) hl D fun q h3 h4=>by
   by_cases e:q=p
   ·subst e;exact B
   ·exact(ih q h4 (by omega)).1
  refine⟨B,C,z4b 0 (.inl rfl) hl D fun q h3 h4=>?_⟩;by_cases e:q=p
  ·subst e;exact C
  ·exact(ih q h4 (by omega)).2.1
theorem k2q{b:Nat}{A:Option Addr}{c:Nat}{ws:List Wd}{p:Nat}(hl:ws.length<=60000)(ht:∀x∈ws,q3l x)(hp:p<=ws.length):k4x b A c ws 0 p:=(v7t hl ht _ p hp Zl).2.2
end Go.Proofs.YtchdplceopegoaaGreatDoor
