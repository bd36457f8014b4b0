import Derived.Test.YtfdppahhbpfnoaaGreatDoorPi21
open Go.Proofs.Tryz
namespace Go.Proofs.YtfdppahhbpfnoaaGreatDoor
open Go Go.RowKit
set_option maxRecDepth 100000
set_option maxHeartbeats 4000000
abbrev v8p(ds:List Td)(a:Option Addr)(cap i:Nat)(D:Tr)(W:World):Prop:=
 Calls prog 26 #[.slice a ds.length cap,.int .i64 (i:Int)] W fun e w'=>NdR W D.N e w'
theorem y4b{l:Nat}{x:Td}{D:Tr}(h:prc x<l):(inD l x D).N=⟨6,⟨#[]⟩,0⟩::([⟨1,⟨#[40]⟩,0⟩]++(⟨6,⟨#[]⟩,0⟩::(D.N++[⟨1,⟨#[41]⟩,0⟩]))):=by
 rw[inD,if_pos h];rfl
theorem y7l{l:Nat}{x:Td}{D:Tr}(h:¬prc x<l):(inD l x D).N=D.N:=by rw[inD,if_neg h]
theorem z6k{ds:List Td}{a:Option Addr}{cap p i:Nat}(W:World)(hN:Tds W a ds)(hp:p<ds.length)(hi:i<ds.length)(Af:ds[p].op=5\/ds[p].op=6)(G:Bool)(D:Tr)(hz:D.N.length<=10000)(hT:v8p ds a cap i D W):
  Calls prog 59 #[.slice a ds.length cap,.int .i64 (p:Int),.int .i64 (i:Int),.bool G] W fun e w'=>NdR W (inD (lvl ds[p].op G) ds[i] D).N e w':=by
 have HN:Hid (Tds W a ds):=hN;have k:Hid (v8p ds a cap i D W):=hT
 have I:Hid (∀W':World,Calls prog 93 #[tdV ds[p],tdV ds[i],.bool G] W' fun e w'=>e=.returned (.bool (decide (prc ds[i]<lvl ds[p].op G)))/\Below W' W' w'):=fun W'=>by
  have:=j0i ds[p] ds[i] G W'
  rw[v9a _ _ _ Af]at this;exact this
 have Ap:(p:Int)<(ds.length:Int):=by omega
 have Ao:(i:Int)<(ds.length:Int):=by omega
 have Z:Hid (prc ds[i]<lvl ds[p].op G->(inD (lvl ds[p].op G) ds[i] D).N=⟨6,⟨#[]⟩,0⟩::([⟨1,⟨#[40]⟩,0⟩]++(⟨6,⟨#[]⟩,0⟩::(D.N++[⟨1,⟨#[41]⟩,0⟩])))):=y4b;have J:Hid (¬prc ds[i]<lvl ds[p].op G->(inD (lvl ds[p].op G) ds[i] D).N=D.N):=y7l
 have j:Hid (∀W',Below W W W'->∃b o,a=some ⟨b,o,none⟩/\b<W'.heap.size/\(W'.cell? ⟨b,o+p*3,none⟩=some (.int .i64 ds[p].op)/\W'.cell? ⟨b,o+p*3+1,none⟩=some (.string ds[p].tx)/\W'.cell? ⟨b,o+p*3+2,none⟩=some (.int .i64 ds[p].n))/\(W'.cell? ⟨b,o+i*3,none⟩=some (.int .i64 ds[i].op)/\W'.cell? ⟨b,o+i*3+1,none⟩=some (.string ds[i].tx)/\W'.cell? ⟨b,o+i*3+2,none⟩=some (.int .i64 ds[i].n))):=fun W' O=>by
  obtain⟨A,op,e1,Al,U,V,X⟩:=(HN.o.W O) p hp;obtain⟨bi,oi,e2,An,P,Q,S⟩:=(HN.o.W O) i hi;rw[e1]at e2;simp only[Option.some.injEq,Addr.mk.injEq,and_true]at e2;obtain⟨rfl,rfl⟩:=e2;exact⟨A,op,e1,Al,⟨U,V,X⟩,⟨P,Q,S⟩⟩
 generalize(inD (lvl ds[p].op G) ds[i] D).N=R at Z J⊢
 generalize Am:lvl ds[p].op G=l at Z J I;unfold v8p at k;generalize D.N=xs at Z J k hz;clear hN hT Af Am HN;generalize ds[p]=xp at j I;generalize ds[i]=xi at j I Z J;generalize prc xi=pr at Z J I;obtain⟨s,t,r⟩:=xp;obtain⟨m,q,K⟩:=xi;by_cases O:pr<l
 ·have HR:=(show Hid (_=_)from Z.o O);have c:Hid (decide (pr<l)=true):=decide_eq_true O;clear O Z J;go_in;go_wp2_with fail;refine k.o.mono ?_;rintro e C H;obtain⟨f,rfl,M,d⟩:=H.val;have Ab:Hid (NdV C f xs):=M;obtain⟨A,op,rfl,E,⟨U,V,X⟩,P,Q,S⟩:=j.o C d;have L:Hid (Calls prog 93 #[tdV ⟨s,t,r⟩,tdV ⟨m,q,K⟩,.bool G] C.drew fun e w'=>e=.returned (.bool (decide (pr<l)))/\Below C C w'):=(I.o C.drew).mono fun _ _ h=>⟨h.1,(Below.refl C.heap.size C).drew.trans h.2⟩
  have d1:C.drew.cell? ⟨A,op+p*3,none⟩=some (.int .i64 s):=U;have d2:C.drew.cell? ⟨A,op+p*3+1,none⟩=some (.string t):=V;have d3:C.drew.cell? ⟨A,op+p*3+2,none⟩=some (.int .i64 r):=X;have d4:C.drew.cell? ⟨A,op+i*3,none⟩=some (.int .i64 m):=P;have d5:C.drew.cell? ⟨A,op+i*3+1,none⟩=some (.string q):=Q;have d6:C.drew.cell? ⟨A,op+i*3+2,none⟩=some (.int .i64 K):=S;have Y:=hid d;clear j I k d M H;go_wp2_with fail
  go_region_held3 (fun w'=>w'.cell? ⟨A,op+p*3,none⟩=some (.int .i64 s)/\w'.cell? ⟨A,op+p*3+1,none⟩=some (.string t)/\w'.cell? ⟨A,op+p*3+2,none⟩=some (.int .i64 r)/\w'.cell? ⟨A,op+i*3,none⟩=some (.int .i64 m)/\w'.cell? ⟨A,op+i*3+1,none⟩=some (.string q)/\w'.cell? ⟨A,op+i*3+2,none⟩=some (.int .i64 K))
   (first|with_reducible exact⟨d1,d2,d3,d4,d5,d6⟩|with_reducible exact⟨U,V,X,P,Q,S⟩|with_reducible exact⟨(B.cell (p:=⟨A,_,none⟩) E).trans U,(B.cell (p:=⟨A,_,none⟩) E).trans V,(B.cell (p:=⟨A,_,none⟩) E).trans X,(B.cell (p:=⟨A,_,none⟩) E).trans P,(B.cell (p:=⟨A,_,none⟩) E).trans Q,(B.cell (p:=⟨A,_,none⟩) E).trans S⟩)
   ((go_at_call 93;refine L.o.mono ?_;rintro e w2⟨rfl,B⟩;rw[c.o]))
  all_goals
   have Ac:Hid (NdV w2 f xs):=Ab.o.W B;have u:Hid (Below W W w2):=q0d Y.o Zl B;clear B;go_wp2_with fail;refine(q1q _ _).mono ?_;rintro e w3 h3;obtain⟨v3,rfl,n3,b3⟩:=h3.val;have v:Hid (Below W W w3):=q0d u.o Zl b3;have Ad:Hid (NdV w3 v3 [⟨1,⟨#[40]⟩,0⟩]):=n3;have x:Hid (NdV w3 f xs):=Ac.o.W b3;clear h3 n3 b3 u Ac;go_wp2_with fail;refine(q1q _ _).mono ?_;rintro e w4 h4;obtain⟨v4,rfl,n4,b4⟩:=h4.val;have w:Hid (Below W W w4):=q0d v.o Zl b4;have Ae:Hid (NdV w4 v4 [⟨1,⟨#[41]⟩,0⟩]):=n4;have y:Hid (NdV w4 f xs):=x.o.W b4;have z:Hid (NdV w4 v3 [⟨1,⟨#[40]⟩,0⟩]):=Ad.o.W b4;clear h4 n4 b4 v Ad x;go_wp2_with fail;refine(q0z _ y.o Ae.o (by simp;omega)).mono ?_;rintro e w5 h5;obtain⟨v5,rfl,n5,b5⟩:=h5.val;have Ag:Hid (Below W W w5):=q0d w.o Zl b5;have Ak:Hid (NdV w5 v5 (⟨6,⟨#[]⟩,0⟩::(xs++[⟨1,⟨#[41]⟩,0⟩]))):=n5;have Ah:Hid (NdV w5 v3 [⟨1,⟨#[40]⟩,0⟩]):=z.o.W b5;clear h5 n5 b5 w Ae y z;go_wp2_with fail;refine(q0z _ Ah.o Ak.o (by simp;omega)).mono ?_;rintro e w6 h6
   have Ai:Hid (NdR W R e w6):=by
    show NdR W R e w6;rw[HR.o];exact h6.from Ag.o
   obtain⟨v6,rfl,_,_⟩:=h6.val;clear h6;go_wp2;go_ret;exact Ai.o
 ·have HR:=(show Hid (_=_)from J.o O);have c:Hid (decide (pr<l)=false):=decide_eq_false O;clear O Z J;go_in;go_wp2_with fail;refine k.o.mono ?_;rintro e C H;have Aa:Hid (NdR W xs e C):=H;obtain⟨f,rfl,M,d⟩:=H.val;have Ab:Hid (NdV C f xs):=M;obtain⟨A,op,rfl,E,⟨U,V,X⟩,P,Q,S⟩:=j.o C d;have L:Hid (Calls prog 93 #[tdV ⟨s,t,r⟩,tdV ⟨m,q,K⟩,.bool G] C.drew fun e w'=>e=.returned (.bool (decide (pr<l)))/\Below C C w'):=(I.o C.drew).mono fun _ _ h=>⟨h.1,(Below.refl C.heap.size C).drew.trans h.2⟩
  have d1:C.drew.cell? ⟨A,op+p*3,none⟩=some (.int .i64 s):=U;have d2:C.drew.cell? ⟨A,op+p*3+1,none⟩=some (.string t):=V;have d3:C.drew.cell? ⟨A,op+p*3+2,none⟩=some (.int .i64 r):=X;have d4:C.drew.cell? ⟨A,op+i*3,none⟩=some (.int .i64 m):=P;have d5:C.drew.cell? ⟨A,op+i*3+1,none⟩=some (.string q):=Q;have d6:C.drew.cell? ⟨A,op+i*3+2,none⟩=some (.int .i64 K):=S;have Y:=hid d;clear j I k d M H;go_wp2_with fail
  go_region_held3 (fun w'=>w'.cell? ⟨A,op+p*3,none⟩=some (.int .i64 s)/\w'.cell? ⟨A,op+p*3+1,none⟩=some (.string t)/\w'.cell? ⟨A,op+p*3+2,none⟩=some (.int .i64 r)/\w'.cell? ⟨A,op+i*3,none⟩=some (.int .i64 m)/\w'.cell? ⟨A,op+i*3+1,none⟩=some (.string q)/\w'.cell? ⟨A,op+i*3+2,none⟩=some (.int .i64 K))
   (first|with_reducible exact⟨d1,d2,d3,d4,d5,d6⟩|with_reducible exact⟨U,V,X,P,Q,S⟩|with_reducible exact⟨(B.cell (p:=⟨A,_,none⟩) E).trans U,(B.cell (p:=⟨A,_,none⟩) E).trans V,(B.cell (p:=⟨A,_,none⟩) E).trans X,(B.cell (p:=⟨A,_,none⟩) E).trans P,(B.cell (p:=⟨A,_,none⟩) E).trans Q,(B.cell (p:=⟨A,_,none⟩) E).trans S⟩)
   ((go_at_call 93;refine L.o.mono ?_;rintro e w2⟨rfl,B⟩;rw[c.o]))
  all_goals
   obtain⟨A9,c9,e9,o9,b9⟩:=Aa.o;have Aj:Hid (NdR W R (.returned f) w2):=⟨A9,c9,by rw[HR.o];exact e9,by rw[HR.o];exact o9.kept fun g _ h=>B.block g h,q0d b9 Zl B⟩;clear B o9 b9;go_wp2;go_ret;exact Aj.o
section
variable {K:LwK} {ws:List Wd} {pl:Nat→Nat} {b p:Nat} {w:World}
theorem v6j{X:Wd}(h:Ry K ws pl b p w)(hX:ws.getD p []=X)(ht:X=[]\/q3b X):
  (Calls prog 80 #[.pointer (some ⟨b,0,none⟩)] w fun e w'=>e=.returned (.string (wbS X))/\w=w')/\(Calls prog 227 #[.string (wbS X)] w fun e w'=>e=.returned (.bool (z0j X))/\w=w')/\(Calls prog 176 #[.string (wbS X)] w fun e w'=>e=.returned (.bool (nmW X))/\w=w'):=by
 subst hX;exact⟨(q6o h).mono fun _ _ h=>⟨h.1,h.2.symm⟩,(j1i _ w).mono fun _ _ h=>⟨h.1,h.2.symm⟩,(k5p _ ht w).mono fun _ _ h=>⟨h.1,h.2.symm⟩⟩
theorem z7k(ht:∀x∈ws,q3b x)(hS:∀q,p<q->q<=ws.length->j1w K ws pl b q):y2p K ws pl b p:=by
 intro w h;have t:=h.le;have Ao:b<w.heap.size:=h.row.lt;show Calls prog 204 #[.pointer (some ⟨b,0,none⟩)] w fun e C=>q4j K ws pl b (.level 2) p w e C
 by_cases j:p<ws.length
 ·have L:=ht _ (List.getElem_mem j);have i:=q3x j;obtain⟨d,O,P⟩:=v6j h i (.inr L);have v:Hid (ws.drop p=ws[p]::ws.drop (p+1)):=q4p j;by_cases E:z0j ws[p]=true
  ·rw[E]at O;have B:=(show Hid (Calls _ _ _ _ _)from d);have D:=(show Hid (Calls _ _ _ _ _)from O);obtain⟨l,h6⟩:=y2d L E;have HN:Hid (Calls prog 175 #[.pointer (some ⟨b,0,none⟩)] w fun e C=>e=.returned (.string (wbS ws[p]))/\Ry K ws pl b (p+1) C/\But w b w C):=q8l h j;have HA:Hid (∀W,Calls prog 228 #[.string (wbS ws[p])] W fun e C=>e=.returned (.tuple #[.int .i64 ((z8x ws[p]:Nat):Int),.nilIface])/\Below W W C):=fun W=>v1j ws[p] l (v8j L) h6 W
   have HX:Hid (∀W,Ry K ws pl b (p+1) W->But w b w W->q4j K ws pl b (.level 2) p w (.returned (.slice (some ⟨W,0,none⟩) 1 1)) (W.alloc (.cells #[.int .i64 1,.string ⟨#[]⟩,.int .i64 ((z8x ws[p]:Nat):Int)] 47))):=fun W hW hB=>by
    refine q4j.ok (m:=0) (ns:=[y4f ws[p]]) (u:=ws.drop (p+1)) ⟨by rw[v.o];exact .lev2 (.sNum E),(q0w.one W (y4f ws[p])).down hB.size,?_,?_,hB.alloc hB.size _⟩
    ·rw[q0h,q0h];simp only[List.length_cons,List.length_nil];omega
    ·rw[q0h,show ws.length-(ws.length-(p+1))=p+1 by omega];exact hW.keep (q4b W _)
   generalize wbS ws[p]=S at B D HN HA
   generalize((z8x ws[p]:Nat):Int)=V at HA HX
   clear d O P h hS ht L i E l h6;go_in;go_wp2_with fail;refine B.o.mono ?_;rintro e f⟨rfl,rfl⟩;go_wp2_with fail;refine D.o.mono ?_;rintro e M⟨rfl,rfl⟩;go_wp2_with fail;refine HN.o.mono ?_;rintro e U⟨rfl,h3,z⟩;have K3:=hid (And.intro h3 z);have a:=z.size;clear h3 z;go_wp2_with fail;refine(HA.o _).mono ?_;rintro e w4⟨rfl,b4⟩;have Am:=hid (HX.o w4 (K3.o.1.keep b4) (K3.o.2.trans (But.of (b4.mono a))));clear b4;go_wp2;go_ret;exact Am.o
  ·have G:z0j ws[p]=false:=by simpa using E
   rw[G]at O;have B:=(show Hid (Calls _ _ _ _ _)from d);have D:=(show Hid (Calls _ _ _ _ _)from O);by_cases N:nmW ws[p]=true
   ·rw[N]at P;have H:=(show Hid (Calls _ _ _ _ _)from P);have HN:Hid (Calls prog 229 #[.pointer (some ⟨b,0,none⟩)] w fun e C=>q4j K ws pl b (.level 2) p w e C):=(j1j hS j N h).mono fun _ _ g=>g.lev2
    generalize wbS ws[p]=S at B D H;clear d O P h hS ht L i E G N;go_in;go_wp2_with fail;refine B.o.mono ?_;rintro e f⟨rfl,rfl⟩;go_wp2_with fail;refine D.o.mono ?_;rintro e M⟨rfl,rfl⟩;go_wp2_with fail;refine B.o.mono ?_;rintro e f⟨rfl,rfl⟩;go_wp2_with fail;refine H.o.mono ?_;rintro e M⟨rfl,rfl⟩;go_wp2_with fail;refine HN.o.mono ?_;intro r U g;cases g with
    | @bad u _ pr bt=>
     have X:Hid (q4j K ws pl b (.level 2) p w (.panicked [q4u (pl (ws.length-u.length))]) U):=.bad pr bt;clear pr bt;go_wp2;exact⟨rfl,X.o⟩
    | @ok m ns u A c _ hg=>
     have X:Hid (q4j K ws pl b (.level 2) p w (.returned (.slice A ns.length c)) U):=.ok hg;clear hg;generalize ns.length=nl at X⊢;go_wp2;go_ret;exact X.o
   ·have J:nmW ws[p]=false:=by simpa using N
    rw[J]at P;have H:=(show Hid (Calls _ _ _ _ _)from P);by_cases I:ws[p]=[91]
    ·have hm:ws[p]?=some [91]:=by rw[List.getElem?_eq_getElem j,I]
     have k:Hid (Calls prog 127 #[.pointer (some ⟨b,0,none⟩),.string ⟨#[91]⟩] w fun e C=>e=.returned (.bool true)/\Ry K ws pl b (p+1) C/\But w b w C):=q7n h [91] hm
     have HK:Hid (∀W,Ry K ws pl b (p+1) W->But w b w W->Calls prog 230 #[.pointer (some ⟨b,0,none⟩),.agg #[.int .i64 4,.string ⟨#[]⟩,.int .i64 0],.string ⟨#[93]⟩] W fun r C=>q4j K ws pl b (.level 2) p w r C):=fun W hW hB=>by
      refine(k2s (e:=[93]) (op:=4) (tx:=⟨#[]⟩) (by simp) (by decide) (fun q h1 h2=>hS q (by omega) h2) hW).mono ?_;intro r C g;have hs:=hB.size;cases g with
      | bad pr bt=>exact .bad (by rw[v.o,I];exact .lev2 (.sLB pr)) (hB.trans (bt.mono hs))
      | @ok n ns u A c _ hg=>
       have hl:=hg.n;rw[q0h]at hl;refine q4j.ok (m:=0) (ns:=lsT n::ns) (u:=u) ⟨by rw[v.o,I];exact .lev2 (.sLO hg.pr),hg.o.down hs,?_,hg.rd,hB.trans (hg.bt.mono hs)⟩;rw[q0h,List.length_cons];omega
     generalize wbS ws[p]=S at B D H;clear d O P h hS ht L i E G N J hm I;go_in;go_wp2_with fail;refine B.o.mono ?_;rintro e f⟨rfl,rfl⟩;go_wp2_with fail;refine D.o.mono ?_;rintro e M⟨rfl,rfl⟩;go_wp2_with fail;refine B.o.mono ?_;rintro e f⟨rfl,rfl⟩;go_wp2_with fail;refine H.o.mono ?_;rintro e M⟨rfl,rfl⟩;go_wp2_with fail;refine k.o.mono ?_;rintro e M⟨rfl,h2,b2⟩;have Ak:Hid (Calls prog 230 #[.pointer (some ⟨b,0,none⟩),.agg #[.int .i64 4,.string ⟨#[]⟩,.int .i64 0],.string ⟨#[93]⟩] M fun r C=>q4j K ws pl b (.level 2) p w r C):=HK.o M h2 b2;clear h2 b2 k HK;go_wp2_with fail;refine Ak.o.mono ?_;intro r U g;cases g with
     | @bad u _ pr bt=>
      have X:Hid (q4j K ws pl b (.level 2) p w (.panicked [q4u (pl (ws.length-u.length))]) U):=.bad pr bt;clear pr bt;go_wp2;exact⟨rfl,X.o⟩
     | @ok m ns u A c _ hg=>
      have X:Hid (q4j K ws pl b (.level 2) p w (.returned (.slice A ns.length c)) U):=.ok hg;clear hg;generalize ns.length=nl at X⊢;go_wp2;go_ret;exact X.o
    ·have hm:ws[p]?≠some [91]:=by rw[List.getElem?_eq_getElem j];simpa using I
     have k:Hid (Calls prog 127 #[.pointer (some ⟨b,0,none⟩),.string ⟨#[91]⟩] w fun e C=>e=.returned (.bool false)/\w=C):=(q8k h [91] (by simp) hm).mono fun _ _ h=>⟨h.1,h.2.symm⟩
     by_cases Q:ws[p]=[40]
     ·have Z:ws[p]?=some [40]:=by rw[List.getElem?_eq_getElem j,Q]
      have HM:Hid (Calls prog 129 #[.pointer (some ⟨b,0,none⟩),.string ⟨#[40]⟩] w fun e C=>e=.returned (.tuple #[])/\Ry K ws pl b (p+1) C/\But w b w C):=q6n h [40] Z
      have y:Hid (ws.drop p=[40]::ws.drop (p+1)):=by
       show _=_;rw[v.o,Q]
      have HS:Hid (j1w K ws pl b (p+1)):=hS (p+1) (by omega) (by omega);generalize wbS ws[p]=S at B D H;clear d O P h hS ht L i E G N J hm I Q Z v;go_in;go_wp2_with fail;refine B.o.mono ?_;rintro e f⟨rfl,rfl⟩;go_wp2_with fail;refine D.o.mono ?_;rintro e M⟨rfl,rfl⟩;go_wp2_with fail;refine B.o.mono ?_;rintro e f⟨rfl,rfl⟩;go_wp2_with fail;refine H.o.mono ?_;rintro e M⟨rfl,rfl⟩;go_wp2_with fail;refine k.o.mono ?_;rintro e M⟨rfl,rfl⟩;go_wp2_with fail;refine HM.o.mono ?_;rintro e U⟨rfl,h3,z⟩;have Ad:Hid (But w b w U):=z;have a:=z.size;have Al:Hid (Calls prog 130 #[.pointer (some ⟨b,0,none⟩)] U fun e C=>q4j K ws pl b (.level 0) (p+1) U e C):=HS.o U h3;clear h3 z HM k;go_wp2_with fail;refine Al.o.mono ?_;intro r w4 g;cases g with
      | @bad u _ pr bt=>
       have X:Hid (q4j K ws pl b (.level 2) p w (.panicked [q4u (pl (ws.length-u.length))]) w4):=.bad (by rw[y.o];exact .lev2 (.sPB pr)) (Ad.o.trans (bt.mono a));clear pr bt;go_wp2;exact⟨rfl,X.o⟩
      | @ok m ns u A c _ hg=>
       have Ab:=q5i hg.pr;have hu:ws.drop (ws.length-u.length)=u:=q7f Ab.1;have hl:=hg.n;rw[q0h]at hl;have Ap:=hg.bt.size;have Ae:But w b w w4:=Ad.o.trans (hg.bt.mono a);by_cases R:ws[ws.length-u.length]?=some [41]
       ·obtain⟨Ag,Af⟩:=List.getElem?_eq_some_iff.1 R
        have Ac:u=[41]::ws.drop (ws.length-u.length+1):=by
         have h9:=q4p Ag;rw[hu,Af]at h9;exact h9
        have Y:Hid (Calls prog 129 #[.pointer (some ⟨b,0,none⟩),.string ⟨#[41]⟩] w4 fun e C=>e=.returned (.tuple #[])/\q4j K ws pl b (.level 2) p w (.returned (.slice A ns.length c)) C):=by
         refine(q6n hg.rd [41] R).mono ?_;rintro e w5⟨rfl,h5,b5⟩
         have Aq:u.length=(ws.drop (ws.length-u.length+1)).length+1:=by
          have h9:=congrArg List.length Ac;rw[List.length_cons]at h9;exact h9
         have Aj:=hg.pr;rw[Ac]at Aj;refine⟨rfl,q4j.ok (m:=0) (ns:=ns) (u:=ws.drop (ws.length-u.length+1)) ⟨by rw[y.o];exact .lev2 (.sPC Aj),(hg.o.but2 b5 (by omega)).down a,?_,?_,Ae.trans (b5.mono (by omega))⟩⟩
         ·rw[q0h (p:=p)];omega
         ·rw[show ws.length-(ws.drop (ws.length-u.length+1)).length=ws.length-u.length+1 by omega];exact h5
        clear hg hu Ac R Af Ab hl;generalize ns.length=nl at Y⊢;go_wp2_with fail;refine Y.o.mono ?_;rintro e w5⟨rfl,h5⟩;have K5:=(show Hid (q4j _ _ _ _ _ _ _ _ _)from h5);clear h5;go_wp2;go_ret;exact K5.o
       ·have Y:Hid (Calls prog 129 #[.pointer (some ⟨b,0,none⟩),.string ⟨#[41]⟩] w4 fun e C=>e=.panicked [q4u (pl (ws.length-u.length))]/\q4j K ws pl b (.level 2) p w (.panicked [q4u (pl (ws.length-u.length))]) C):=by
         refine(q7o hg.rd [41] (by simp) R).mono ?_;rintro e w5⟨rfl,rfl⟩;refine⟨rfl,.bad ?_ Ae⟩;rw[y.o];refine .lev2 (.sPX hg.pr ?_);rw[<-hu,q2m];exact R
        clear hg hu R Ab hl;generalize ns.length=nl;generalize pl (ws.length-u.length)=pp at Y;go_wp2_with fail;refine Y.o.mono ?_;rintro e w5⟨rfl,h5⟩;have K5:=(show Hid (q4j _ _ _ _ _ _ _ _ _)from h5);clear h5;go_wp2;exact⟨rfl,K5.o⟩
     ·have Z:ws[p]?≠some [40]:=by rw[List.getElem?_eq_getElem j];simpa using Q
      have HM:Hid (Calls prog 129 #[.pointer (some ⟨b,0,none⟩),.string ⟨#[40]⟩] w fun e C=>e=.panicked [q4u (pl p)]/\w=C):=(q7o h [40] (by simp) Z).mono fun _ _ h=>⟨h.1,h.2.symm⟩
      have HX:Hid (q4j K ws pl b (.level 2) p w (.panicked [q4u (pl p)]) w):=v0x t (by rw[v.o];exact .lev2 (.sBad Q I G J)) (But.refl _ _ _);generalize wbS ws[p]=S at B D H;clear d O P h hS ht L i E G N J hm I Q Z v;go_in;go_wp2_with fail;refine B.o.mono ?_;rintro e f⟨rfl,rfl⟩;go_wp2_with fail;refine D.o.mono ?_;rintro e M⟨rfl,rfl⟩;go_wp2_with fail;refine B.o.mono ?_;rintro e f⟨rfl,rfl⟩;go_wp2_with fail;refine H.o.mono ?_;rintro e M⟨rfl,rfl⟩;go_wp2_with fail;refine k.o.mono ?_;rintro e M⟨rfl,rfl⟩;go_wp2_with fail;refine HM.o.mono ?_;rintro e U⟨rfl,rfl⟩;go_wp2;exact⟨rfl,HX.o⟩
 ·have An:p=ws.length:=by omega
  have i:=q6x (ws:=ws) (q:=p) (by omega);obtain⟨d,O,P⟩:=v6j h i (.inl rfl);have Ah:z0j []=false:=rfl;have Ai:nmW []=false:=by decide
  rw[Ah]at O;rw[Ai]at P;have B:=(show Hid (Calls _ _ _ _ _)from d);have D:=(show Hid (Calls _ _ _ _ _)from O);have H:=(show Hid (Calls _ _ _ _ _)from P);have Aa:∀s,ws[p]?≠some s:=fun s=>by rw[List.getElem?_eq_none (by omega)];simp
  have k:Hid (Calls prog 127 #[.pointer (some ⟨b,0,none⟩),.string ⟨#[91]⟩] w fun e C=>e=.returned (.bool false)/\w=C):=(q8k h [91] (by simp) (Aa _)).mono fun _ _ h=>⟨h.1,h.2.symm⟩
  have HM:Hid (Calls prog 129 #[.pointer (some ⟨b,0,none⟩),.string ⟨#[40]⟩] w fun e C=>e=.panicked [q4u (pl p)]/\w=C):=(q7o h [40] (by simp) (Aa _)).mono fun _ _ h=>⟨h.1,h.2.symm⟩
  have HX:Hid (q4j K ws pl b (.level 2) p w (.panicked [q4u (pl p)]) w):=by
   refine v0x t ?_ (But.refl _ _ _);rw[List.drop_eq_nil_of_le (by omega)];exact .lev2 .sinN
  generalize wbS []=S at B D H;clear d O P h hS ht i Ah Ai Aa An;go_in;go_wp2_with fail;refine B.o.mono ?_;rintro e f⟨rfl,rfl⟩;go_wp2_with fail;refine D.o.mono ?_;rintro e M⟨rfl,rfl⟩;go_wp2_with fail;refine B.o.mono ?_;rintro e f⟨rfl,rfl⟩;go_wp2_with fail;refine H.o.mono ?_;rintro e M⟨rfl,rfl⟩;go_wp2_with fail;refine k.o.mono ?_;rintro e M⟨rfl,rfl⟩;go_wp2_with fail;refine HM.o.mono ?_;rintro e U⟨rfl,rfl⟩;go_wp2;exact⟨rfl,HX.o⟩
theorem v0z(ht:∀x∈ws,q3b x):∀n p,p<=ws.length->ws.length-p<=n->y2p K ws pl b p/\y2r K ws pl b p/\j1w K ws pl b p:=by
 intro n
 induction n with
 | zero=>
  intro p H G;have B:y2p K ws pl b p:=z7k ht fun q A h2=>by omega
  have A:y2r K ws pl b p:=k2t fun q A h2=>by
   obtain rfl:q=p:=by omega
   exact B
  exact⟨B,A,v1c fun q E h4=>by
   obtain rfl:q=p:=by omega
   exact A⟩
 | succ n ih=>
  intro p H G;have B:y2p K ws pl b p:=z7k ht fun q A h2=>(ih q h2 (by omega)).2.2
  have D:∀q,p<=q->q<=ws.length->y2p K ws pl b q:=fun q A h2=>by
   rcases Nat.eq_or_lt_of_le A with rfl|E
   ·exact B
   ·exact(ih q h2 (by omega)).1
  have A:y2r K ws pl b p:=k2t D
  have C:∀q,p<=q->q<=ws.length->y2r K ws pl b q:=fun q h1q h2=>by
   rcases Nat.eq_or_lt_of_le h1q with rfl|E
   ·exact A
   ·exact(ih q h2 (by omega)).2.1
  exact⟨B,A,v1c C⟩
theorem k8f(ht:∀x∈ws,q3b x)(hp:p<=ws.length):j1w K ws pl b p:=(v0z ht _ p hp Zl).2.2
end
theorem q3e(ds:List Nd)(a:Option Addr)(cap:Nat)(w:World)(hN:q1p w a ds):
  Calls prog 48 #[.slice a ds.length cap] w fun e w'=>e=.returned (q1v (q3f ds))/\Below w w w':=by
 have Q:Hid (q1p w a ds):=hN;clear hN;by_cases Y:400<(ds.length:Int)
 ·rw[j3n (by omega),k6g];go_in;go_wp2;go_ret;exact⟨rfl,Below.refl _ _⟩
 ·have I:ds.length<=400:=by omega
  go_in;go_wp2
  go_loopw [14] (fun i wr=>Below w w wr/\∃k:Nat,k<=ds.length/\i=.int .i64 k/\∀x∈ds.take k,q1a x=0) (fun i _=>ds.length-(intOf i).toNat)
  case atStart=>exact⟨Below.refl _ _,0,Nat.zero_le _,rfl,by simp⟩
  case round=>
   obtain⟨H,k,c,rfl,C⟩:=hrel;have N:Hid (∀x∈ds.take k,q1a x=0):=C;have J:Hid (q1p wr a ds):=Q.o.W H;clear C;by_cases B:k<ds.length
   ·obtain⟨b,o,R,Z,U,V,X⟩:=J.o k B;subst R;by_cases K:q1a ds[k]=0
    ·have G:Hid (q1a ds[k]=0):=K;clear K;go_wp2_with fail;refine(q9z ds[k] _).mono ?_;rintro e M⟨rfl,A⟩;rw[G.o,q1l];have E:=z5w H Zl A;clear A;go_wp2
     go_roundw
     case rel=>exact⟨E,k+1,by omega,by go_num,j9p B N.o G.o⟩
     case measure=>simp[intOf];omega
    ·have G:Hid (q1a ds[k]≠0):=K;clear K;go_wp2_with fail;refine(q9z ds[k] _).mono ?_;rintro e M⟨rfl,A⟩;rw[q0t G.o];have E:=z5w H Zl A;clear A;go_wp2;go_ret;refine⟨?_,E⟩;rw[j3o I B N.o G.o,q0t G.o];rfl
   ·have O:Hid (q3f ds=if q0n ds 0 1=some ds.length then 0 else 2):=v2e I (v5o B N.o);cases L:q0n ds 0 1 with
    | none=>
     have D:Hid (q0n ds 0 1=none):=L;clear L;go_wp2_with fail;refine(k3k a cap _ J.o I (Nat.zero_le _) D.o).mono ?_;rintro e M⟨rfl,rfl⟩;go_wp2;go_ret;refine⟨?_,H⟩;rw[O.o,D.o,if_neg (by simp),k0r];rfl
    | some j=>
     have D:Hid (q0n ds 0 1=some j):=L;clear L;by_cases P:j=ds.length
     ·subst P;go_wp2_with fail;refine(z3v a cap _ J.o I (Nat.zero_le _) D.o).mono ?_;rintro e M⟨rfl,rfl⟩;go_wp2;go_ret;refine⟨?_,H⟩;rw[O.o,D.o,if_pos rfl,q1l];rfl
     ·have S:((j:Int) != (ds.length:Int))=true:=by simp;omega
      go_wp2_with fail;refine(z3v a cap _ J.o I (Nat.zero_le _) D.o).mono ?_;rintro e M⟨rfl,rfl⟩;go_wp2;go_ret;refine⟨?_,H⟩;rw[O.o,D.o,if_neg (by simp[P]),k0r];rfl
set_option maxHeartbeats 8000000
theorem q4a(s:ByteArray)(w:World):Calls prog 100 #[.string s] w fun e w'=>e=.returned (.bool (q0o s))/\w=w':=by
 by_cases O:(s.size:Int)<1
 ·have A:Hid (q0o s=false):=z4l (by omega);go_in;go_wp2;go_ret;exact⟨by rw[A.o];rfl,rfl⟩
 by_cases P:8<(s.size:Int)
 ·have A:Hid (q0o s=false):=z6s (by omega);go_in;go_wp2;go_ret;exact⟨by rw[A.o];rfl,rfl⟩
 by_cases D:s=⟨#[108,101,116]⟩
 ·subst D;go_in;go_wp2;go_ret;exact⟨by rfl,rfl⟩
 have L:Hid (¬s=⟨#[108,101,116]⟩):=D
 have J:¬s.toList=[108,101,116]:=by
  rw[ByteArray.toList_eq];intro e;exact D (j5q.1 e)
 have N:(s.toList==[108,101,116])=false:=beq_false_of_ne J;clear D;go_in;go_wp2_with fail
 go_loopw [18] (fun i wr=>wr=w/\∃k:Nat,k<=s.size/\i=.int .i64 k/\∀j(h:j<s.size),j<k->q2b s[j]=true) (fun i _=>s.size-(intOf i).toNat)
 case atStart=>exact⟨rfl,0,Nat.zero_le _,rfl,fun j _ hj=>by omega⟩
 case round=>
  obtain⟨rfl,k,Q,rfl,B⟩:=hrel;have K:Hid (∀j(h:j<s.size),j<k->q2b s[j]=true):=B;clear B;by_cases I:k<s.size
  ·cases C:q2b s[k]with
   | false=>
    have A:Hid (q0o s=false):=k1v I C;by_cases G:(s[k].toNat:Int)<97
    ·clear C;go_wp2;go_ret;exact⟨by rw[A.o];rfl,rfl⟩
    ·have M:(122:Int)<(s[k].toNat:Int):=by
      simp[q2b]at C;omega
     clear C;go_wp2;go_ret;exact⟨by rw[A.o];rfl,rfl⟩
   | true=>
    have E:Hid (∀j(h:j<s.size),j<k+1->q2b s[j]=true):=fun j h hj=>by
     by_cases H:j=k
     ·subst H;exact C
     ·exact K.o j h (by omega)
    have G:¬(s[k].toNat:Int)<97/\¬(122:Int)<(s[k].toNat:Int):=by
     simp[q2b]at C;omega
    obtain⟨G,M⟩:=G;clear C;go_wp2
    go_roundw
    case rel=>exact⟨by trivial,k+1,by omega,by go_num,E.o⟩
    case measure=>simp[intOf];omega
  ·have A:Hid (q0o s=true):=k1u (by omega) (by omega) L.o fun j h=>K.o j h (by omega)
   go_wp2;go_ret;exact⟨by rw[A.o];rfl,rfl⟩
def grM(op:Int):Int:=if op=1 then 999999 else if op=3\/op=4 then 6 else 0
def grH(op:Int):Bool:=decide (op=1\/op=3\/op=4)
theorem q0g(op M:Int)(H:Bool)(hM:grM op=M)(hH:grH op=H)(w:World):Calls prog 96 #[.int .i64 op] w fun e w'=>e=.returned (.tuple #[.int .i64 M,.bool H])/\w=w':=by
 subst hM hH;by_cases A:op=1
 ·subst A;go_in;go_wp2;go_ret2;exact⟨rfl,rfl⟩
 by_cases B:op=3
 ·subst B;go_in;go_wp2;go_ret2;exact⟨rfl,rfl⟩
 by_cases C:op=4
 ·subst C;go_in;go_wp2;go_ret2;exact⟨rfl,rfl⟩
 have E:Hid (grM op=0):=by show grM op=0;simp[grM,A,B,C]
 have D:Hid (grH op=false):=by show grH op=false;simp[grH,A,B,C]
 have G:(op==1)=false:=by simp[A]
 have I:(op==3)=false:=by simp[B]
 have J:(op==4)=false:=by simp[C]
 clear A B C;go_in;go_wp2;go_ret2;exact⟨by rw[E.o,D.o];rfl,rfl⟩
def y6q(op:Int):Bool:=op==2||op==3||op==7
theorem q0i(op:Int)(H:Bool)(hH:y6q op=H)(w:World):Calls prog 99 #[.int .i64 op] w fun e w'=>e=.returned (.bool H)/\w=w':=by
 subst hH;by_cases A:op=2
 ·subst A;go_in;go_wp2;go_ret;exact⟨rfl,rfl⟩
 by_cases B:op=3
 ·subst B;go_in;go_wp2;go_ret;exact⟨rfl,rfl⟩
 by_cases C:op=7
 ·subst C;go_in;go_wp2;go_ret;exact⟨rfl,rfl⟩
 have D:Hid (y6q op=false):=by show y6q op=false;simp[y6q,A,B,C]
 have E:(op==2)=false:=by simp[A]
 have G:(op==3)=false:=by simp[B]
 have I:(op==7)=false:=by simp[C]
 clear A B C;go_in;go_wp2;go_ret;exact⟨by rw[D.o];rfl,rfl⟩
def exB(op:Int):Bool:=decide (1<=op)&&decide (op<=6)
theorem z0u(op:Int)(w:World):Calls prog 101 #[.int .i64 op] w fun e w'=>e=.returned (.bool (exB op))/\w=w':=by
 by_cases B:1<=op
 ·by_cases C:op<=6
  ·have A:Hid (exB op=true):=by show exB op=true;simp[exB,B,C]
   go_in;go_wp2;go_ret;exact⟨by rw[A.o];rfl,rfl⟩
  ·have A:Hid (exB op=false):=by show exB op=false;simp[exB,C]
   go_in;go_wp2;go_ret;exact⟨by rw[A.o];rfl,rfl⟩
 ·have A:Hid (exB op=false):=by show exB op=false;simp[exB,B]
  go_in;go_wp2;go_ret;exact⟨by rw[A.o];rfl,rfl⟩
theorem k2n(x:Td)(w:World)(hs:x.tx.size<=140737488351232):Calls prog 66 #[tdV x] w fun e w'=>e=.returned (q1v (q0p x))/\Below w w w':=by
 obtain⟨H,tx,n⟩:=x;have hs:tx.size<=140737488351232:=hs;have G:∀O:Obj,Below w w (w.alloc O):=fun O=>(Below.refl _ w).alloc Zl O
 by_cases B:H<1
 ·have D:Hid (q0p ⟨H,tx,n⟩=1):=v7m B;have M:grM H=0:=by unfold grM;rw[if_neg (by omega),if_neg (by omega)]
  have N:grH H=false:=decide_eq_false (by omega);go_in;go_wp2_with fail;refine(q0g H 0 false M N _).mono ?_;rintro e C⟨rfl,rfl⟩;go_wp2;go_ret;exact⟨by rw[D.o];rfl,G _⟩
 by_cases E:9<H
 ·have D:Hid (q0p ⟨H,tx,n⟩=1):=v7n B E;have M:grM H=0:=by unfold grM;rw[if_neg (by omega),if_neg (by omega)]
  have N:grH H=false:=decide_eq_false (by omega);go_in;go_wp2_with fail;refine(q0g H 0 false M N _).mono ?_;rintro e C⟨rfl,rfl⟩;go_wp2;go_ret;exact⟨by rw[D.o];rfl,G _⟩
 have S:H=1\/H=2\/H=3\/H=4\/H=5\/H=6\/H=7\/H=8\/H=9:=by omega
 clear B E;rcases S with rfl|rfl|rfl|rfl|rfl|rfl|rfl|rfl|rfl
 ·by_cases B:n<0
  ·have D:Hid (q0p ⟨1,tx,n⟩=1):=v7o B;go_in;go_wp2_with fail;refine(q0g 1 999999 true rfl rfl _).mono ?_;rintro e C⟨rfl,rfl⟩;go_wp2;go_ret;exact⟨by rw[D.o];rfl,G _⟩
  ·by_cases E:999999<n
   ·have D:Hid (q0p ⟨1,tx,n⟩=1):=v7p B E;go_in;go_wp2_with fail;refine(q0g 1 999999 true rfl rfl _).mono ?_;rintro e C⟨rfl,rfl⟩;go_wp2;go_ret;exact⟨by rw[D.o];rfl,G _⟩
   ·by_cases I:0<(tx.size:Int)
    ·have D:Hid (q0p ⟨1,tx,n⟩=2):=v7q B E I;have L:=q8w I;have R:(tx.toList != [])=true:=by simp[bne,L]
     go_in;go_wp2_with fail;refine(q0g 1 999999 true rfl rfl _).mono ?_;rintro e C⟨rfl,rfl⟩;go_wp2_with fail;refine(q0i 1 false rfl _).mono ?_;rintro e C⟨rfl,rfl⟩;go_wp2;go_ret;exact⟨by rw[D.o];rfl,G _⟩
    ·have D:Hid (q0p ⟨1,tx,n⟩=0):=v7r B E I;have K:=q6k I;subst K;go_in;go_wp2_with fail;refine(q0g 1 999999 true rfl rfl _).mono ?_;rintro e C⟨rfl,rfl⟩;go_wp2_with fail;refine(q0i 1 false rfl _).mono ?_;rintro e C⟨rfl,rfl⟩;go_wp2_with fail;refine(q0i 1 false rfl _).mono ?_;rintro e C⟨rfl,rfl⟩;go_wp2;go_ret;exact⟨by rw[D.o];rfl,G _⟩
 ·by_cases B:n=0
  ·cases E:q0o tx with
   | true=>
    have D:Hid (q0p ⟨2,tx,n⟩=0):=v7t B E;subst B;have J:Hid (q0o tx=true):=E;clear E;go_in;go_wp2_with fail;refine(q0g 2 0 false rfl rfl _).mono ?_;rintro e C⟨rfl,rfl⟩;go_wp2_with fail;refine(q0i 2 true rfl _).mono ?_;rintro e C⟨rfl,rfl⟩;go_wp2_with fail;refine(q0i 2 true rfl _).mono ?_;rintro e C⟨rfl,rfl⟩;go_wp2_with fail;refine(q4a tx _).mono ?_;rintro e C⟨rfl,rfl⟩;rw[J.o];go_wp2;go_ret;exact⟨by rw[D.o];rfl,G _⟩
   | false=>
    have D:Hid (q0p ⟨2,tx,n⟩=5):=v7u B E;subst B;have J:Hid (q0o tx=false):=E;clear E;go_in;go_wp2_with fail;refine(q0g 2 0 false rfl rfl _).mono ?_;rintro e C⟨rfl,rfl⟩;go_wp2_with fail;refine(q0i 2 true rfl _).mono ?_;rintro e C⟨rfl,rfl⟩;go_wp2_with fail;refine(q0i 2 true rfl _).mono ?_;rintro e C⟨rfl,rfl⟩;go_wp2_with fail;refine(q4a tx _).mono ?_;rintro e C⟨rfl,rfl⟩;rw[J.o];go_wp2;go_ret;exact⟨by rw[D.o];rfl,G _⟩
  ·have D:Hid (q0p ⟨2,tx,n⟩=2):=v7s B;have P:(n==0)=false:=by simp[B]
   have Q:(n != 0)=true:=by simp[B]
   go_in;go_wp2_with fail;refine(q0g 2 0 false rfl rfl _).mono ?_;rintro e C⟨rfl,rfl⟩;go_wp2;go_ret;exact⟨by rw[D.o];rfl,G _⟩
 ·by_cases B:n<0
  ·have D:Hid (q0p ⟨3,tx,n⟩=1):=v7v B;go_in;go_wp2_with fail;refine(q0g 3 6 true rfl rfl _).mono ?_;rintro e C⟨rfl,rfl⟩;go_wp2;go_ret;exact⟨by rw[D.o];rfl,G _⟩
  ·by_cases E:6<n
   ·have D:Hid (q0p ⟨3,tx,n⟩=1):=j6r B E;go_in;go_wp2_with fail;refine(q0g 3 6 true rfl rfl _).mono ?_;rintro e C⟨rfl,rfl⟩;go_wp2;go_ret;exact⟨by rw[D.o];rfl,G _⟩
   ·cases I:q0o tx with
    | true=>
     have D:Hid (q0p ⟨3,tx,n⟩=0):=j6s B E I;have J:Hid (q0o tx=true):=I;clear I;go_in;go_wp2_with fail;refine(q0g 3 6 true rfl rfl _).mono ?_;rintro e C⟨rfl,rfl⟩;go_wp2_with fail;refine(q0i 3 true rfl _).mono ?_;rintro e C⟨rfl,rfl⟩;go_wp2_with fail;refine(q0i 3 true rfl _).mono ?_;rintro e C⟨rfl,rfl⟩;go_wp2_with fail;refine(q4a tx _).mono ?_;rintro e C⟨rfl,rfl⟩;rw[J.o];go_wp2;go_ret;exact⟨by rw[D.o];rfl,G _⟩
    | false=>
     have D:Hid (q0p ⟨3,tx,n⟩=5):=j6t B E I;have J:Hid (q0o tx=false):=I;clear I;go_in;go_wp2_with fail;refine(q0g 3 6 true rfl rfl _).mono ?_;rintro e C⟨rfl,rfl⟩;go_wp2_with fail;refine(q0i 3 true rfl _).mono ?_;rintro e C⟨rfl,rfl⟩;go_wp2_with fail;refine(q0i 3 true rfl _).mono ?_;rintro e C⟨rfl,rfl⟩;go_wp2_with fail;refine(q4a tx _).mono ?_;rintro e C⟨rfl,rfl⟩;rw[J.o];go_wp2;go_ret;exact⟨by rw[D.o];rfl,G _⟩
 ·by_cases B:n<0
  ·have D:Hid (q0p ⟨4,tx,n⟩=1):=j6u B;go_in;go_wp2_with fail;refine(q0g 4 6 true rfl rfl _).mono ?_;rintro e C⟨rfl,rfl⟩;go_wp2;go_ret;exact⟨by rw[D.o];rfl,G _⟩
  ·by_cases E:6<n
   ·have D:Hid (q0p ⟨4,tx,n⟩=1):=j6v B E;go_in;go_wp2_with fail;refine(q0g 4 6 true rfl rfl _).mono ?_;rintro e C⟨rfl,rfl⟩;go_wp2;go_ret;exact⟨by rw[D.o];rfl,G _⟩
   ·by_cases I:0<(tx.size:Int)
    ·have D:Hid (q0p ⟨4,tx,n⟩=2):=j6w B E I;have L:=q8w I;have R:(tx.toList != [])=true:=by simp[bne,L]
     go_in;go_wp2_with fail;refine(q0g 4 6 true rfl rfl _).mono ?_;rintro e C⟨rfl,rfl⟩;go_wp2_with fail;refine(q0i 4 false rfl _).mono ?_;rintro e C⟨rfl,rfl⟩;go_wp2;go_ret;exact⟨by rw[D.o];rfl,G _⟩
    ·have D:Hid (q0p ⟨4,tx,n⟩=0):=j6x B E I;have K:=q6k I;subst K;go_in;go_wp2_with fail;refine(q0g 4 6 true rfl rfl _).mono ?_;rintro e C⟨rfl,rfl⟩;go_wp2_with fail;refine(q0i 4 false rfl _).mono ?_;rintro e C⟨rfl,rfl⟩;go_wp2_with fail;refine(q0i 4 false rfl _).mono ?_;rintro e C⟨rfl,rfl⟩;go_wp2;go_ret;exact⟨by rw[D.o];rfl,G _⟩
 ·by_cases B:n=0
  ·by_cases E:0<(tx.size:Int)
   ·have D:Hid (q0p ⟨5,tx,n⟩=2):=j6z B E;subst B;have L:=q8w E;have R:(tx.toList != [])=true:=by simp[bne,L]
    go_in;go_wp2_with fail;refine(q0g 5 0 false rfl rfl _).mono ?_;rintro e C⟨rfl,rfl⟩;go_wp2_with fail;refine(q0i 5 false rfl _).mono ?_;rintro e C⟨rfl,rfl⟩;go_wp2;go_ret;exact⟨by rw[D.o];rfl,G _⟩
   ·have D:Hid (q0p ⟨5,tx,n⟩=0):=j7a B E;subst B;have K:=q6k E;subst K;go_in;go_wp2_with fail;refine(q0g 5 0 false rfl rfl _).mono ?_;rintro e C⟨rfl,rfl⟩;go_wp2_with fail;refine(q0i 5 false rfl _).mono ?_;rintro e C⟨rfl,rfl⟩;go_wp2_with fail;refine(q0i 5 false rfl _).mono ?_;rintro e C⟨rfl,rfl⟩;go_wp2;go_ret;exact⟨by rw[D.o];rfl,G _⟩
  ·have D:Hid (q0p ⟨5,tx,n⟩=2):=j6y B;have P:(n==0)=false:=by simp[B]
   have Q:(n != 0)=true:=by simp[B]
   go_in;go_wp2_with fail;refine(q0g 5 0 false rfl rfl _).mono ?_;rintro e C⟨rfl,rfl⟩;go_wp2;go_ret;exact⟨by rw[D.o];rfl,G _⟩
 ·by_cases B:n=0
  ·by_cases E:0<(tx.size:Int)
   ·have D:Hid (q0p ⟨6,tx,n⟩=2):=j7c B E;subst B;have L:=q8w E;have R:(tx.toList != [])=true:=by simp[bne,L]
    go_in;go_wp2_with fail;refine(q0g 6 0 false rfl rfl _).mono ?_;rintro e C⟨rfl,rfl⟩;go_wp2_with fail;refine(q0i 6 false rfl _).mono ?_;rintro e C⟨rfl,rfl⟩;go_wp2;go_ret;exact⟨by rw[D.o];rfl,G _⟩
   ·have D:Hid (q0p ⟨6,tx,n⟩=0):=j7d B E;subst B;have K:=q6k E;subst K;go_in;go_wp2_with fail;refine(q0g 6 0 false rfl rfl _).mono ?_;rintro e C⟨rfl,rfl⟩;go_wp2_with fail;refine(q0i 6 false rfl _).mono ?_;rintro e C⟨rfl,rfl⟩;go_wp2_with fail;refine(q0i 6 false rfl _).mono ?_;rintro e C⟨rfl,rfl⟩;go_wp2;go_ret;exact⟨by rw[D.o];rfl,G _⟩
  ·have D:Hid (q0p ⟨6,tx,n⟩=2):=j7b B;have P:(n==0)=false:=by simp[B]
   have Q:(n != 0)=true:=by simp[B]
   go_in;go_wp2_with fail;refine(q0g 6 0 false rfl rfl _).mono ?_;rintro e C⟨rfl,rfl⟩;go_wp2;go_ret;exact⟨by rw[D.o];rfl,G _⟩
 ·by_cases B:n=0
  ·cases E:q0o tx with
   | true=>
    have D:Hid (q0p ⟨7,tx,n⟩=0):=j7f B E;subst B;have J:Hid (q0o tx=true):=E;clear E;go_in;go_wp2_with fail;refine(q0g 7 0 false rfl rfl _).mono ?_;rintro e C⟨rfl,rfl⟩;go_wp2_with fail;refine(q0i 7 true rfl _).mono ?_;rintro e C⟨rfl,rfl⟩;go_wp2_with fail;refine(q0i 7 true rfl _).mono ?_;rintro e C⟨rfl,rfl⟩;go_wp2_with fail;refine(q4a tx _).mono ?_;rintro e C⟨rfl,rfl⟩;rw[J.o];go_wp2;go_ret;exact⟨by rw[D.o];rfl,G _⟩
   | false=>
    have D:Hid (q0p ⟨7,tx,n⟩=5):=j7g B E;subst B;have J:Hid (q0o tx=false):=E;clear E;go_in;go_wp2_with fail;refine(q0g 7 0 false rfl rfl _).mono ?_;rintro e C⟨rfl,rfl⟩;go_wp2_with fail;refine(q0i 7 true rfl _).mono ?_;rintro e C⟨rfl,rfl⟩;go_wp2_with fail;refine(q0i 7 true rfl _).mono ?_;rintro e C⟨rfl,rfl⟩;go_wp2_with fail;refine(q4a tx _).mono ?_;rintro e C⟨rfl,rfl⟩;rw[J.o];go_wp2;go_ret;exact⟨by rw[D.o];rfl,G _⟩
  ·have D:Hid (q0p ⟨7,tx,n⟩=2):=j7e B;have P:(n==0)=false:=by simp[B]
   have Q:(n != 0)=true:=by simp[B]
   go_in;go_wp2_with fail;refine(q0g 7 0 false rfl rfl _).mono ?_;rintro e C⟨rfl,rfl⟩;go_wp2;go_ret;exact⟨by rw[D.o];rfl,G _⟩
 ·by_cases B:n=0
  ·by_cases E:0<(tx.size:Int)
   ·have D:Hid (q0p ⟨8,tx,n⟩=2):=j7i B E;subst B;have L:=q8w E;have R:(tx.toList != [])=true:=by simp[bne,L]
    go_in;go_wp2_with fail;refine(q0g 8 0 false rfl rfl _).mono ?_;rintro e C⟨rfl,rfl⟩;go_wp2_with fail;refine(q0i 8 false rfl _).mono ?_;rintro e C⟨rfl,rfl⟩;go_wp2;go_ret;exact⟨by rw[D.o];rfl,G _⟩
   ·have D:Hid (q0p ⟨8,tx,n⟩=0):=j7j B E;subst B;have K:=q6k E;subst K;go_in;go_wp2_with fail;refine(q0g 8 0 false rfl rfl _).mono ?_;rintro e C⟨rfl,rfl⟩;go_wp2_with fail;refine(q0i 8 false rfl _).mono ?_;rintro e C⟨rfl,rfl⟩;go_wp2_with fail;refine(q0i 8 false rfl _).mono ?_;rintro e C⟨rfl,rfl⟩;go_wp2;go_ret;exact⟨by rw[D.o];rfl,G _⟩
  ·have D:Hid (q0p ⟨8,tx,n⟩=2):=j7h B;have P:(n==0)=false:=by simp[B]
   have Q:(n != 0)=true:=by simp[B]
   go_in;go_wp2_with fail;refine(q0g 8 0 false rfl rfl _).mono ?_;rintro e C⟨rfl,rfl⟩;go_wp2;go_ret;exact⟨by rw[D.o];rfl,G _⟩
 ·by_cases B:n=0
  ·have D:Hid (q0p ⟨9,tx,n⟩=q2x tx):=by
    show _=_;by_cases h:q2x tx=0
    ·rw[j7l B h,h]
    ·exact j7m B h
   subst B;go_in;go_wp2_with fail;refine(q0g 9 0 false rfl rfl _).mono ?_;rintro e C⟨rfl,rfl⟩;go_wp2_with fail;refine(j0z tx _ hs).mono ?_;rintro e C⟨A,Y,c,rfl,X,W,U⟩;have V:Below w w C:=z5w Zb Zl U;clear U;go_wp2_with fail;refine(q6m Y A c _ X).mono ?_;rintro e Z⟨rfl,rfl⟩;rw[W,<-D.o];go_wp2;go_ret;exact⟨rfl,V⟩
  ·have D:Hid (q0p ⟨9,tx,n⟩=2):=j7k B;have P:(n==0)=false:=by simp[B]
   have Q:(n != 0)=true:=by simp[B]
   go_in;go_wp2_with fail;refine(q0g 9 0 false rfl rfl _).mono ?_;rintro e C⟨rfl,rfl⟩;go_wp2;go_ret;exact⟨by rw[D.o];rfl,G _⟩
end Go.Proofs.YtfdppahhbpfnoaaGreatDoor
