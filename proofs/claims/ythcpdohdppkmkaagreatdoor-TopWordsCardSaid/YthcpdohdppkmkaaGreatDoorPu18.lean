import Derived.Test.YthcpdohdppkmkaaGreatDoorPu17
open Go.Proofs.Tryz
namespace Go.Proofs.YthcpdohdppkmkaaGreatDoor
open Go Go.RowKit
structure Inv(sb g mb wd:Nat)(R:List Pl)(w:World)(S:Nat->Nat->Bool):Prop where
 pl:q5t w sb g wd R
 c2:w.cell? ⟨sb,2,none⟩=some (.map (some mb))
 me:Mem w mb (crs R wd) S
 cl:∀p c,S p c=true->p<R.length/\c<=wd/\((crs R wd p c).np<R.length->S (crs R wd p c).np (crs R wd p c).nc=true)
theorem k5o{w:World}{b o:Nat}{v:Value}{es:Array MapEntry}{cl:Nat}(h:w.cell? ⟨b,o,none⟩=some v)(h2:w.heap[b]?=some (.map es cl)):False:=by
 simp[World.cell?,h2]at h
section
variable {sb g mb wd:Nat} {R:List Pl} {w w':World} {S:Nat→Nat→Bool}
theorem Inv.nb(h:Inv sb g mb wd R w S):sb≠mb:=by
 intro e;subst e;obtain⟨D,n,⟨es,cl,h1,_⟩,_⟩:=h.me;exact k5o h.c2 h1
theorem Inv.ng(h:Inv sb g mb wd R w S):g≠mb:=by
 intro e;subst e;obtain⟨D,n,⟨es,cl,h1,_⟩,_⟩:=h.me;obtain⟨cs,T,h2⟩:=h.pl.pr.row;rw[h1]at h2;cases h2
theorem Inv.lt(h:Inv sb g mb wd R w S):sb<w.heap.size/\g<w.heap.size/\mb<w.heap.size:=⟨h.pl.ltB,h.pl.ltG,h.me.lt⟩
theorem Inv.kept(h:Inv sb g mb wd R w S)(hb:∀k,k<w.heap.size->w'.heap[k]?=w.heap[k]?):Inv sb g mb wd R w' S:=
 ⟨h.pl.kept (hb _ h.lt.1) (hb _ h.lt.2.1),(World.cell?_of_block (w:=w) (a:=⟨sb,2,none⟩) (hb _ h.lt.1)).trans h.c2,h.me.kept (hb _ h.lt.2.2),h.cl⟩
theorem Inv.kept3(h:Inv sb g mb wd R w S)(h1:w'.heap[sb]?=w.heap[sb]?)(h2:w'.heap[g]?=w.heap[g]?)(h3:w'.heap[mb]?=w.heap[mb]?):Inv sb g mb wd R w' S:=
 ⟨h.pl.kept h1 h2,(World.cell?_of_block (w:=w) (a:=⟨sb,2,none⟩) h1).trans h.c2,h.me.kept h3,h.cl⟩
theorem y5k{wr:World}{b k:Nat}(hk:k≠b)(v0 v1 v2 v3 v4:Value):(((((wr.setCell ⟨b,0,none⟩ v0).setCell ⟨b,1,none⟩ v1).setCell ⟨b,2,none⟩ v2).setCell ⟨b,3,none⟩ v3).setCell ⟨b,4,none⟩ v4).heap[k]?=wr.heap[k]?:=
 (Below.heap_setCell _ _ _ _ hk).trans ((Below.heap_setCell _ _ _ _ hk).trans ((Below.heap_setCell _ _ _ _ hk).trans ((Below.heap_setCell _ _ _ _ hk).trans (Below.heap_setCell _ _ _ _ hk))))
theorem Inv.set5{b:Nat}(h:Inv sb g mb wd R w S)(h1:sb≠b)(h2:g≠b)(h3:mb≠b)(v0 v1 v2 v3 v4:Value):Inv sb g mb wd R (((((w.setCell ⟨b,0,none⟩ v0).setCell ⟨b,1,none⟩ v1).setCell ⟨b,2,none⟩ v2).setCell ⟨b,3,none⟩ v3).setCell ⟨b,4,none⟩ v4) S:=
 h.kept3 (y5k h1 _ _ _ _ _) (y5k h2 _ _ _ _ _) (y5k h3 _ _ _ _ _)
theorem Inv.W(h:Inv sb g mb wd R w S)(hb:Below w w w'):Inv sb g mb wd R w' S:=h.kept fun k hk=>hb.block k hk
theorem Inv.alloc(h:Inv sb g mb wd R w S)(O:Obj):Inv sb g mb wd R (w.alloc O) S:=h.kept fun _ hk=>Below.heap_alloc _ _ _ hk
theorem Inv.more{p c:Nat}(h:Inv sb g mb wd R w S)(hg:w.grownBy w' (some mb))(hm:Mem w' mb (crs R wd) (k1k S p c))(hp:p<R.length)(hc:c<=wd)(hn:(crs R wd p c).np<R.length->S (crs R wd p c).np (crs R wd p c).nc=true):Inv sb g mb wd R w' (k1k S p c) where
 pl:=h.pl.kept (hg.block _ h.lt.1 (by intro e;exact h.nb (Option.some.inj e))) (hg.block _ h.lt.2.1 (by intro e;exact h.ng (Option.some.inj e)))
 c2:=(World.cell?_of_block (w:=w) (a:=⟨sb,2,none⟩) (hg.block _ h.lt.1 (by intro e;exact h.nb (Option.some.inj e)))).trans h.c2
 me:=hm
 cl p' c' hs:=by
  have hor:∀a b,S a b=true->k1k S p c a b=true:=fun a b hab=>by simp[k1k,hab]
  by_cases e:p'=p/\c'=c
  ·obtain⟨rfl,rfl⟩:=e;exact⟨hp,hc,fun hl=>hor _ _ (hn hl)⟩
  ·have hs':S p' c'=true:=by
    simp only[k1k,Bool.or_eq_true,Bool.and_eq_true,decide_eq_true_eq]at hs;rcases hs with hs|hs
    ·exact hs
    ·exact absurd hs e
   obtain⟨h1,h2,h3⟩:=h.cl p' c' hs';exact⟨h1,h2,fun hl=>hor _ _ (h3 hl)⟩
def Left(sb g mb wd:Nat)(R:List Pl)(S:Nat->Nat->Bool)(lo p c:Nat)(w w':World):Prop:=
 q0p w mb w w'/\∃S',Inv sb g mb wd R w' S'/\(∀a b,S a b=true->S' a b=true)/\(∀a b,S' a b=true->S a b=true\/lo<=a)/\(p<R.length->S' p c=true)
theorem z7p{lo p c:Nat}(h:Inv sb g mb wd R w S)(hb:Below w w w')(hp:p<R.length->S p c=true):Left sb g mb wd R S lo p c w w':=
 ⟨q0p.of hb,S,h.W hb,fun _ _ h=>h,fun _ _ h=>.inl h,hp⟩
theorem y1e{n b:Nat}{wr:World}(h:Below n w wr)(hb:n<=b)(v0 v1 v2 v3 v4:Value):Below n w (((((wr.setCell ⟨b,0,none⟩ v0).setCell ⟨b,1,none⟩ v1).setCell ⟨b,2,none⟩ v2).setCell ⟨b,3,none⟩ v3).setCell ⟨b,4,none⟩ v4):=
 ((((h.setCell (p:=⟨b,0,none⟩) hb _).setCell (p:=⟨b,1,none⟩) hb _).setCell (p:=⟨b,2,none⟩) hb _).setCell (p:=⟨b,3,none⟩) hb _).setCell (p:=⟨b,4,none⟩) hb _
theorem k5m{n b m:Nat}{wr:World}(h:q0p n m w wr)(hb:n<=b)(v0 v1 v2 v3 v4:Value):q0p n m w (((((wr.setCell ⟨b,0,none⟩ v0).setCell ⟨b,1,none⟩ v1).setCell ⟨b,2,none⟩ v2).setCell ⟨b,3,none⟩ v3).setCell ⟨b,4,none⟩ v4):=
 ((((h.setCell (p:=⟨b,0,none⟩) (.inr hb) _).setCell (p:=⟨b,1,none⟩) (.inr hb) _).setCell (p:=⟨b,2,none⟩) (.inr hb) _).setCell (p:=⟨b,3,none⟩) (.inr hb) _).setCell (p:=⟨b,4,none⟩) (.inr hb) _
def j5f(sb g mb wd:Nat)(R:List Pl)(i c:Nat):Prop:=∀w S,Inv sb g mb wd R w S->
 Calls prog 63 #[.pointer (some ⟨sb,0,none⟩),.agg #[.int .i64 i,.int .i64 c]] w fun e w'=>e=.returned (cvV (if i<R.length then crs R wd i c else zCv))/\Left sb g mb wd R S i i c w w'
def z6m(sb g mb wd:Nat)(R:List Pl)(i c ch:Nat):Prop:=∀w S,Inv sb g mb wd R w S->
 Calls prog 180 #[.pointer (some ⟨sb,0,none⟩),.agg #[.int .i64 i,.int .i64 c],.int .i64 ch] w fun e w'=>e=.returned (cvV (tkC R wd i c ch))/\Left sb g mb wd R S (i+1) (q3h R wd i c ch).np (q3h R wd i c ch).nc w w'
def k5i(sb g mb wd:Nat)(R:List Pl)(i c:Nat):Prop:=∀w S,Inv sb g mb wd R w S->
 Calls prog 110 #[.pointer (some ⟨sb,0,none⟩),.agg #[.int .i64 i,.int .i64 c]] w fun e w'=>e=.returned (cvV (crs R wd i c))/\Left sb g mb wd R S (i+1) (crs R wd i c).np (crs R wd i c).nc w w'
end
set_option maxRecDepth 100000
set_option maxHeartbeats 4000000
theorem j5q{w wr:World}(h:Below w w wr)(O:Obj):Below w w (wr.alloc O):=h.alloc h.size O
theorem k9f{B:Nat}{w wr:World}(h:Below B w wr)(n:Nat):Below B w (wr.drewN n):=h.trans ⟨rfl,rfl,rfl,Nat.le_refl _,fun _ _=>rfl⟩
theorem j1j(sb g mb wd i c:Nat)(R:List Pl)(hi:i=R.length):j5f sb g mb wd R i c:=by
 intro w S h;have c0:=h.pl.c0;have H:Hid (Inv sb g mb wd R w S):=h;have hlt:=h.lt.1;have heq:((i:Int)==(R.length:Int))=true:=by rw[hi];simp
 have hz:(if i<R.length then crs R wd i c else zCv)=zCv:=if_neg (by omega);rw[hz,cvV,zCv];have c0':∀O1 O2,((w.alloc O1).alloc O2).cell? ⟨sb,0,none⟩=some (.slice (some ⟨g,0,none⟩) R.length R.length):=fun O1 O2=>ka (ka c0 O1) O2
 have HB:Hid (∀O1 O2,Below w w ((w.alloc O1).alloc O2)):=fun O1 O2=>((Below.refl _ w).alloc Zl O1).alloc (by simp) O2
 have HI:Hid (i=R.length):=hi;clear h c0 hz hi;go_in;go_wp2_with fail
 go_quiet (fail)
 go_wp2;refine bodyPost_ret (v:=.agg #[.int .i64 0,.int .i64 0,.int .i64 0,.int .i64 0,.int .i64 0]) (by simp[results,Tryz.results63,go_sem]) rfl ?_;exact⟨rfl,z7p H.o (y1e (k9f (HB.o _ _) nq) (by omega) _ _ _ _ _) (fun h=>absurd h (by rw[HI.o];omega))⟩
structure Sk1(sb g mb wd i c:Nat)(R:List Pl)(S:Nat->Nat->Bool)(w w1:World):Prop where
 inv:Inv sb g mb wd R w1 S
 sz:w1.heap.size=w.heap.size+1+1
 a0:w1.cell? ⟨w,0,none⟩=some (.int .i64 i)
 a1:w1.cell? ⟨w,1,none⟩=some (.int .i64 c)
 r0:w1.cell? ⟨w.heap.size+1,0,none⟩=some (.int .i64 0)
 r1:w1.cell? ⟨w.heap.size+1,1,none⟩=some (.int .i64 0)
 r2:w1.cell? ⟨w.heap.size+1,2,none⟩=some (.int .i64 0)
 r3:w1.cell? ⟨w.heap.size+1,3,none⟩=some (.int .i64 0)
 r4:w1.cell? ⟨w.heap.size+1,4,none⟩=some (.int .i64 0)
 fr:z4i w1 (w.heap.size+1)
 bw:Below w w w1
theorem z8d{sb g mb wd i c nq:Nat}{R:List Pl}{S:Nat->Nat->Bool}{w:World}(h:Inv sb g mb wd R w S):
  Sk1 sb g mb wd i c R S w (((w.alloc (.cells #[.int .i64 i,.int .i64 c] 121)).alloc (.cells #[.int .i64 0,.int .i64 0,.int .i64 0,.int .i64 0,.int .i64 0] 123)).drewN nq):=by
 have hb:Below w w (((w.alloc (.cells #[.int .i64 i,.int .i64 c] 121)).alloc (.cells #[.int .i64 0,.int .i64 0,.int .i64 0,.int .i64 0,.int .i64 0] 123)).drewN nq):=
  (((Below.refl _ w).alloc Zl _).alloc (by simp) _).trans ⟨rfl,rfl,rfl,Nat.le_refl _,fun _ _=>rfl⟩
 have n1:=heap_alloc_new (w.alloc (.cells #[.int .i64 i,.int .i64 c] 121)) (.cells #[.int .i64 0,.int .i64 0,.int .i64 0,.int .i64 0,.int .i64 0] 123);have s1:(w.alloc (.cells #[.int .i64 i,.int .i64 c] 121)).heap.size=w.heap.size+1:=by simp
 rw[s1]at n1;exact⟨h.W hb,by simp,by simp[go_sem],by simp[go_sem],by simp[go_sem],by simp[go_sem],by simp[go_sem],by simp[go_sem],by simp[go_sem],⟨_,_,n1⟩,hb⟩
theorem j3s(sb g mb wd i c:Nat)(R:List Pl)(hi:i<R.length)(hR:R.length<=400)(hc:c<=100)(w:World)(S:Nat->Nat->Bool)(h:Inv sb g mb wd R w S)(hS:S i c=true):
  Calls prog 63 #[.pointer (some ⟨sb,0,none⟩),.agg #[.int .i64 i,.int .i64 c]] w fun e w'=>e=.returned (cvV (crs R wd i c))/\Left sb g mb wd R S i i c w w':=by
 have c0:=h.pl.c0;have H:Hid (Inv sb g mb wd R w S):=h;have hlt:=h.lt.1;have hne:((i:Int)==(R.length:Int))=false:=beq_eq_false_iff_ne.2 (by omega);have c0':∀O1 O2,((w.alloc O1).alloc O2).cell? ⟨sb,0,none⟩=some (.slice (some ⟨g,0,none⟩) R.length R.length):=fun O1 O2=>ka (ka c0 O1) O2
 have HS:Hid (S i c=true):=hS
 have HLK:Hid (∀W,Mem W mb (crs R wd) S->(Instr.lookup 117 (.map (some mb)) (.agg #[.int .i64 (i:Int),.int .i64 (c:Int)]) true).run prog W=.ok (.tuple #[.agg #[.int .i64 (crs R wd i c).o,.int .i64 (crs R wd i c).l,.int .i64 (crs R wd i c).ch,.int .i64 (crs R wd i c).np,.int .i64 (crs R wd i c).nc],.bool true]) W):=fun W hW=>by
  have:=hW.look_ok (p:=i) (c:=c) (by omega) hc
  rw[HS.o,if_pos rfl]at this;exact this
 rw[cvV];clear h c0 hS;generalize crs R wd i c=k at *;go_in;go_wp2_with fail
 go_quiet (fail)
 go_wp2_with fail;have hsk:=z8d (i:=i) (c:=c) (nq:=nq) H.o
 generalize((w.alloc (.cells #[.int .i64 i,.int .i64 c] 121)).alloc (.cells #[.int .i64 0,.int .i64 0,.int .i64 0,.int .i64 0,.int .i64 0] 123)).drewN nq=w1 at *
 have HK:Hid (Sk1 sb g mb wd i c R S w w1):=hsk;have c2:=hsk.inv.c2;obtain⟨_,hsz,a0,a1,r0,r1,r2,r3,r4,fr,_⟩:=hsk;have hL0:=HLK.o w1.drew (HK.o.inv.me.kept rfl);have hL1:=fun O=>HLK.o (w1.alloc O).drew ((HK.o.inv.alloc O).me.kept rfl)
 have q0:=fun O=>ka r0 O
 have q1:=fun O=>ka r1 O
 have q2:=fun O=>ka r2 O
 have q3:=fun O=>ka r3 O
 have q4:=fun O=>ka r4 O
 have z0:=fun O=>kaf (o:=0) (O:=O) fr.lt fr.frozen
 have z1:=fun O=>kaf (o:=1) (O:=O) fr.lt fr.frozen
 have z2:=fun O=>kaf (o:=2) (O:=O) fr.lt fr.frozen
 have z3:=fun O=>kaf (o:=3) (O:=O) fr.lt fr.frozen
 have z4:=fun O=>kaf (o:=4) (O:=O) fr.lt fr.frozen
 have y0:w1.frozen? ⟨w.heap.size+1,0,none⟩=false:=fr.frozen;have y1:w1.frozen? ⟨w.heap.size+1,1,none⟩=false:=fr.frozen;have y2:w1.frozen? ⟨w.heap.size+1,2,none⟩=false:=fr.frozen;have y3:w1.frozen? ⟨w.heap.size+1,3,none⟩=false:=fr.frozen;have y4:w1.frozen? ⟨w.heap.size+1,4,none⟩=false:=fr.frozen;clear fr c0'
 go_region_held3 (fun w'=>w'.cell? ⟨sb,2,none⟩=some (.map (some mb))/\w'.cell? ⟨w,0,none⟩=some (.int .i64 i)/\w'.cell? ⟨w,1,none⟩=some (.int .i64 c)/\(Instr.lookup 117 (.map (some mb)) (.agg #[.int .i64 (i:Int),.int .i64 (c:Int)]) true).run prog w'=.ok (.tuple #[.agg #[.int .i64 k.o,.int .i64 k.l,.int .i64 k.ch,.int .i64 k.np,.int .i64 k.nc],.bool true]) w')
  (first|exact⟨c2,a0,a1,hL0⟩|exact⟨ka c2 _,ka a0 _,ka a1 _,hL1 _⟩) (fail)
 all_goals
  go_wp2;exact bodyPost_ret (v:=.agg #[.int .i64 k.o,.int .i64 k.l,.int .i64 k.ch,.int .i64 k.np,.int .i64 k.nc]) (by simp[results,Tryz.results63,go_sem,hsz,r0,r1,r2,r3,r4]) rfl ⟨rfl,z7p H.o (Below.drew (j5q (y1e HK.o.bw (by omega) _ _ _ _ _) _)) (fun _=>HS.o)⟩
set_option maxHeartbeats 8000000
theorem j2y{w w':World}{m:Nat}(hg:w.grownBy w' (some m)):q0p w m w w':=
 ⟨hg.os,hg.tape,hg.output,hg.size,fun k hk hne=>hg.block k hk (by intro e;exact hne (Option.some.inj e))⟩
structure SkB(w w2:World)(i c:Nat)(k:Cv):Prop where
 a0:w2.cell? ⟨w,0,none⟩=some (.int .i64 i)
 a1:w2.cell? ⟨w,1,none⟩=some (.int .i64 c)
 r0:w2.cell? ⟨w.heap.size+1,0,none⟩=some (.int .i64 0)
 r1:w2.cell? ⟨w.heap.size+1,1,none⟩=some (.int .i64 0)
 r2:w2.cell? ⟨w.heap.size+1,2,none⟩=some (.int .i64 0)
 r3:w2.cell? ⟨w.heap.size+1,3,none⟩=some (.int .i64 0)
 r4:w2.cell? ⟨w.heap.size+1,4,none⟩=some (.int .i64 0)
 t0:w2.cell? ⟨w.heap.size+1+1,0,none⟩=some (.int .i64 k.o)
 t1:w2.cell? ⟨w.heap.size+1+1,1,none⟩=some (.int .i64 k.l)
 t2:w2.cell? ⟨w.heap.size+1+1,2,none⟩=some (.int .i64 k.ch)
 t3:w2.cell? ⟨w.heap.size+1+1,3,none⟩=some (.int .i64 k.np)
 t4:w2.cell? ⟨w.heap.size+1+1,4,none⟩=some (.int .i64 k.nc)
 fr:z4i w2 (w.heap.size+1)
 ft:z4i w2 (w.heap.size+1+1)
theorem SkB.kept{w w2 w3:World}{i c m:Nat}{k:Cv}(h:SkB w w2 i c k)(hb:q0p w2 m w2 w3)(hm:m<w.heap.size):SkB w w3 i c k:=by
 have hlt:=h.ft.lt;have hc:∀b o v,b=w.heap.size\/b=w.heap.size+1\/b=w.heap.size+1+1->w2.cell? ⟨b,o,none⟩=some v->w3.cell? ⟨b,o,none⟩=some v:=fun b o v he hv=>(hb.cell (p:=⟨b,o,none⟩) (by simp;omega) (by simp;omega)).trans hv
 exact⟨hc _ _ _ (.inl rfl) h.a0,hc _ _ _ (.inl rfl) h.a1,hc _ _ _ (.inr (.inl rfl)) h.r0,hc _ _ _ (.inr (.inl rfl)) h.r1,hc _ _ _ (.inr (.inl rfl)) h.r2,hc _ _ _ (.inr (.inl rfl)) h.r3,hc _ _ _ (.inr (.inl rfl)) h.r4,
  hc _ _ _ (.inr (.inr rfl)) h.t0,hc _ _ _ (.inr (.inr rfl)) h.t1,hc _ _ _ (.inr (.inr rfl)) h.t2,hc _ _ _ (.inr (.inr rfl)) h.t3,hc _ _ _ (.inr (.inr rfl)) h.t4,h.fr.kept (hb.block _ (by omega) (by omega)),h.ft.kept (hb.block _ (by omega) (by omega))⟩
theorem g2s{sb g mb wd i c:Nat}{R:List Pl}{S:Nat->Nat->Bool}{w w1:World}(h:Sk1 sb g mb wd i c R S w w1):SkB w (w1.alloc (.cells #[.int .i64 0,.int .i64 0,.int .i64 0,.int .i64 0,.int .i64 0] 123)).drew i c zCv:=by
 have n1:=heap_alloc_new w1 (.cells #[.int .i64 0,.int .i64 0,.int .i64 0,.int .i64 0,.int .i64 0] 123);rw[h.sz]at n1;have hc:∀o v,(w1.alloc (.cells #[.int .i64 0,.int .i64 0,.int .i64 0,.int .i64 0,.int .i64 0] 123)).cell? ⟨w.heap.size+1+1,o,none⟩=v->(w1.alloc (.cells #[.int .i64 0,.int .i64 0,.int .i64 0,.int .i64 0,.int .i64 0] 123)).drew.cell? ⟨w.heap.size+1+1,o,none⟩=v:=fun _ _ h=>h
 refine⟨ka h.a0 _,ka h.a1 _,ka h.r0 _,ka h.r1 _,ka h.r2 _,ka h.r3 _,ka h.r4 _,hc _ _ ?_,hc _ _ ?_,hc _ _ ?_,hc _ _ ?_,hc _ _ ?_,h.fr.kept (Below.heap_alloc _ _ _ h.fr.lt),⟨_,_,n1⟩⟩
 all_goals simp[World.cell?,n1,zCv]
theorem SkB.put{w w2:World}{i c:Nat}{k k':Cv}(h:SkB w w2 i c k):SkB w (((((w2.setCell ⟨w.heap.size+1+1,0,none⟩ (.int .i64 k'.o)).setCell ⟨w.heap.size+1+1,1,none⟩ (.int .i64 k'.l)).setCell ⟨w.heap.size+1+1,2,none⟩ (.int .i64 k'.ch)).setCell ⟨w.heap.size+1+1,3,none⟩ (.int .i64 k'.np)).setCell ⟨w.heap.size+1+1,4,none⟩ (.int .i64 k'.nc)) i c k':=by
 have hc:∀b o v v0 v1 v2 v3 v4,b≠w.heap.size+1+1->w2.cell? ⟨b,o,none⟩=some v->(((((w2.setCell ⟨w.heap.size+1+1,0,none⟩ v0).setCell ⟨w.heap.size+1+1,1,none⟩ v1).setCell ⟨w.heap.size+1+1,2,none⟩ v2).setCell ⟨w.heap.size+1+1,3,none⟩ v3).setCell ⟨w.heap.size+1+1,4,none⟩ v4).cell? ⟨b,o,none⟩=some v:=
  fun b o v v0 v1 v2 v3 v4 hb hv=>(cso (.inl hb.symm)).trans ((cso (.inl hb.symm)).trans ((cso (.inl hb.symm)).trans ((cso (.inl hb.symm)).trans ((cso (.inl hb.symm)).trans hv))))
 have t0:=h.t0;have t1:=h.t1;have t2:=h.t2;have t3:=h.t3;have t4:=h.t4;refine⟨hc _ _ _ _ _ _ _ _ (by omega) h.a0,hc _ _ _ _ _ _ _ _ (by omega) h.a1,hc _ _ _ _ _ _ _ _ (by omega) h.r0,hc _ _ _ _ _ _ _ _ (by omega) h.r1,hc _ _ _ _ _ _ _ _ (by omega) h.r2,hc _ _ _ _ _ _ _ _ (by omega) h.r3,hc _ _ _ _ _ _ _ _ (by omega) h.r4,?_,?_,?_,?_,?_,?_,?_⟩
 ·exact(cso (by omega)).trans ((cso (by omega)).trans ((cso (by omega)).trans ((cso (by omega)).trans (css t0))))
 ·exact(cso (by omega)).trans ((cso (by omega)).trans ((cso (by omega)).trans (css ((cso (by omega)).trans t1))))
 ·exact(cso (by omega)).trans ((cso (by omega)).trans (css ((cso (by omega)).trans ((cso (by omega)).trans t2))))
 ·exact(cso (by omega)).trans (css ((cso (by omega)).trans ((cso (by omega)).trans ((cso (by omega)).trans t3))))
 ·exact css ((cso (by omega)).trans ((cso (by omega)).trans ((cso (by omega)).trans ((cso (by omega)).trans t4))))
 ·exact h.fr.set.set.set.set.set
 ·exact h.ft.set.set.set.set.set
theorem v9k(sb g mb wd i c:Nat)(R:List Pl)(hi:i<R.length)(hR:R.length<=400)(hc:c<=100)(hcw:c<=wd)(hCH:k5i sb g mb wd R i c)(w:World)(S:Nat->Nat->Bool)(h:Inv sb g mb wd R w S)(hS:S i c=false):
  Calls prog 63 #[.pointer (some ⟨sb,0,none⟩),.agg #[.int .i64 i,.int .i64 c]] w fun e w'=>e=.returned (cvV (crs R wd i c))/\Left sb g mb wd R S i i c w w':=by
 have c0:=h.pl.c0;have H:Hid (Inv sb g mb wd R w S):=h;have HCH:Hid (k5i sb g mb wd R i c):=hCH;have hlt:=h.lt;have hne:((i:Int)==(R.length:Int))=false:=beq_eq_false_iff_ne.2 (by omega);have c0':∀O1 O2,((w.alloc O1).alloc O2).cell? ⟨sb,0,none⟩=some (.slice (some ⟨g,0,none⟩) R.length R.length):=fun O1 O2=>ka (ka c0 O1) O2
 have HS:Hid (S i c=false):=hS
 have HLK:Hid (∀W,Mem W mb (crs R wd) S->(Instr.lookup 117 (.map (some mb)) (.agg #[.int .i64 (i:Int),.int .i64 (c:Int)]) true).run prog W=.ok (.tuple #[.agg #[.int .i64 0,.int .i64 0,.int .i64 0,.int .i64 0,.int .i64 0],.bool false]) W):=fun W hW=>by
  have:=hW.look_ok (p:=i) (c:=c) (by omega) hc
  rw[HS.o,if_neg (by simp)]at this;exact this
 rw[cvV];clear h c0 hS hCH;go_in;go_wp2_with fail
 go_quiet (fail)
 go_wp2_with fail;have hsk:=z8d (i:=i) (c:=c) (nq:=nq) H.o
 generalize((w.alloc (.cells #[.int .i64 i,.int .i64 c] 121)).alloc (.cells #[.int .i64 0,.int .i64 0,.int .i64 0,.int .i64 0,.int .i64 0] 123)).drewN nq=w1 at *
 have HK:Hid (Sk1 sb g mb wd i c R S w w1):=hsk;have c2:=hsk.inv.c2;obtain⟨_,hsz,a0,a1,_,_,_,_,_,_,_⟩:=hsk;have hL0:=HLK.o w1.drew (HK.o.inv.me.kept rfl);have hL1:=fun O=>HLK.o (w1.alloc O).drew ((HK.o.inv.alloc O).me.kept rfl)
 have a0':=fun O=>ka a0 O
 have a1':=fun O=>ka a1 O
 clear c0'
 go_region_held3 (fun w'=>w'.cell? ⟨sb,2,none⟩=some (.map (some mb))/\w'.cell? ⟨w,0,none⟩=some (.int .i64 i)/\w'.cell? ⟨w,1,none⟩=some (.int .i64 c)/\(Instr.lookup 117 (.map (some mb)) (.agg #[.int .i64 (i:Int),.int .i64 (c:Int)]) true).run prog w'=.ok (.tuple #[.agg #[.int .i64 0,.int .i64 0,.int .i64 0,.int .i64 0,.int .i64 0],.bool false]) w')
  (first|exact⟨c2,a0,a1,hL0⟩|exact⟨ka c2 _,ka a0 _,ka a1 _,hL1 _⟩) (fail)
 all_goals
  go_wp2_with fail;refine(HCH.o (w1.alloc (.cells #[.int .i64 0,.int .i64 0,.int .i64 0,.int .i64 0,.int .i64 0] 123)).drew S ((HK.o.inv.alloc _).kept fun _ _=>rfl)).mono ?_;rintro e w2⟨rfl,hL⟩;obtain⟨hbx,S',hI,hmo,hlo,hin⟩:=hL;have hB:=(g2s HK.o).kept hbx hlt.2.2;have HBX:Hid (q0p w mb w w2):=((q0p.of (HK.o.bw.alloc HK.o.bw.size _)).drew).trans (hbx.mono (by show w.heap.size<=(w1.alloc _).heap.size;simp;omega));have HSB:Hid (SkB w w2 i c zCv):=hB;obtain⟨_,_,_,_,_,_,_,t0,t1,t2,t3,t4,_,ft⟩:=hB;have y0:w2.frozen? ⟨w.heap.size+1+1,0,none⟩=false:=ft.frozen;have y1:w2.frozen? ⟨w.heap.size+1+1,1,none⟩=false:=ft.frozen;have y2:w2.frozen? ⟨w.heap.size+1+1,2,none⟩=false:=ft.frozen;have y3:w2.frozen? ⟨w.heap.size+1+1,3,none⟩=false:=ft.frozen;have y4:w2.frozen? ⟨w.heap.size+1+1,4,none⟩=false:=ft.frozen;have HI:Hid (Inv sb g mb wd R w2 S'):=hI;have HM:Hid ((∀a b,S a b=true->S' a b=true)/\(∀a b,S' a b=true->S a b=true\/i+1<=a)/\((crs R wd i c).np<R.length->S' (crs R wd i c).np (crs R wd i c).nc=true)):=⟨hmo,hlo,hin⟩;rw[cvV];have HSB3:Hid (SkB w (((((w2.setCell ⟨w.heap.size+1+1,0,none⟩ (.int .i64 (crs R wd i c).o)).setCell ⟨w.heap.size+1+1,1,none⟩ (.int .i64 (crs R wd i c).l)).setCell ⟨w.heap.size+1+1,2,none⟩ (.int .i64 (crs R wd i c).ch)).setCell ⟨w.heap.size+1+1,3,none⟩ (.int .i64 (crs R wd i c).np)).setCell ⟨w.heap.size+1+1,4,none⟩ (.int .i64 (crs R wd i c).nc)) i c (crs R wd i c)):=HSB.o.put;have HI3:Hid (Inv sb g mb wd R (((((w2.setCell ⟨w.heap.size+1+1,0,none⟩ (.int .i64 (crs R wd i c).o)).setCell ⟨w.heap.size+1+1,1,none⟩ (.int .i64 (crs R wd i c).l)).setCell ⟨w.heap.size+1+1,2,none⟩ (.int .i64 (crs R wd i c).ch)).setCell ⟨w.heap.size+1+1,3,none⟩ (.int .i64 (crs R wd i c).np)).setCell ⟨w.heap.size+1+1,4,none⟩ (.int .i64 (crs R wd i c).nc)) S'):=HI.o.set5 (by omega) (by omega) (by omega) _ _ _ _ _;have HBX3:Hid (q0p w mb w (((((w2.setCell ⟨w.heap.size+1+1,0,none⟩ (.int .i64 (crs R wd i c).o)).setCell ⟨w.heap.size+1+1,1,none⟩ (.int .i64 (crs R wd i c).l)).setCell ⟨w.heap.size+1+1,2,none⟩ (.int .i64 (crs R wd i c).ch)).setCell ⟨w.heap.size+1+1,3,none⟩ (.int .i64 (crs R wd i c).np)).setCell ⟨w.heap.size+1+1,4,none⟩ (.int .i64 (crs R wd i c).nc))):=k5m HBX.o (by omega) _ _ _ _ _;clear hbx hI hmo hlo hin ft c2 a0 a1 hL0 hL1 a0' a1';go_wp2_with fail;clear t0 t1 t2 t3 t4 y0 y1 y2 y3 y4 HI HBX HSB
  generalize((((w2.setCell ⟨w.heap.size+1+1,0,none⟩ (.int .i64 (crs R wd i c).o)).setCell ⟨w.heap.size+1+1,1,none⟩ (.int .i64 (crs R wd i c).l)).setCell ⟨w.heap.size+1+1,2,none⟩ (.int .i64 (crs R wd i c).ch)).setCell ⟨w.heap.size+1+1,3,none⟩ (.int .i64 (crs R wd i c).np)).setCell ⟨w.heap.size+1+1,4,none⟩ (.int .i64 (crs R wd i c).nc)=w3 at *
  have hS':S' i c=false:=by
   cases e:S' i c with
   | false=>rfl
   | true=>
    rcases HM.o.2.1 i c e with e2|e2
    ·rw[HS.o]at e2;cases e2
    ·omega
  obtain⟨w4,hrun,hm4,hg4⟩:=Mem.store (w:=w3.drew) (p:=i) (c:=c) (HI3.o.me.kept rfl) (by omega) hc hS';have hbx4:q0p w3 mb w3 w4:=⟨hg4.os,hg4.tape,hg4.output,hg4.size,(j2y hg4).block⟩;have HSB4:Hid (SkB w w4 i c (crs R wd i c)):=HSB3.o.kept hbx4 hlt.2.2;have HI4:Hid (Inv sb g mb wd R w4 (k1k S' i c)):=Inv.more (w:=w3.drew) (HI3.o.kept fun _ _=>rfl) hg4 hm4 hi hcw HM.o.2.2;have HBX4:Hid (q0p w mb w w4):=HBX3.o.trans (hbx4.mono HBX3.o.size);have c2:=HI3.o.c2;have c24:=HI4.o.c2;obtain⟨a0,a1,_,_,_,_,_,t0,t1,t2,t3,t4,_,_⟩:=HSB3.o;obtain⟨b0,b1,r0,r1,r2,r3,r4,u0,u1,u2,u3,u4,fr,_⟩:=HSB4.o;have y0:w4.frozen? ⟨w.heap.size+1,0,none⟩=false:=fr.frozen;have y1:w4.frozen? ⟨w.heap.size+1,1,none⟩=false:=fr.frozen;have y2:w4.frozen? ⟨w.heap.size+1,2,none⟩=false:=fr.frozen;have y3:w4.frozen? ⟨w.heap.size+1,3,none⟩=false:=fr.frozen;have y4:w4.frozen? ⟨w.heap.size+1,4,none⟩=false:=fr.frozen;rw[cvV]at hrun;clear hm4 hg4 hbx4 fr HSB3 HI3 HBX3 hS'
  go_region_held3 (fun w'=>w'.cell? ⟨sb,2,none⟩=some (.map (some mb))/\w'.cell? ⟨w,0,none⟩=some (.int .i64 i)/\w'.cell? ⟨w,1,none⟩=some (.int .i64 c)/\w'.cell? ⟨w.heap.size+1+1,0,none⟩=some (.int .i64 (crs R wd i c).o)/\w'.cell? ⟨w.heap.size+1+1,1,none⟩=some (.int .i64 (crs R wd i c).l)/\w'.cell? ⟨w.heap.size+1+1,2,none⟩=some (.int .i64 (crs R wd i c).ch)/\w'.cell? ⟨w.heap.size+1+1,3,none⟩=some (.int .i64 (crs R wd i c).np)/\w'.cell? ⟨w.heap.size+1+1,4,none⟩=some (.int .i64 (crs R wd i c).nc))
   (first|exact⟨c2,a0,a1,t0,t1,t2,t3,t4⟩|exact⟨c24,b0,b1,u0,u1,u2,u3,u4⟩) (fail)
  all_goals
   go_wp2;refine bodyPost_ret (v:=.agg #[.int .i64 (crs R wd i c).o,.int .i64 (crs R wd i c).l,.int .i64 (crs R wd i c).ch,.int .i64 (crs R wd i c).np,.int .i64 (crs R wd i c).nc]) (by simp[results,Tryz.results63,go_sem,r0,r1,r2,r3,r4]) rfl ⟨rfl,k5m HBX4.o (by omega) _ _ _ _ _,k1k S' i c,HI4.o.set5 (by omega) (by omega) (by omega) _ _ _ _ _,fun a b hab=>?_,fun a b hab=>?_,fun _=>by simp[k1k]⟩
   ·simp[k1k,HM.o.1 a b hab]
   ·simp only[k1k,Bool.or_eq_true,Bool.and_eq_true,decide_eq_true_eq]at hab;rcases hab with hab|hab
    ·rcases HM.o.2.1 a b hab with h|h
     ·exact .inl h
     ·exact .inr (by omega)
    ·exact .inr (by omega)
theorem v9j(sb g mb wd i c:Nat)(R:List Pl)(hi:i<R.length)(hR:R.length<=400)(hw:wd<=100)(hcw:c<=wd)(hCH:k5i sb g mb wd R i c):j5f sb g mb wd R i c:=by
 intro w S h;rw[if_pos hi];cases hS:S i c with
 | true=>exact j3s sb g mb wd i c R hi hR (by omega) w S h hS
 | false=>exact v9k sb g mb wd i c R hi hR (by omega) hcw hCH w S h hS
end Go.Proofs.YthcpdohdppkmkaaGreatDoor
