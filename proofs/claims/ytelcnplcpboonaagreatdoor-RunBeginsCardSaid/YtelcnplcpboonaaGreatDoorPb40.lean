import Derived.Test.YtelcnplcpboonaaGreatDoorPb32
import Derived.Test.YtelcnplcpboonaaGreatDoorPb33
open Go.Proofs.Tryz
namespace Go.Proofs.YtelcnplcpboonaaGreatDoor
open Go Go.RowKit
structure q4z(w:World)(bp g wd:Nat)(R:List Pl):Prop where
 c0:w.cell? ⟨bp,0,none⟩=some (.slice (some ⟨g,0,none⟩) R.length R.length)
 c1:w.cell? ⟨bp,1,none⟩=some (.int .i64 wd)
 pr:PwR w g R.length (fun j=>q2 (q1e R j))
theorem q4z.kept{w w':World}{bp g wd:Nat}{R:List Pl}(h:q4z w bp g wd R)(h1:w'.heap[bp]?=w.heap[bp]?)(h2:w'.heap[g]?=w.heap[g]?):q4z w' bp g wd R:=
 ⟨(World.cell?_of_block (w:=w) (a:=⟨bp,0,none⟩) h1).trans h.c0,(World.cell?_of_block (w:=w) (a:=⟨bp,1,none⟩) h1).trans h.c1,h.pr.kept h2⟩
theorem q4z.ltB{w:World}{bp g wd:Nat}{R:List Pl}(h:q4z w bp g wd R):bp<w.heap.size:=World.block_lt_of_cell? w ⟨bp,0,none⟩ h.c0
theorem q4z.ltG{w:World}{bp g wd:Nat}{R:List Pl}(h:q4z w bp g wd R):g<w.heap.size:=h.pr.row.lt
theorem q4z.alloc{w:World}{bp g wd:Nat}{R:List Pl}(h:q4z w bp g wd R)(O:Obj):q4z (w.alloc O) bp g wd R:=h.kept (Below.heap_alloc _ _ _ h.ltB) (Below.heap_alloc _ _ _ h.ltG)
theorem j1t{R:List Pl}{L M i nx dp wd c ch:Nat}{ks:List (Nat × Tr)}{t:Tr}(bp g:Nat)(w:World)(hR:R.length<=400)(h:Sp R L M i t nx dp ks)(hc:c<=wd)(hw:wd<=100)(hL:L<=400)(hM:M<=3200)(K:ch=0\/ch=1)(hh:t.lg=-1->ch=1)(hP:q4z w bp g wd R):
  Calls prog 274 #[.pointer (some ⟨bp,0,none⟩),.agg #[.int .i64 i,.int .i64 c],.int .i64 ch] w fun e w'=>e=.returned (.tuple #[.agg #[.int .i64 (q2p R wd i c ch).np,.int .i64 (q2p R wd i c ch).nc],.agg #[.int .i64 (q2p R wd i c ch).o,.int .i64 (q2p R wd i c ch).l]])/\Below w w w':=by
 have C:(i:Int)<(R.length:Nat):=by have:=h.lt;omega
 have d:=hP.pr.get i h.lt;have Q:=h.bd;have O:=h.bl;rw[h.at]at d;have J:c<=100:=by omega
 cases t with
 | leaf x=>
  have S:=q1s h.wf.1;have A:w.cell? ⟨g,i*7,none⟩=some (.int .i64 x.op):=d.c0;rcases q4t h.wf.1 h.wf.2 with e|e|e|e|e
  ·rw[q4h h,z7m e];rw[e]at A;refine(k7s bp g R.length wd i c x.tx _ _ nx dp 0 ch w C hw J (by have:=q3y (S.2.2.2.2.1 e);omega) hP.c0 hP.c1 A d.c1 d.c2 d.c3 d.c4 d.c5 d.c6).mono ?_;rintro e D⟨rfl,B⟩;exact⟨rfl,B⟩
  ·rw[q4h h,q9a (.inl e)];rw[e]at A;refine(z0b 2 (.inl rfl) bp g R.length wd i c x.tx _ _ nx dp 0 ch w C hw (by omega) hP.c0 hP.c1 A d.c1 d.c2 d.c3 d.c4 d.c5 d.c6).mono ?_;rintro e D⟨rfl,B⟩;exact⟨rfl,B⟩
  ·rw[q4h h,q9a (.inr (.inl e))];rw[e]at A;refine(z0b 3 (.inr (.inl rfl)) bp g R.length wd i c x.tx _ _ nx dp 0 ch w C hw (by omega) hP.c0 hP.c1 A d.c1 d.c2 d.c3 d.c4 d.c5 d.c6).mono ?_;rintro e D⟨rfl,B⟩;exact⟨rfl,B⟩
  ·rw[q4h h,q9a (.inr (.inr e))];rw[e]at A;refine(z0b 4 (.inr (.inr rfl)) bp g R.length wd i c x.tx _ _ nx dp 0 ch w C hw (by omega) hP.c0 hP.c1 A d.c1 d.c2 d.c3 d.c4 d.c5 d.c6).mono ?_;rintro e D⟨rfl,B⟩;exact⟨rfl,B⟩
  ·rw[q4h h,z7n e];rw[e]at A;refine(k7t bp g R.length i c x.tx _ _ nx dp 0 ch w C hP.c0 A d.c1 d.c2 d.c3 d.c4 d.c5 d.c6).mono ?_;rintro e D⟨rfl,B⟩;exact⟨rfl,B⟩
 | one x a=>
  have A:w.cell? ⟨g,i*7,none⟩=some (.int .i64 x.op):=d.c0;have G:w.cell? ⟨g,i*7+6,none⟩=some (.int .i64 (Tr.lg (.one x a))):=d.c6;rcases z1g h.wf.2.1 with e|e
  ·rw[q5s h,q8z (.inr (.inl e))];rw[e]at A;have H:Tr.lg (.one x a)=((0:Nat):Int):=by simp[Tr.lg,e]
   rw[H]at G;refine(k4n 7 (.inr rfl) bp g R.length i c _ _ _ nx dp 0 ch w hR C hP.c0 A d.c1 d.c2 d.c3 d.c4 d.c5 G).mono ?_;rintro e D⟨rfl,B⟩;exact⟨rfl,B⟩
  ·have H:Tr.lg (.one x a)=lgF a.flat:=by simp[Tr.lg,e]
   rw[e]at A;rcases K with rfl|rfl
   ·have E:∃s,a.flat=some s:=by
     cases E:a.flat with
     | some s=>exact⟨s,rfl⟩
     | none=>exact absurd (hh (by rw[H,E];rfl)) (by omega)
    obtain⟨s,E⟩:=E;have N:=q7v a s h.wf.2.2 E;have I:Tr.lg (.one x a)=((s.length:Nat):Int):=by rw[H,E];rfl
    rw[q5s h,z7l e rfl,I,Int.toNat_natCast];rw[I]at G;refine(k7q bp g R.length wd i c _ _ _ nx dp s.length w C hw J (by simp only[Tr.lf]at O;omega) hP.c0 hP.c1 A d.c1 d.c2 d.c3 d.c4 d.c5 G).mono ?_;rintro e D⟨rfl,B⟩;exact⟨rfl,B⟩
   ·rw[q5s h,q8z (by omega)];cases E:a.flat with
    | some s=>
     have I:Tr.lg (.one x a)=((s.length:Nat):Int):=by rw[H,E];rfl
     rw[I]at G;refine(z2m bp g R.length i c _ _ _ nx dp _ w hR C hP.c0 A d.c1 d.c2 d.c3 d.c4 d.c5 G).mono ?_;rintro e D⟨rfl,B⟩;exact⟨rfl,B⟩
    | none=>
     have I:Tr.lg (.one x a)=-1:=by rw[H,E];rfl
     rw[I]at G;refine(z2m bp g R.length i c _ _ _ nx dp _ w hR C hP.c0 A d.c1 d.c2 d.c3 d.c4 d.c5 G).mono ?_;rintro e D⟨rfl,B⟩;exact⟨rfl,B⟩
 | two x a b=>
  have A:w.cell? ⟨g,i*7,none⟩=some (.int .i64 x.op):=d.c0;obtain⟨W,V,N⟩:=h.two1;have P:(i:Int)+1<(R.length:Nat):=by have:=N.lt;omega
  rcases q9q h.wf.2.1 with e|e
  ·rw[q7f h,q8z (.inl e)];rw[e]at A;refine(k4n 6 (.inl rfl) bp g R.length i c _ _ _ nx dp 0 ch w hR C hP.c0 A d.c1 d.c2 d.c3 d.c4 d.c5 d.c6).mono ?_;rintro e D⟨rfl,B⟩;exact⟨rfl,B⟩
  ·rw[e]at A;rcases K with rfl|rfl
   ·rw[q7f h,q8z (by omega)];refine(k7r bp g R.length i c _ _ _ nx dp 0 w hR C hP.c0 A d.c1 d.c2 d.c3 d.c4 d.c5 d.c6).mono ?_;rintro e D⟨rfl,B⟩;exact⟨rfl,B⟩
   ·have k:=hP.pr.get (i+1) N.lt;rw[N.at]at k;have U:w.cell? ⟨g,(i+1)*7+3,none⟩=some (.int .i64 ((i+1+a.sz:Nat):Int)):=k.c3;rw[q7f h,z0q e rfl];refine(z8t bp g R.length i c _ _ _ nx dp 0 _ w hR C P U hP.c0 A d.c1 d.c2 d.c3 d.c4 d.c5 d.c6).mono ?_;rintro e D⟨rfl,B⟩;exact⟨rfl,B⟩
structure Inv(sb g mb wd:Nat)(R:List Pl)(w:World)(S:Nat->Nat->Bool):Prop where
 pl:q4z w sb g wd R
 c2:w.cell? ⟨sb,2,none⟩=some (.map (some mb))
 me:Mem w mb (crs R wd) S
 cl:∀p c,S p c=true->p<R.length/\c<=wd/\((crs R wd p c).np<R.length->S (crs R wd p c).np (crs R wd p c).nc=true)
theorem k2a{w:World}{b o:Nat}{v:Value}{es:Array MapEntry}{cl:Nat}(h:w.cell? ⟨b,o,none⟩=some v)(h2:w.heap[b]?=some (.map es cl)):False:=by
 simp[World.cell?,h2]at h
section
variable {sb g mb wd:Nat} {R:List Pl} {w w':World} {S:Nat→Nat→Bool}
theorem Inv.nb(h:Inv sb g mb wd R w S):sb≠mb:=by
 intro e;subst e;obtain⟨D,n,⟨C,B,A,_⟩,_⟩:=h.me;exact k2a h.c2 A
theorem Inv.ng(h:Inv sb g mb wd R w S):g≠mb:=by
 intro e;subst e;obtain⟨D,n,⟨G,C,B,_⟩,_⟩:=h.me;obtain⟨E,T,A⟩:=h.pl.pr.row;rw[B]at A;cases A
theorem Inv.lt(h:Inv sb g mb wd R w S):sb<w.heap.size/\g<w.heap.size/\mb<w.heap.size:=⟨h.pl.ltB,h.pl.ltG,h.me.lt⟩
theorem Inv.kept(h:Inv sb g mb wd R w S)(hb:∀k,k<w.heap.size->w'.heap[k]?=w.heap[k]?):Inv sb g mb wd R w' S:=
 ⟨h.pl.kept (hb _ h.lt.1) (hb _ h.lt.2.1),(World.cell?_of_block (w:=w) (a:=⟨sb,2,none⟩) (hb _ h.lt.1)).trans h.c2,h.me.kept (hb _ h.lt.2.2),h.cl⟩
theorem Inv.kept3(h:Inv sb g mb wd R w S)(h1:w'.heap[sb]?=w.heap[sb]?)(h2:w'.heap[g]?=w.heap[g]?)(h3:w'.heap[mb]?=w.heap[mb]?):Inv sb g mb wd R w' S:=
 ⟨h.pl.kept h1 h2,(World.cell?_of_block (w:=w) (a:=⟨sb,2,none⟩) h1).trans h.c2,h.me.kept h3,h.cl⟩
theorem v9o{wr:World}{b k:Nat}(hk:k≠b)(v0 v1 v2 v3 v4:Value):(((((wr.setCell ⟨b,0,none⟩ v0).setCell ⟨b,1,none⟩ v1).setCell ⟨b,2,none⟩ v2).setCell ⟨b,3,none⟩ v3).setCell ⟨b,4,none⟩ v4).heap[k]?=wr.heap[k]?:=
 (Below.heap_setCell _ _ _ _ hk).trans ((Below.heap_setCell _ _ _ _ hk).trans ((Below.heap_setCell _ _ _ _ hk).trans ((Below.heap_setCell _ _ _ _ hk).trans (Below.heap_setCell _ _ _ _ hk))))
theorem Inv.set5{b:Nat}(h:Inv sb g mb wd R w S)(h1:sb≠b)(h2:g≠b)(h3:mb≠b)(v0 v1 v2 v3 v4:Value):Inv sb g mb wd R (((((w.setCell ⟨b,0,none⟩ v0).setCell ⟨b,1,none⟩ v1).setCell ⟨b,2,none⟩ v2).setCell ⟨b,3,none⟩ v3).setCell ⟨b,4,none⟩ v4) S:=
 h.kept3 (v9o h1 _ _ _ _ _) (v9o h2 _ _ _ _ _) (v9o h3 _ _ _ _ _)
theorem Inv.W(h:Inv sb g mb wd R w S)(hb:Below w w w'):Inv sb g mb wd R w' S:=h.kept fun k hk=>hb.block k hk
theorem Inv.alloc(h:Inv sb g mb wd R w S)(O:Obj):Inv sb g mb wd R (w.alloc O) S:=h.kept fun _ hk=>Below.heap_alloc _ _ _ hk
theorem Inv.more{p c:Nat}(h:Inv sb g mb wd R w S)(hg:w.grownBy w' (some mb))(hm:Mem w' mb (crs R wd) (z8l S p c))(hp:p<R.length)(hc:c<=wd)(hn:(crs R wd p c).np<R.length->S (crs R wd p c).np (crs R wd p c).nc=true):Inv sb g mb wd R w' (z8l S p c) where
 pl:=h.pl.kept (hg.block _ h.lt.1 (by intro e;exact h.nb (Option.some.inj e))) (hg.block _ h.lt.2.1 (by intro e;exact h.ng (Option.some.inj e)))
 c2:=(World.cell?_of_block (w:=w) (a:=⟨sb,2,none⟩) (hg.block _ h.lt.1 (by intro e;exact h.nb (Option.some.inj e)))).trans h.c2
 me:=hm
 cl p' c' hs:=by
  have A:∀a b,S a b=true->z8l S p c a b=true:=fun a b hab=>by simp[z8l,hab]
  by_cases e:p'=p/\c'=c
  ·obtain⟨rfl,rfl⟩:=e;exact⟨hp,hc,fun hl=>A _ _ (hn hl)⟩
  ·have B:S p' c'=true:=by
    simp only[z8l,Bool.or_eq_true,Bool.and_eq_true,decide_eq_true_eq]at hs;rcases hs with hs|hs
    ·exact hs
    ·exact absurd hs e
   obtain⟨C,D,E⟩:=h.cl p' c' B;exact⟨C,D,fun hl=>A _ _ (E hl)⟩
def Left(sb g mb wd:Nat)(R:List Pl)(S:Nat->Nat->Bool)(lo p c:Nat)(w w':World):Prop:=
 q0j w mb w w'/\∃S',Inv sb g mb wd R w' S'/\(∀a b,S a b=true->S' a b=true)/\(∀a b,S' a b=true->S a b=true\/lo<=a)/\(p<R.length->S' p c=true)
theorem z5o{lo p c:Nat}(h:Inv sb g mb wd R w S)(hb:Below w w w')(hp:p<R.length->S p c=true):Left sb g mb wd R S lo p c w w':=
 ⟨q0j.of hb,S,h.W hb,fun _ _ h=>h,fun _ _ h=>.inl h,hp⟩
theorem v5x{n b:Nat}{wr:World}(h:Below n w wr)(hb:n<=b)(v0 v1 v2 v3 v4:Value):Below n w (((((wr.setCell ⟨b,0,none⟩ v0).setCell ⟨b,1,none⟩ v1).setCell ⟨b,2,none⟩ v2).setCell ⟨b,3,none⟩ v3).setCell ⟨b,4,none⟩ v4):=
 ((((h.setCell (p:=⟨b,0,none⟩) hb _).setCell (p:=⟨b,1,none⟩) hb _).setCell (p:=⟨b,2,none⟩) hb _).setCell (p:=⟨b,3,none⟩) hb _).setCell (p:=⟨b,4,none⟩) hb _
theorem k1x{n b m:Nat}{wr:World}(h:q0j n m w wr)(hb:n<=b)(v0 v1 v2 v3 v4:Value):q0j n m w (((((wr.setCell ⟨b,0,none⟩ v0).setCell ⟨b,1,none⟩ v1).setCell ⟨b,2,none⟩ v2).setCell ⟨b,3,none⟩ v3).setCell ⟨b,4,none⟩ v4):=
 ((((h.setCell (p:=⟨b,0,none⟩) (.inr hb) _).setCell (p:=⟨b,1,none⟩) (.inr hb) _).setCell (p:=⟨b,2,none⟩) (.inr hb) _).setCell (p:=⟨b,3,none⟩) (.inr hb) _).setCell (p:=⟨b,4,none⟩) (.inr hb) _
def j0y(sb g mb wd:Nat)(R:List Pl)(i c:Nat):Prop:=∀w S,Inv sb g mb wd R w S->
 Calls prog 203 #[.pointer (some ⟨sb,0,none⟩),.agg #[.int .i64 i,.int .i64 c]] w fun e w'=>e=.returned (cvV (if i<R.length then crs R wd i c else zCv))/\Left sb g mb wd R S i i c w w'
def z4m(sb g mb wd:Nat)(R:List Pl)(i c ch:Nat):Prop:=∀w S,Inv sb g mb wd R w S->
 Calls prog 256 #[.pointer (some ⟨sb,0,none⟩),.agg #[.int .i64 i,.int .i64 c],.int .i64 ch] w fun e w'=>e=.returned (cvV (tkC R wd i c ch))/\Left sb g mb wd R S (i+1) (q2p R wd i c ch).np (q2p R wd i c ch).nc w w'
def k1r(sb g mb wd:Nat)(R:List Pl)(i c:Nat):Prop:=∀w S,Inv sb g mb wd R w S->
 Calls prog 231 #[.pointer (some ⟨sb,0,none⟩),.agg #[.int .i64 i,.int .i64 c]] w fun e w'=>e=.returned (cvV (crs R wd i c))/\Left sb g mb wd R S (i+1) (crs R wd i c).np (crs R wd i c).nc w w'
end
set_option maxRecDepth 100000
set_option maxHeartbeats 4000000
theorem v0k{w wr:World}(h:Below w w wr)(O:Obj):Below w w (wr.alloc O):=h.alloc h.size O
theorem k4m{B:Nat}{w wr:World}(h:Below B w wr)(n:Nat):Below B w (wr.drewN n):=h.trans ⟨rfl,rfl,rfl,Nat.le_refl _,fun _ _=>rfl⟩
theorem k6w(sb g mb wd i c:Nat)(R:List Pl)(hi:i=R.length):j0y sb g mb wd R i c:=by
 intro w S h;have A:=h.pl.c0;have H:Hid (Inv sb g mb wd R w S):=h;have I:=h.lt.1;have G:((i:Int)==(R.length:Int))=true:=by rw[hi];simp
 have B:(if i<R.length then crs R wd i c else zCv)=zCv:=if_neg (by omega);rw[B,cvV,zCv];have E:∀O1 O2,((w.alloc O1).alloc O2).cell? ⟨sb,0,none⟩=some (.slice (some ⟨g,0,none⟩) R.length R.length):=fun O1 O2=>ka (ka A O1) O2
 have C:Hid (∀O1 O2,Below w w ((w.alloc O1).alloc O2)):=fun O1 O2=>((Below.refl _ w).alloc Zl O1).alloc (by simp) O2
 have D:Hid (i=R.length):=hi;clear h A B hi;go_in;go_wp2_with fail
 go_quiet (fail)
 go_wp2;refine bodyPost_ret (v:=.agg #[.int .i64 0,.int .i64 0,.int .i64 0,.int .i64 0,.int .i64 0]) (by simp[results,Tryz.results203,go_sem]) rfl ?_;exact⟨rfl,z5o H.o (v5x (k4m (C.o _ _) nq) (by omega) _ _ _ _ _) (fun h=>absurd h (by rw[D.o];omega))⟩
structure Sk1(sb g mb wd i c:Nat)(R:List Pl)(S:Nat->Nat->Bool)(w w1:World):Prop where
 inv:Inv sb g mb wd R w1 S
 sz:w1.heap.size=w.heap.size+1+1
 a0:w1.cell? ⟨w,0,none⟩=some (.int .i64 i)
 a1:w1.cell? ⟨w,1,none⟩=some (.int .i64 c)
 r0:w1.cell? ⟨w.heap.size+1,0,none⟩=some (.int .i64 0)
 r1:w1.cell? ⟨w.heap.size+1,1,none⟩=some (.int .i64 0)
 r2:w1.cell? ⟨w.heap.size+1,2,none⟩=some (.int .i64 0)
 r3:w1.cell? ⟨w.heap.size+1,3,none⟩=some (.int .i64 0)
 r4:w1.cell? ⟨w.heap.size+1,4,none⟩=some (.int .i64 0)
 fr:z2j w1 (w.heap.size+1)
 bw:Below w w w1
theorem z6a{sb g mb wd i c nq:Nat}{R:List Pl}{S:Nat->Nat->Bool}{w:World}(h:Inv sb g mb wd R w S):
  Sk1 sb g mb wd i c R S w (((w.alloc (.cells #[.int .i64 i,.int .i64 c] 280)).alloc (.cells #[.int .i64 0,.int .i64 0,.int .i64 0,.int .i64 0,.int .i64 0] 282)).drewN nq):=by
 have A:Below w w (((w.alloc (.cells #[.int .i64 i,.int .i64 c] 280)).alloc (.cells #[.int .i64 0,.int .i64 0,.int .i64 0,.int .i64 0,.int .i64 0] 282)).drewN nq):=
  (((Below.refl _ w).alloc Zl _).alloc (by simp) _).trans ⟨rfl,rfl,rfl,Nat.le_refl _,fun _ _=>rfl⟩
 have B:=heap_alloc_new (w.alloc (.cells #[.int .i64 i,.int .i64 c] 280)) (.cells #[.int .i64 0,.int .i64 0,.int .i64 0,.int .i64 0,.int .i64 0] 282);have C:(w.alloc (.cells #[.int .i64 i,.int .i64 c] 280)).heap.size=w.heap.size+1:=by simp
 rw[C]at B;exact⟨h.W A,by simp,by simp[go_sem],by simp[go_sem],by simp[go_sem],by simp[go_sem],by simp[go_sem],by simp[go_sem],by simp[go_sem],⟨_,_,B⟩,A⟩
theorem k9q(sb g mb wd i c:Nat)(R:List Pl)(hi:i<R.length)(hR:R.length<=400)(hc:c<=100)(w:World)(S:Nat->Nat->Bool)(h:Inv sb g mb wd R w S)(hS:S i c=true):
  Calls prog 203 #[.pointer (some ⟨sb,0,none⟩),.agg #[.int .i64 i,.int .i64 c]] w fun e w'=>e=.returned (cvV (crs R wd i c))/\Left sb g mb wd R S i i c w w':=by
 have N:=h.pl.c0;have H:Hid (Inv sb g mb wd R w S):=h;have Z:=h.lt.1;have a:((i:Int)==(R.length:Int))=false:=beq_eq_false_iff_ne.2 (by omega);have E:∀O1 O2,((w.alloc O1).alloc O2).cell? ⟨sb,0,none⟩=some (.slice (some ⟨g,0,none⟩) R.length R.length):=fun O1 O2=>ka (ka N O1) O2
 have K:Hid (S i c=true):=hS
 have C:Hid (∀W,Mem W mb (crs R wd) S->(Instr.lookup 276 (.map (some mb)) (.agg #[.int .i64 (i:Int),.int .i64 (c:Int)]) true).run prog W=.ok (.tuple #[.agg #[.int .i64 (crs R wd i c).o,.int .i64 (crs R wd i c).l,.int .i64 (crs R wd i c).ch,.int .i64 (crs R wd i c).np,.int .i64 (crs R wd i c).nc],.bool true]) W):=fun W hW=>by
  have:=hW.look_ok (p:=i) (c:=c) (by omega) hc
  rw[K.o,if_pos rfl]at this;exact this
 rw[cvV];clear h N hS;generalize crs R wd i c=k at *;go_in;go_wp2_with fail
 go_quiet (fail)
 go_wp2_with fail;have B:=z6a (i:=i) (c:=c) (nq:=nq) H.o
 generalize((w.alloc (.cells #[.int .i64 i,.int .i64 c] 280)).alloc (.cells #[.int .i64 0,.int .i64 0,.int .i64 0,.int .i64 0,.int .i64 0] 282)).drewN nq=w1 at *
 have D:Hid (Sk1 sb g mb wd i c R S w w1):=B;have P:=B.inv.c2;obtain⟨_,J,L,M,Q,U,V,X,Y,A,_⟩:=B;have G:=C.o w1.drew (D.o.inv.me.kept rfl);have I:=fun O=>C.o (w1.alloc O).drew ((D.o.inv.alloc O).me.kept rfl)
 have b:=fun O=>ka Q O
 have d:=fun O=>ka U O
 have f:=fun O=>ka V O
 have j:=fun O=>ka X O
 have m:=fun O=>ka Y O
 have u:=fun O=>kaf (o:=0) (O:=O) A.lt A.frozen
 have x:=fun O=>kaf (o:=1) (O:=O) A.lt A.frozen
 have y:=fun O=>kaf (o:=2) (O:=O) A.lt A.frozen
 have z:=fun O=>kaf (o:=3) (O:=O) A.lt A.frozen
 have z4:=fun O=>kaf (o:=4) (O:=O) A.lt A.frozen
 have n:w1.frozen? ⟨w.heap.size+1,0,none⟩=false:=A.frozen;have q:w1.frozen? ⟨w.heap.size+1,1,none⟩=false:=A.frozen;have r:w1.frozen? ⟨w.heap.size+1,2,none⟩=false:=A.frozen;have s:w1.frozen? ⟨w.heap.size+1,3,none⟩=false:=A.frozen;have t:w1.frozen? ⟨w.heap.size+1,4,none⟩=false:=A.frozen;clear A E
 go_region_held3 (fun w'=>w'.cell? ⟨sb,2,none⟩=some (.map (some mb))/\w'.cell? ⟨w,0,none⟩=some (.int .i64 i)/\w'.cell? ⟨w,1,none⟩=some (.int .i64 c)/\(Instr.lookup 276 (.map (some mb)) (.agg #[.int .i64 (i:Int),.int .i64 (c:Int)]) true).run prog w'=.ok (.tuple #[.agg #[.int .i64 k.o,.int .i64 k.l,.int .i64 k.ch,.int .i64 k.np,.int .i64 k.nc],.bool true]) w')
  (first|exact⟨P,L,M,G⟩|exact⟨ka P _,ka L _,ka M _,I _⟩) (fail)
 all_goals
  go_wp2;exact bodyPost_ret (v:=.agg #[.int .i64 k.o,.int .i64 k.l,.int .i64 k.ch,.int .i64 k.np,.int .i64 k.nc]) (by simp[results,Tryz.results203,go_sem,J,Q,U,V,X,Y]) rfl ⟨rfl,z5o H.o (Below.drew (v0k (v5x D.o.bw (by omega) _ _ _ _ _) _)) (fun _=>K.o)⟩
set_option maxHeartbeats 8000000
theorem k8o{w w':World}{m:Nat}(hg:w.grownBy w' (some m)):q0j w m w w':=
 ⟨hg.os,hg.tape,hg.output,hg.size,fun k hk hne=>hg.block k hk (by intro e;exact hne (Option.some.inj e))⟩
structure SkB(w w2:World)(i c:Nat)(k:Cv):Prop where
 a0:w2.cell? ⟨w,0,none⟩=some (.int .i64 i)
 a1:w2.cell? ⟨w,1,none⟩=some (.int .i64 c)
 r0:w2.cell? ⟨w.heap.size+1,0,none⟩=some (.int .i64 0)
 r1:w2.cell? ⟨w.heap.size+1,1,none⟩=some (.int .i64 0)
 r2:w2.cell? ⟨w.heap.size+1,2,none⟩=some (.int .i64 0)
 r3:w2.cell? ⟨w.heap.size+1,3,none⟩=some (.int .i64 0)
 r4:w2.cell? ⟨w.heap.size+1,4,none⟩=some (.int .i64 0)
 t0:w2.cell? ⟨w.heap.size+1+1,0,none⟩=some (.int .i64 k.o)
 t1:w2.cell? ⟨w.heap.size+1+1,1,none⟩=some (.int .i64 k.l)
 t2:w2.cell? ⟨w.heap.size+1+1,2,none⟩=some (.int .i64 k.ch)
 t3:w2.cell? ⟨w.heap.size+1+1,3,none⟩=some (.int .i64 k.np)
 t4:w2.cell? ⟨w.heap.size+1+1,4,none⟩=some (.int .i64 k.nc)
 fr:z2j w2 (w.heap.size+1)
 ft:z2j w2 (w.heap.size+1+1)
theorem SkB.kept{w w2 w3:World}{i c m:Nat}{k:Cv}(h:SkB w w2 i c k)(hb:q0j w2 m w2 w3)(hm:m<w.heap.size):SkB w w3 i c k:=by
 have B:=h.ft.lt;have A:∀b o v,b=w.heap.size\/b=w.heap.size+1\/b=w.heap.size+1+1->w2.cell? ⟨b,o,none⟩=some v->w3.cell? ⟨b,o,none⟩=some v:=fun b o v he hv=>(hb.cell (p:=⟨b,o,none⟩) (by simp;omega) (by simp;omega)).trans hv
 exact⟨A _ _ _ (.inl rfl) h.a0,A _ _ _ (.inl rfl) h.a1,A _ _ _ (.inr (.inl rfl)) h.r0,A _ _ _ (.inr (.inl rfl)) h.r1,A _ _ _ (.inr (.inl rfl)) h.r2,A _ _ _ (.inr (.inl rfl)) h.r3,A _ _ _ (.inr (.inl rfl)) h.r4,
  A _ _ _ (.inr (.inr rfl)) h.t0,A _ _ _ (.inr (.inr rfl)) h.t1,A _ _ _ (.inr (.inr rfl)) h.t2,A _ _ _ (.inr (.inr rfl)) h.t3,A _ _ _ (.inr (.inr rfl)) h.t4,h.fr.kept (hb.block _ (by omega) (by omega)),h.ft.kept (hb.block _ (by omega) (by omega))⟩
theorem y6o{sb g mb wd i c:Nat}{R:List Pl}{S:Nat->Nat->Bool}{w w1:World}(h:Sk1 sb g mb wd i c R S w w1):SkB w (w1.alloc (.cells #[.int .i64 0,.int .i64 0,.int .i64 0,.int .i64 0,.int .i64 0] 282)).drew i c zCv:=by
 have B:=heap_alloc_new w1 (.cells #[.int .i64 0,.int .i64 0,.int .i64 0,.int .i64 0,.int .i64 0] 282);rw[h.sz]at B;have A:∀o v,(w1.alloc (.cells #[.int .i64 0,.int .i64 0,.int .i64 0,.int .i64 0,.int .i64 0] 282)).cell? ⟨w.heap.size+1+1,o,none⟩=v->(w1.alloc (.cells #[.int .i64 0,.int .i64 0,.int .i64 0,.int .i64 0,.int .i64 0] 282)).drew.cell? ⟨w.heap.size+1+1,o,none⟩=v:=fun _ _ h=>h
 refine⟨ka h.a0 _,ka h.a1 _,ka h.r0 _,ka h.r1 _,ka h.r2 _,ka h.r3 _,ka h.r4 _,A _ _ ?_,A _ _ ?_,A _ _ ?_,A _ _ ?_,A _ _ ?_,h.fr.kept (Below.heap_alloc _ _ _ h.fr.lt),⟨_,_,B⟩⟩
 all_goals simp[World.cell?,B,zCv]
theorem SkB.put{w w2:World}{i c:Nat}{k k':Cv}(h:SkB w w2 i c k):SkB w (((((w2.setCell ⟨w.heap.size+1+1,0,none⟩ (.int .i64 k'.o)).setCell ⟨w.heap.size+1+1,1,none⟩ (.int .i64 k'.l)).setCell ⟨w.heap.size+1+1,2,none⟩ (.int .i64 k'.ch)).setCell ⟨w.heap.size+1+1,3,none⟩ (.int .i64 k'.np)).setCell ⟨w.heap.size+1+1,4,none⟩ (.int .i64 k'.nc)) i c k':=by
 have A:∀b o v v0 v1 v2 v3 v4,b≠w.heap.size+1+1->w2.cell? ⟨b,o,none⟩=some v->(((((w2.setCell ⟨w.heap.size+1+1,0,none⟩ v0).setCell ⟨w.heap.size+1+1,1,none⟩ v1).setCell ⟨w.heap.size+1+1,2,none⟩ v2).setCell ⟨w.heap.size+1+1,3,none⟩ v3).setCell ⟨w.heap.size+1+1,4,none⟩ v4).cell? ⟨b,o,none⟩=some v:=
  fun b o v v0 v1 v2 v3 v4 hb hv=>(cso (.inl hb.symm)).trans ((cso (.inl hb.symm)).trans ((cso (.inl hb.symm)).trans ((cso (.inl hb.symm)).trans ((cso (.inl hb.symm)).trans hv))))
 have B:=h.t0;have C:=h.t1;have D:=h.t2;have E:=h.t3;have G:=h.t4;refine⟨A _ _ _ _ _ _ _ _ (by omega) h.a0,A _ _ _ _ _ _ _ _ (by omega) h.a1,A _ _ _ _ _ _ _ _ (by omega) h.r0,A _ _ _ _ _ _ _ _ (by omega) h.r1,A _ _ _ _ _ _ _ _ (by omega) h.r2,A _ _ _ _ _ _ _ _ (by omega) h.r3,A _ _ _ _ _ _ _ _ (by omega) h.r4,?_,?_,?_,?_,?_,?_,?_⟩
 ·exact(cso (by omega)).trans ((cso (by omega)).trans ((cso (by omega)).trans ((cso (by omega)).trans (css B))))
 ·exact(cso (by omega)).trans ((cso (by omega)).trans ((cso (by omega)).trans (css ((cso (by omega)).trans C))))
 ·exact(cso (by omega)).trans ((cso (by omega)).trans (css ((cso (by omega)).trans ((cso (by omega)).trans D))))
 ·exact(cso (by omega)).trans (css ((cso (by omega)).trans ((cso (by omega)).trans ((cso (by omega)).trans E))))
 ·exact css ((cso (by omega)).trans ((cso (by omega)).trans ((cso (by omega)).trans ((cso (by omega)).trans G))))
 ·exact h.fr.set.set.set.set.set
 ·exact h.ft.set.set.set.set.set
theorem v4d(sb g mb wd i c:Nat)(R:List Pl)(hi:i<R.length)(hR:R.length<=400)(hc:c<=100)(Af:c<=wd)(m:k1r sb g mb wd R i c)(w:World)(S:Nat->Nat->Bool)(h:Inv sb g mb wd R w S)(hS:S i c=false):
  Calls prog 203 #[.pointer (some ⟨sb,0,none⟩),.agg #[.int .i64 i,.int .i64 c]] w fun e w'=>e=.returned (cvV (crs R wd i c))/\Left sb g mb wd R S i i c w w':=by
 have c0:=h.pl.c0;have H:Hid (Inv sb g mb wd R w S):=h;have Aa:Hid (k1r sb g mb wd R i c):=m;have u:=h.lt;have Ag:((i:Int)==(R.length:Int))=false:=beq_eq_false_iff_ne.2 (by omega);have Ad:∀O1 O2,((w.alloc O1).alloc O2).cell? ⟨sb,0,none⟩=some (.slice (some ⟨g,0,none⟩) R.length R.length):=fun O1 O2=>ka (ka c0 O1) O2
 have HS:Hid (S i c=false):=hS
 have d:Hid (∀W,Mem W mb (crs R wd) S->(Instr.lookup 276 (.map (some mb)) (.agg #[.int .i64 (i:Int),.int .i64 (c:Int)]) true).run prog W=.ok (.tuple #[.agg #[.int .i64 0,.int .i64 0,.int .i64 0,.int .i64 0,.int .i64 0],.bool false]) W):=fun W hW=>by
  have:=hW.look_ok (p:=i) (c:=c) (by omega) hc
  rw[HS.o,if_neg (by simp)]at this;exact this
 rw[cvV];clear h c0 hS m;go_in;go_wp2_with fail
 go_quiet (fail)
 go_wp2_with fail;have M:=z6a (i:=i) (c:=c) (nq:=nq) H.o
 generalize((w.alloc (.cells #[.int .i64 i,.int .i64 c] 280)).alloc (.cells #[.int .i64 0,.int .i64 0,.int .i64 0,.int .i64 0,.int .i64 0] 282)).drewN nq=w1 at *
 have N:Hid (Sk1 sb g mb wd i c R S w w1):=M;have k:=M.inv.c2;obtain⟨_,Ah,P,Q,_,_,_,_,_,_,_⟩:=M;have n:=d.o w1.drew (N.o.inv.me.kept rfl);have q:=fun O=>d.o (w1.alloc O).drew ((N.o.inv.alloc O).me.kept rfl)
 have Ab:=fun O=>ka P O
 have Ac:=fun O=>ka Q O
 clear Ad
 go_region_held3 (fun w'=>w'.cell? ⟨sb,2,none⟩=some (.map (some mb))/\w'.cell? ⟨w,0,none⟩=some (.int .i64 i)/\w'.cell? ⟨w,1,none⟩=some (.int .i64 c)/\(Instr.lookup 276 (.map (some mb)) (.agg #[.int .i64 (i:Int),.int .i64 (c:Int)]) true).run prog w'=.ok (.tuple #[.agg #[.int .i64 0,.int .i64 0,.int .i64 0,.int .i64 0,.int .i64 0],.bool false]) w')
  (first|exact⟨k,P,Q,n⟩|exact⟨ka k _,ka P _,ka Q _,q _⟩) (fail)
 all_goals
  go_wp2_with fail;refine(Aa.o (w1.alloc (.cells #[.int .i64 0,.int .i64 0,.int .i64 0,.int .i64 0,.int .i64 0] 282)).drew S ((N.o.inv.alloc _).kept fun _ _=>rfl)).mono ?_;rintro e C⟨rfl,hL⟩;obtain⟨L,J,hI,y,t,s⟩:=hL;have hB:=(y6o N.o).kept L u.2.2;have X:Hid (q0j w mb w C):=((q0j.of (N.o.bw.alloc N.o.bw.size _)).drew).trans (L.mono (by show w.heap.size<=(w1.alloc _).heap.size;simp;omega));have f:Hid (SkB w C i c zCv):=hB;obtain⟨_,_,_,_,_,_,_,t0,t1,t2,t3,t4,_,V⟩:=hB;have y0:C.frozen? ⟨w.heap.size+1+1,0,none⟩=false:=V.frozen;have y1:C.frozen? ⟨w.heap.size+1+1,1,none⟩=false:=V.frozen;have y2:C.frozen? ⟨w.heap.size+1+1,2,none⟩=false:=V.frozen;have y3:C.frozen? ⟨w.heap.size+1+1,3,none⟩=false:=V.frozen;have y4:C.frozen? ⟨w.heap.size+1+1,4,none⟩=false:=V.frozen;have HI:Hid (Inv sb g mb wd R C J):=hI;have HM:Hid ((∀a b,S a b=true->J a b=true)/\(∀a b,J a b=true->S a b=true\/i+1<=a)/\((crs R wd i c).np<R.length->J (crs R wd i c).np (crs R wd i c).nc=true)):=⟨y,t,s⟩;rw[cvV];have E:Hid (SkB w (((((C.setCell ⟨w.heap.size+1+1,0,none⟩ (.int .i64 (crs R wd i c).o)).setCell ⟨w.heap.size+1+1,1,none⟩ (.int .i64 (crs R wd i c).l)).setCell ⟨w.heap.size+1+1,2,none⟩ (.int .i64 (crs R wd i c).ch)).setCell ⟨w.heap.size+1+1,3,none⟩ (.int .i64 (crs R wd i c).np)).setCell ⟨w.heap.size+1+1,4,none⟩ (.int .i64 (crs R wd i c).nc)) i c (crs R wd i c)):=f.o.put;have I:Hid (Inv sb g mb wd R (((((C.setCell ⟨w.heap.size+1+1,0,none⟩ (.int .i64 (crs R wd i c).o)).setCell ⟨w.heap.size+1+1,1,none⟩ (.int .i64 (crs R wd i c).l)).setCell ⟨w.heap.size+1+1,2,none⟩ (.int .i64 (crs R wd i c).ch)).setCell ⟨w.heap.size+1+1,3,none⟩ (.int .i64 (crs R wd i c).np)).setCell ⟨w.heap.size+1+1,4,none⟩ (.int .i64 (crs R wd i c).nc)) J):=HI.o.set5 (by omega) (by omega) (by omega) _ _ _ _ _;have D:Hid (q0j w mb w (((((C.setCell ⟨w.heap.size+1+1,0,none⟩ (.int .i64 (crs R wd i c).o)).setCell ⟨w.heap.size+1+1,1,none⟩ (.int .i64 (crs R wd i c).l)).setCell ⟨w.heap.size+1+1,2,none⟩ (.int .i64 (crs R wd i c).ch)).setCell ⟨w.heap.size+1+1,3,none⟩ (.int .i64 (crs R wd i c).np)).setCell ⟨w.heap.size+1+1,4,none⟩ (.int .i64 (crs R wd i c).nc))):=k1x X.o (by omega) _ _ _ _ _;clear L hI y t s V k P Q n q Ab Ac;go_wp2_with fail;clear t0 t1 t2 t3 t4 y0 y1 y2 y3 y4 HI X f
  generalize((((C.setCell ⟨w.heap.size+1+1,0,none⟩ (.int .i64 (crs R wd i c).o)).setCell ⟨w.heap.size+1+1,1,none⟩ (.int .i64 (crs R wd i c).l)).setCell ⟨w.heap.size+1+1,2,none⟩ (.int .i64 (crs R wd i c).ch)).setCell ⟨w.heap.size+1+1,3,none⟩ (.int .i64 (crs R wd i c).np)).setCell ⟨w.heap.size+1+1,4,none⟩ (.int .i64 (crs R wd i c).nc)=w3 at *
  have r:J i c=false:=by
   cases e:J i c with
   | false=>rfl
   | true=>
    rcases HM.o.2.1 i c e with e2|e2
    ·rw[HS.o]at e2;cases e2
    ·omega
  obtain⟨K,z,x,B⟩:=Mem.store (w:=w3.drew) (p:=i) (c:=c) (I.o.me.kept rfl) (by omega) hc r;have G:q0j w3 mb w3 K:=⟨B.os,B.tape,B.output,B.size,(k8o B).block⟩;have j:Hid (SkB w K i c (crs R wd i c)):=E.o.kept G u.2.2;have Z:Hid (Inv sb g mb wd R K (z8l J i c)):=Inv.more (w:=w3.drew) (I.o.kept fun _ _=>rfl) B x hi Af HM.o.2.2;have Y:Hid (q0j w mb w K):=D.o.trans (G.mono D.o.size);have k:=I.o.c2;have Ae:=Z.o.c2;obtain⟨P,Q,_,_,_,_,_,t0,t1,t2,t3,t4,_,_⟩:=E.o;obtain⟨b0,b1,r0,r1,r2,r3,r4,u0,u1,u2,u3,u4,U,_⟩:=j.o;have y0:K.frozen? ⟨w.heap.size+1,0,none⟩=false:=U.frozen;have y1:K.frozen? ⟨w.heap.size+1,1,none⟩=false:=U.frozen;have y2:K.frozen? ⟨w.heap.size+1,2,none⟩=false:=U.frozen;have y3:K.frozen? ⟨w.heap.size+1,3,none⟩=false:=U.frozen;have y4:K.frozen? ⟨w.heap.size+1,4,none⟩=false:=U.frozen;rw[cvV]at z;clear x B G U E I D r
  go_region_held3 (fun w'=>w'.cell? ⟨sb,2,none⟩=some (.map (some mb))/\w'.cell? ⟨w,0,none⟩=some (.int .i64 i)/\w'.cell? ⟨w,1,none⟩=some (.int .i64 c)/\w'.cell? ⟨w.heap.size+1+1,0,none⟩=some (.int .i64 (crs R wd i c).o)/\w'.cell? ⟨w.heap.size+1+1,1,none⟩=some (.int .i64 (crs R wd i c).l)/\w'.cell? ⟨w.heap.size+1+1,2,none⟩=some (.int .i64 (crs R wd i c).ch)/\w'.cell? ⟨w.heap.size+1+1,3,none⟩=some (.int .i64 (crs R wd i c).np)/\w'.cell? ⟨w.heap.size+1+1,4,none⟩=some (.int .i64 (crs R wd i c).nc))
   (first|exact⟨k,P,Q,t0,t1,t2,t3,t4⟩|exact⟨Ae,b0,b1,u0,u1,u2,u3,u4⟩) (fail)
  all_goals
   go_wp2;refine bodyPost_ret (v:=.agg #[.int .i64 (crs R wd i c).o,.int .i64 (crs R wd i c).l,.int .i64 (crs R wd i c).ch,.int .i64 (crs R wd i c).np,.int .i64 (crs R wd i c).nc]) (by simp[results,Tryz.results203,go_sem,r0,r1,r2,r3,r4]) rfl ⟨rfl,k1x Y.o (by omega) _ _ _ _ _,z8l J i c,Z.o.set5 (by omega) (by omega) (by omega) _ _ _ _ _,fun a b A=>?_,fun a b A=>?_,fun _=>by simp[z8l]⟩
   ·simp[z8l,HM.o.1 a b A]
   ·simp only[z8l,Bool.or_eq_true,Bool.and_eq_true,decide_eq_true_eq]at A;rcases A with A|A
    ·rcases HM.o.2.1 a b A with h|h
     ·exact .inl h
     ·exact .inr (by omega)
    ·exact .inr (by omega)
theorem v4c(sb g mb wd i c:Nat)(R:List Pl)(hi:i<R.length)(hR:R.length<=400)(hw:wd<=100)(B:c<=wd)(A:k1r sb g mb wd R i c):j0y sb g mb wd R i c:=by
 intro w S h;rw[if_pos hi];cases C:S i c with
 | true=>exact k9q sb g mb wd i c R hi hR (by omega) w S h C
 | false=>exact v4d sb g mb wd i c R hi hR (by omega) B A w S h C
end Go.Proofs.YtelcnplcpboonaaGreatDoor
