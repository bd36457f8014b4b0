import Derived.Test.YtelcnplcpboonaaGreatDoorPe18
import Derived.Test.YtelcnplcpboonaaGreatDoorPe19
import Derived.Test.YtelcnplcpboonaaGreatDoorPe14
import Derived.Test.YtelcnplcpboonaaGreatDoorPe12
open Go.Proofs.Tryz
open List renaming length->ſ
open Go.Value renaming int->À,slice->Å,tuple->Ì,pointer->Î,string->Ï,agg->Ü,nilIface->â,bool->æ
open Go.IntKind renaming i64->Á
open Option renaming none->Â,some->Ä
open Go.World.ownsRow renaming alloc->Ã,lt->Õ
open Go.RowKit.Below renaming heap_setCell->Æ,heap_alloc->Ç,refl->Ô
open Go.World renaming cell?_of_block->È,block_lt_of_cell?->Ò,ownsRow_nil->à,cell?->é
open Go.Obj renaming cells->É
open Go renaming World->Ê,bodyPost_ret->Í,wpList_append_lies->Ð,cell_one_new->Ù,Calls->Ý,results->Þ,info_parts->ß,heap_alloc_new->ç,maxLen->ê
open Go.Ending renaming returned->Ë
open List renaming length_append->Ñ,length_map->Û,length_drop->ã,map_append->å,drop_drop->è
open Go.RowKit renaming Below->Ó
open Bool renaming true->Ö,false->Ú,and_eq_true->á,or_eq_true->ä
open Option.some renaming inj->Ø
namespace Go.Proofs.YtelcnplcpboonaaGreatDoor
open Go Go.RowKit
structure fN(w:Ê)(bp g wd:Nat)(R:List Pl):Prop where
 c0:w.cell? ⟨bp,0,Â⟩=Ä (Å (Ä ⟨g,0,Â⟩) (ſ R) (ſ R))
 c1:w.cell? ⟨bp,1,Â⟩=Ä (À Á wd)
 pr:bq w g (ſ R) (λj=>q2 (aD R j))
theorem fN.kept{w w' A g C R}(h:fN w A g C R)(B:w'.heap[A]?=w.heap[A]?)(D:w'.heap[g]?=w.heap[g]?):fN w' A g C R:=
 ⟨(È (w:=w) (a:=A) B).trans h.c0,(È (w:=w) (a:=(A,1)) B).trans h.c1,h.pr.kept D⟩
theorem fN.ltB{w A g B R}(h:fN w A g B R):A<w.heap.size:=Ò w A h.c0
theorem fN.ltG{w A g B R}(h:fN w A g B R):g<w.heap.size:=h.pr.row.lt
theorem fN.alloc{w A g B R}(h:fN w A g B R)(O):fN (w.alloc O) A g B R:=h.kept (Ç _ _ _ h.ltB) (Ç _ _ _ h.ltG)
theorem Rn{R}{L M i nx dp Y c ch:Nat}{n t}(X g)(w:Ê)(f:ſ R<=400)(h:Sp R L M i t nx dp n)(r:c<=Y)(j:Y<=100)(p:L<=400)(q:M<=3200)(I:ch=0\/ch=1)(m:t.lg=-1->ch=1)(W:fN w X g Y R):
  Cb 274 #[Î X,Ü #[i,c],ch] w (Ì #[Ü #[(bH R Y i c ch).np,(bH R Y i c ch).nc],Ü #[(bH R Y i c ch).o,(bH R Y i c ch).l]]):=by
 unfold Cb;have B:(i:Int)<(ſ R:Nat):=by have:=h.lt;omega
 have d:=W.pr.get i h.lt;have O:=h.bd;have K:=h.bl;rw[h.at]at d;have H:c<=100:=by omega
 cases t with
 | leaf x=>
  have P:=fJ h.wf.1;have A:w.cell? (g,i*7)=Ä ↑x.op:=d.c0;rcases iZ h.wf.1 h.wf.2 with e|e|e|e|e
  .rw[mH h,va e];rw[e]at A;refine ai (Nk X g (ſ R) Y i c x.tx _ _ nx dp 0 ch w B j H (by have:=jS (P.2.2.2.2.1 e);omega) W.c0 W.c1 A d.c1 d.c2 d.c3 d.c4 d.c5 d.c6) λZ V=>?_
   exact⟨rfl,V⟩
  .rw[mH h,qw (.inl e)];rw[e]at A;refine ai (xw 2 (.inl rfl) X g (ſ R) Y i c x.tx _ _ nx dp 0 ch w B j (by omega) W.c0 W.c1 A d.c1 d.c2 d.c3 d.c4 d.c5 d.c6) λZ V=>?_
   exact⟨rfl,V⟩
  .rw[mH h,qw (.inr (.inl e))];rw[e]at A;refine ai (xw 3 (.inr (.inl rfl)) X g (ſ R) Y i c x.tx _ _ nx dp 0 ch w B j (by omega) W.c0 W.c1 A d.c1 d.c2 d.c3 d.c4 d.c5 d.c6) λZ V=>?_
   exact⟨rfl,V⟩
  .rw[mH h,qw (.inr (.inr e))];rw[e]at A;refine ai (xw 4 (.inr (.inr rfl)) X g (ſ R) Y i c x.tx _ _ nx dp 0 ch w B j (by omega) W.c0 W.c1 A d.c1 d.c2 d.c3 d.c4 d.c5 d.c6) λZ V=>?_
   exact⟨rfl,V⟩
  .rw[mH h,vb e];rw[e]at A;refine ai (Nl X g (ſ R) i c x.tx _ _ nx dp 0 ch w B W.c0 A d.c1 d.c2 d.c3 d.c4 d.c5 d.c6) λZ V=>?_
   exact⟨rfl,V⟩
 | one x a=>
  have A:w.cell? (g,i*7)=Ä ↑x.op:=d.c0;have D:w.cell? (g,i*7+6)=Ä ↑(Tr.lg (.one x a)):=d.c6;rcases jD h.wf.2.1 with e|e
  .rw[mO h,kV (.inr (.inl e))];rw[e]at A;have E:Tr.lg (.one x a)=((0:Nat):Int):=by simp[Tr.lg,e]
   rw[E]at D;refine ai (zi 7 (.inr rfl) X g (ſ R) i c _ _ _ nx dp 0 ch w f B W.c0 A d.c1 d.c2 d.c3 d.c4 d.c5 D) λZ V=>?_
   exact⟨rfl,V⟩
  .have E:Tr.lg (.one x a)=iB a.flat:=by simp[Tr.lg,e]
   rw[e]at A;rcases I with rfl|rfl
   .have C:∃s,a.flat=Ä s:=by
     cases C:a.flat with
     | some s=>exact⟨s,rfl⟩
     | none=>exact absurd (m (by rw[E,C];rfl)) (by omega)
    obtain⟨s,C⟩:=C;have J:=mZ a s h.wf.2.2 C;have G:Tr.lg (.one x a)=((ſ s:Nat):Int):=by rw[E,C];rfl
    rw[mO h,uZ e rfl,G,Int.toNat_natCast];rw[G]at D;refine ai (Ni X g (ſ R) Y i c _ _ _ nx dp (ſ s) w B j H (by simp only[Tr.lf]at K;omega) W.c0 W.c1 A d.c1 d.c2 d.c3 d.c4 d.c5 D) λZ V=>?_
    exact⟨rfl,V⟩
   .rw[mO h,kV (by omega)];cases C:a.flat with
    | some s=>
     have G:Tr.lg (.one x a)=((ſ s:Nat):Int):=by rw[E,C];rfl
     rw[G]at D;refine ai (IY X g (ſ R) i c _ _ _ nx dp _ w f B W.c0 A d.c1 d.c2 d.c3 d.c4 d.c5 D) λZ V=>?_
     exact⟨rfl,V⟩
    | none=>
     have G:Tr.lg (.one x a)=-1:=by rw[E,C];rfl
     rw[G]at D;refine ai (IY X g (ſ R) i c _ _ _ nx dp _ w f B W.c0 A d.c1 d.c2 d.c3 d.c4 d.c5 D) λZ V=>?_
     exact⟨rfl,V⟩
 | two x a b=>
  have A:w.cell? (g,i*7)=Ä ↑x.op:=d.c0;obtain⟨U,S,J⟩:=h.two1;have N:(i:Int)+1<(ſ R:Nat):=by have:=J.lt;omega
  rcases jj h.wf.2.1 with e|e
  .rw[oI h,kV (.inl e)];rw[e]at A;refine ai (zi 6 (.inl rfl) X g (ſ R) i c _ _ _ nx dp 0 ch w f B W.c0 A d.c1 d.c2 d.c3 d.c4 d.c5 d.c6) λZ V=>?_
   exact⟨rfl,V⟩
  .rw[e]at A;rcases I with rfl|rfl
   .rw[oI h,kV (by omega)];refine ai (Nj X g (ſ R) i c _ _ _ nx dp 0 w f B W.c0 A d.c1 d.c2 d.c3 d.c4 d.c5 d.c6) λZ V=>?_
    exact⟨rfl,V⟩
   .have k:=W.pr.get (i+1) J.lt;rw[J.at]at k;have Q:=k.c3;rw[oI h,xE e rfl];refine ai (O0 X g (ſ R) i c _ _ _ nx dp 0 _ w f B N Q W.c0 A d.c1 d.c2 d.c3 d.c4 d.c5 d.c6) λZ V=>?_
    exact⟨rfl,V⟩
set_option maxRecDepth 100000
set_option maxHeartbeats 2000000
theorem RM(E a G)(K:ſ E<=G)(w:Ê)(J:aS w a E):
  Cb 255 #[Å a (ſ E) G] w (Ì #[(ld E).size,æ (kZ E),aF (bM E)]):=by
 unfold Cb;have A:=aa J;generalize D:ld E=s;generalize B:kZ E=b;generalize C:aF (bM E)=v;have H:Hid (ld E=s/\kZ E=b/\aF (bM E)=v):=⟨D,B,C⟩;go_in;go_wp2_with fail;refine ai (Uo E a G K _ A.o) λL I=>?_
 rw[H.o.1,H.o.2.1,H.o.2.2];go_wp2;go_ret3;exact⟨rfl,I⟩
structure aU(sb g mb wd:Nat)(R:List Pl)(w:Ê)(S:Nat->Nat->Bool):Prop where
 pl:fN w sb g wd R
 c2:w.cell? ⟨sb,2,Â⟩=Ä (.map (Ä mb))
 me:fF w mb (az R wd) S
 cl:∀p c,S p c=Ö->p<ſ R/\c<=wd/\((az R wd p c).np<ſ R->S (az R wd p c).np (az R wd p c).nc=Ö)
theorem Pm{w:Ê}{b o:Nat}{v A cl}(h:w.cell? (b,o)=Ä v)(B:w.heap[b]?=Ä (.map A cl)):False:=by
 simp[é,B]at h
section
variable {sb g mb wd:Nat} {R:List Pl} {w w':Ê} {S:Nat→Nat→Bool}
theorem aU.nb(h:aU sb g mb wd R w S):sb≠mb:=by
 intro e;subst e;obtain⟨D,n,⟨C,B,A,_⟩,_⟩:=h.me;exact Pm h.c2 A
theorem aU.ng(h:aU sb g mb wd R w S):g≠mb:=by
 intro e;subst e;obtain⟨D,n,⟨G,C,B,_⟩,_⟩:=h.me;obtain⟨E,T,A⟩:=h.pl.pr.row;rw[B]at A;cases A
theorem aU.lt(h:aU sb g mb wd R w S):sb<w.heap.size/\g<w.heap.size/\mb<w.heap.size:=⟨h.pl.ltB,h.pl.ltG,h.me.lt⟩
theorem aU.kept(h:aU sb g mb wd R w S)(A:∀k,k<w.heap.size->w'.heap[k]?=w.heap[k]?):aU sb g mb wd R w' S:=
 ⟨h.pl.kept (A _ h.lt.1) (A _ h.lt.2.1),(È (w:=w) (a:=(sb,2)) (A _ h.lt.1)).trans h.c2,h.me.kept (A _ h.lt.2.2),h.cl⟩
theorem aU.kept3(h:aU sb g mb wd R w S)(A:w'.heap[sb]?=w.heap[sb]?)(B:w'.heap[g]?=w.heap[g]?)(C:w'.heap[mb]?=w.heap[mb]?):aU sb g mb wd R w' S:=
 ⟨h.pl.kept A B,(È (w:=w) (a:=(sb,2)) A).trans h.c2,h.me.kept C,h.cl⟩
theorem ub{wr:Ê}{b k:Nat}(A:k≠b)(B C D E G):(((((wr.setCell b B).setCell (b,1) C).setCell (b,2) D).setCell (b,3) E).setCell (b,4) G).heap[k]?=wr.heap[k]?:=
 (Æ _ _ _ _ A).trans ((Æ _ _ _ _ A).trans ((Æ _ _ _ _ A).trans ((Æ _ _ _ _ A).trans (Æ _ _ _ _ A))))
theorem aU.set5{b}(h:aU sb g mb wd R w S)(A:sb≠b)(B:g≠b)(C:mb≠b)(D E G H I):aU sb g mb wd R (((((w.setCell b D).setCell (b,1) E).setCell (b,2) G).setCell (b,3) H).setCell (b,4) I) S:=
 h.kept3 (ub A _ _ _ _ _) (ub B _ _ _ _ _) (ub C _ _ _ _ _)
theorem aU.W(h:aU sb g mb wd R w S)(A:Ó w w w'):aU sb g mb wd R w' S:=h.kept λk B=>A.block k B
theorem aU.alloc(h:aU sb g mb wd R w S)(O):aU sb g mb wd R (w.alloc O) S:=h.kept λ_ A=>Ç _ _ _ A
theorem aU.more{p c:Nat}(h:aU sb g mb wd R w S)(H:w.grownBy w' (Ä mb))(K:fF w' mb (az R wd) (gz S p c))(M:p<ſ R)(J:c<=wd)(L:(az R wd p c).np<ſ R->S (az R wd p c).np (az R wd p c).nc=Ö):aU sb g mb wd R w' (gz S p c) where
 pl:=h.pl.kept (H.block _ h.lt.1 (by intro e;exact h.nb (Ø e))) (H.block _ h.lt.2.1 (by intro e;exact h.ng (Ø e)))
 c2:=(È (w:=w) (a:=⟨sb,2,Â⟩) (H.block _ h.lt.1 (by intro e;exact h.nb (Ø e)))).trans h.c2
 me:=K
 cl p' c' hs:=by
  have A:∀a b,S a b=Ö->gz S p c a b=true:=λa b G=>by simp[gz,G]
  by_cases e:p'=p/\c'=c
  .obtain⟨rfl,rfl⟩:=e;exact⟨M,J,λI=>A _ _ (L I)⟩
  .have B:S p' c'=true:=by
    simp only[gz,ä,á,decide_eq_true_eq]at hs;rcases hs with hs|hs
    .exact hs
    .exact absurd hs e
   obtain⟨C,D,E⟩:=h.cl p' c' B;exact⟨C,D,λI=>A _ _ (E I)⟩
def Left(sb g mb wd:Nat)(R:List Pl)(S:Nat->Nat->Bool)(lo p c:Nat)(w w':Ê):Prop:=
 am w mb w w'/\∃d,aU sb g mb wd R w' d/\(∀a b,S a b=Ö->d a b=Ö)/\(∀a b,d a b=Ö->S a b=Ö\/lo<=a)/\(p<ſ R->d p c=Ö)
theorem JD{lo p c}(h:aU sb g mb wd R w S)(A:Ó w w w')(B:p<ſ R->S p c=Ö):Left sb g mb wd R S lo p c w w':=
 ⟨am.of A,S,h.W A,λ_ _ h=>h,λ_ _ h=>.inl h,B⟩
theorem Hr{n b wr}(h:Ó n w wr)(A:n<=b)(B C D E G):Ó n w (((((wr.setCell b B).setCell (b,1) C).setCell (b,2) D).setCell (b,3) E).setCell (b,4) G):=
 ((((h.setCell (p:=⟨b,0,Â⟩) A _).setCell (p:=⟨b,1,Â⟩) A _).setCell (p:=⟨b,2,Â⟩) A _).setCell (p:=⟨b,3,Â⟩) A _).setCell (p:=⟨b,4,Â⟩) A _
theorem mr{n b m wr}(h:am n m w wr)(A:n<=b)(B C D E G):am n m w (((((wr.setCell b B).setCell (b,1) C).setCell (b,2) D).setCell (b,3) E).setCell (b,4) G):=
 ((((h.setCell (p:=⟨b,0,Â⟩) (.inr A) _).setCell (p:=⟨b,1,Â⟩) (.inr A) _).setCell (p:=⟨b,2,Â⟩) (.inr A) _).setCell (p:=⟨b,3,Â⟩) (.inr A) _).setCell (p:=⟨b,4,Â⟩) (.inr A) _
def nP(sb g mb wd:Nat)(R:List Pl)(i c:Nat):Prop:=∀w S,aU sb g mb wd R w S->
 Ý prog 203 #[Î (Ä ⟨sb,0,Â⟩),Ü #[À Á i,À Á c]] w λe a=>e=Ë (dQ (if i<ſ R then az R wd i c else gP))/\Left sb g mb wd R S i i c w a
def kb(sb g mb wd:Nat)(R:List Pl)(i c ch:Nat):Prop:=∀w S,aU sb g mb wd R w S->
 Ý prog 256 #[Î (Ä ⟨sb,0,Â⟩),Ü #[À Á i,À Á c],À Á ch] w λe a=>e=Ë (dQ (ax R wd i c ch))/\Left sb g mb wd R S (i+1) (bH R wd i c ch).np (bH R wd i c ch).nc w a
def rL(sb g mb wd:Nat)(R:List Pl)(i c:Nat):Prop:=∀w S,aU sb g mb wd R w S->
 Ý prog 231 #[Î (Ä ⟨sb,0,Â⟩),Ü #[À Á i,À Á c]] w λe a=>e=Ë (dQ (az R wd i c))/\Left sb g mb wd R S (i+1) (az R wd i c).np (az R wd i c).nc w a
end
set_option maxHeartbeats 4000000
theorem lp{w:Ê}{wr}(h:Ó w w wr)(O):Ó w w (wr.alloc O):=h.alloc h.size O
theorem rh{B w wr}(h:Ó B w wr)(n):Ó B w (wr.drewN n):=h.trans ⟨rfl,rfl,rfl,Nat.le_refl _,λ_ _=>rfl⟩
theorem AV(L g N M i c R)(hi:i=ſ R):nP L g N M R i c:=by
 intro w S h;have A:=h.pl.c0;have H:Hid (aU L g N M R w S):=h;have I:=h.lt.1;have G:((i:Int)==(ſ R:Int))=true:=by rw[hi];simp
 have B:(if i<ſ R then az R M i c else gP)=gP:=if_neg (by omega);rw[B,dQ,gP];have E:∀J K,((w.alloc J).alloc K).cell? L=Ä (Å g (ſ R) (ſ R)):=λJ K=>ka (ka A J) K
 have C:Hid (∀J K,Ó w w ((w.alloc J).alloc K)):=λJ K=>((Ô _ w).alloc Zl J).alloc (by simp) K
 have D:Hid (i=ſ R):=hi;clear h A B hi;go_in;go_wp2_with fail
 go_quiet (fail)
 go_wp2;refine Í (v:=Ü #[À Á 0,À Á 0,À Á 0,À Á 0,À Á 0]) (by simp[Þ,Tryz.results203,go_sem]) rfl ?_;exact⟨rfl,JD H.o (Hr (rh (C.o _ _) nq) (by omega) _ _ _ _ _) (λh=>absurd h (by rw[D.o];omega))⟩
structure iv(sb g mb wd i c:Nat)(R:List Pl)(S:Nat->Nat->Bool)(w w1:Ê):Prop where
 inv:aU sb g mb wd R w1 S
 sz:w1.heap.size=w.heap.size+1+1
 a0:w1.cell? ⟨w,0,Â⟩=Ä (À Á i)
 a1:w1.cell? ⟨w,1,Â⟩=Ä (À Á c)
 r0:w1.cell? ⟨w.heap.size+1,0,Â⟩=Ä (À Á 0)
 r1:w1.cell? ⟨w.heap.size+1,1,Â⟩=Ä (À Á 0)
 r2:w1.cell? ⟨w.heap.size+1,2,Â⟩=Ä (À Á 0)
 r3:w1.cell? ⟨w.heap.size+1,3,Â⟩=Ä (À Á 0)
 r4:w1.cell? ⟨w.heap.size+1,4,Â⟩=Ä (À Á 0)
 fr:de w1 (w.heap.size+1)
 bw:Ó w w w1
theorem nY{E g D G i c nq R}{S:Nat->Nat->Bool}{w}(h:aU E g D G R w S):
  iv E g D G i c R S w (((w.alloc (É #[i,c] 280)).alloc (É #[À Á 0,À Á 0,À Á 0,À Á 0,À Á 0] 282)).drewN nq):=by
 have A:Ó w w (((w.alloc (É #[i,c] 280)).alloc (É #[À Á 0,À Á 0,À Á 0,À Á 0,À Á 0] 282)).drewN nq):=
  (((Ô _ w).alloc Zl _).alloc (by simp) _).trans ⟨rfl,rfl,rfl,Nat.le_refl _,λ_ _=>rfl⟩
 have B:=ç (w.alloc (É #[i,c] 280)) (É #[À Á 0,À Á 0,À Á 0,À Á 0,À Á 0] 282);have C:(w.alloc (É #[i,c] 280)).heap.size=w.heap.size+1:=by simp
 rw[C]at B;exact⟨h.W A,by simp,by simp[go_sem],by simp[go_sem],by simp[go_sem],by simp[go_sem],by simp[go_sem],by simp[go_sem],by simp[go_sem],⟨_,_,B⟩,A⟩
theorem Oc(sb g mb wd i c R)(hi:i<ſ R)(hR:ſ R<=400)(hc:c<=100)(w)(S:Nat->Nat->Bool)(h:aU sb g mb wd R w S)(hS:S i c=Ö):
  Ý prog 203 #[Î sb,Ü #[i,c]] w λe a=>e=Ë (dQ (az R wd i c))/\Left sb g mb wd R S i i c w a:=by
 have N:=h.pl.c0;have H:Hid (aU sb g mb wd R w S):=h;have Z:=h.lt.1;have a:((i:Int)==(ſ R:Int))=false:=beq_eq_false_iff_ne.2 (by omega);have E:∀a b,((w.alloc a).alloc b).cell? sb=Ä (Å g (ſ R) (ſ R)):=λO1 O2=>ka (ka N O1) O2
 have K:Hid (S i c=Ö):=hS
 have C:Hid (∀W,fF W mb (az R wd) S->(Instr.lookup 276 (.map (Ä mb)) (Ü #[(i:Int),(c:Int)]) Ö).run prog W=.ok (Ì #[Ü #[(az R wd i c).o,(az R wd i c).l,(az R wd i c).ch,(az R wd i c).np,(az R wd i c).nc],æ Ö]) W):=λW hW=>by
  have:=hW.look_ok (p:=i) (c:=c) (by omega) hc
  rw[K.o,if_pos rfl]at this;exact this
 rw[dQ];clear h N hS;generalize az R wd i c=k at *;go_in;go_wp2_with fail
 go_quiet (fail)
 go_wp2_with fail;have B:=nY (i:=i) (c:=c) (nq:=nq) H.o
 generalize((w.alloc (É #[i,c] 280)).alloc (É #[À Á 0,À Á 0,À Á 0,À Á 0,À Á 0] 282)).drewN nq=w1 at *
 have D:Hid (iv sb g mb wd i c R S w w1):=B;have P:=B.inv.c2;obtain⟨_,J,L,M,Q,U,V,X,Y,A,_⟩:=B;have G:=C.o w1.drew (D.o.inv.me.kept rfl);have I:=λO=>C.o (w1.alloc O).drew ((D.o.inv.alloc O).me.kept rfl)
 have b:=λO=>ka Q O
 have d:=λO=>ka U O
 have f:=λO=>ka V O
 have j:=λO=>ka X O
 have m:=λO=>ka Y O
 have u:=λO=>ij (o:=0) (O:=O) A.lt A.frozen
 have x:=λO=>ij (o:=1) (O:=O) A.lt A.frozen
 have y:=λO=>ij (o:=2) (O:=O) A.lt A.frozen
 have z:=λO=>ij (o:=3) (O:=O) A.lt A.frozen
 have z4:=λO=>ij (o:=4) (O:=O) A.lt A.frozen
 have n:w1.frozen? ↑(w.heap.size+1)=false:=A.frozen;have q:w1.frozen? (w.heap.size+1,1)=false:=A.frozen;have r:w1.frozen? (w.heap.size+1,2)=false:=A.frozen;have s:w1.frozen? (w.heap.size+1,3)=false:=A.frozen;have t:w1.frozen? (w.heap.size+1,4)=false:=A.frozen;clear A E
 go_region_held3 (λa=>a.cell? (sb,2)=Ä (.map (Ä mb))/\a.cell? w.heap.size=Ä ↑i/\a.cell? (w.heap.size,1)=Ä ↑c/\(Instr.lookup 276 (.map (Ä mb)) (Ü #[(i:Int),(c:Int)]) Ö).run prog a=.ok (Ì #[Ü #[k.o,k.l,k.ch,k.np,k.nc],æ Ö]) a)
  (first|exact⟨P,L,M,G⟩|exact⟨ka P _,ka L _,ka M _,I _⟩) (fail)
 all_goals
  go_wp2;exact Í (v:=Ü #[k.o,k.l,k.ch,k.np,k.nc]) (by simp[Þ,Tryz.results203,go_sem,J,Q,U,V,X,Y]) rfl ⟨rfl,JD H.o (Below.drew (lp (Hr D.o.bw (by omega) _ _ _ _ _) _)) (λ_=>K.o)⟩
theorem Rl(K)(t:Tr)(O:K=t.N)(S:t.Wf)(R:ſ K<=400)(a J)(P:ſ K<=J)(w:Ê)(L:aS w a K):
  Cb 230 #[Å a (ſ K) J] w (iB t.flat):=by
 unfold Cb;obtain⟨E,G,H⟩:=FQ S O R;have A:=RM K a J P w L;rw[E,G,H,cS]at A;cases C:t.flat with
 | none=>
  have B:t.isFlat=false:=by simp[Tr.isFlat,C]
  rw[B]at A;have D:Hid (Cb 255 #[Å a (ſ K) J] w (Ì #[t.line.size,æ Ú,â])):=A;clear A L E G H B O C;rw[iB];go_in;go_wp2_with fail;refine ai D.o λU M=>?_
  go_wp2;go_ret;exact⟨rfl,M⟩
 | some s=>
  have B:t.isFlat=true:=by simp[Tr.isFlat,C]
  have I:t.line.size=ſ s:=by rw[p4,C];rfl
  rw[B,I]at A;have D:Hid (Cb 255 #[Å a (ſ K) J] w (Ì #[ſ s,æ Ö,â])):=A;clear A L E G H B I O C;rw[iB];go_in;go_wp2_with fail;refine ai D.o λU M=>?_
  go_wp2;go_ret;exact⟨rfl,M⟩
theorem ph.pr{g n j}{F:Nat->Q}{x y:Int}{w C}(h:ph g (j*7+4) (j*7+5) x y w C)(D:bq w g n F)(B:j<n):bq C g n (ct F j {F j with nx:=x,dp:=y}):=by
 have A:=(D.putNx B x).putDp B y;rw[sl,dX]at A;exact A.kept (by rw[h.2.2.2])
theorem ph.belX{g a b e f w C}(h:ph g a b e f w C)(B):am B g w C:=
 ⟨h.1,h.2.1,h.2.2.1,by rw[h.2.2.2];simp[World.setCell],λk _ A=>by rw[h.2.2.2,Æ _ _ _ _ A,Æ _ _ _ _ A]⟩
theorem qp(B g n i:Nat)(x y:Int)(F:Nat->Q)(w:Ê)(hi:i<n)(c0:w.cell? B=Ä (Å g n n))(A:bq w g n F):
  Ý prog 254 #[Î B,i,x,y] w λe C=>e=Ë (Ì #[])/\bq C g n (ct F i {F i with nx:=x,dp:=y})/\am w g w C:=by
 have k:=A.get i hi;refine ai (Rr B g n i x y w (by omega) c0 _ _ k.c4 k.c5 A.row.frozen A.row.frozen) λD h=>?_
 exact⟨rfl,h.pr A hi,h.belX _⟩
theorem TV(K g n i:Nat)(F:Nat->Q)(w:Ê)(hi:i<n)(c0:w.cell? ↑K=Ä (Å ↑g n n))(L:bq w g n F)
  (N:((F i).op==6)=Ú) (R:((F i).op==9)=Ú) (O:((F i).op==7)=Ú) (P:((F i).op==8)=Ú):
  Ý prog 229 #[Î ↑K,↑i] w λe M=>e=Ë (Ì #[])/\bq M g n F/\am w g w M:=by
 obtain⟨C,D,E,G,H,I,J⟩:=L.get i hi;have A:=aa L;generalize F i=q at *;go_in;go_wp2
 go_end0
 have B:Ó w w (w.alloc (É #[q.op,Ï q.tx,q.n,q.en,q.nx,q.dp,q.lg] 306)):= Zb.alloc Zl _;exact⟨rfl,A.o.kept (B.block g A.o.row.lt),am.of B⟩
abbrev fy(q:Q):Obj:=É #[À Á q.op,Ï q.tx,À Á q.n,À Á q.en,À Á q.nx,À Á q.dp,À Á q.lg] 306
theorem Kb(U g n i:Nat)(F:Nat->Q)(w:Ê)(X:n<=400)(B:i+1<n)(c0:w.cell? U=Ä (Å g n n))(V:bq w g n F)
  (E:(F i).op=7\/(F i).op=8) (x) (Y:IntKind.i64.wrap ((F i).dp+(F i).n)=x):
  Ý prog 229 #[Î U,i] w λe W=>e=Ë (Ì #[])/\bq W g n (ct F (i+1) {F (i+1)with nx:=(F i).nx,dp:=x})/\am w g w W:=by
 obtain⟨I,L,M,N,O,P,R⟩:=V.get i (by omega);have C:(i:Int)<n:=by omega
 have K:=kh X C;have G:=aa V;have H:=aa c0;generalize F i=q at *;have D:=G.o.row.lt;rcases E with e|e
 all_goals
  rw[e]at I;go_in;go_wp2_with fail;refine(qp U g n (i+1) q.nx x F _ B (ka H.o _) (G.o.kept (Ç _ _ _ D))).mono ?_;rintro e S⟨rfl,J,A⟩;go_wp2
  go_end0
  exact⟨rfl,J,(am.of ((Ô _ w).alloc Zl _)).trans (A.mono (by simp))⟩
theorem Kc(v g n i j:Nat)(F:Nat->Q)(w:Ê)(hn:n<=400)(E:i+1<n)(z:j<n)(J:v≠g)(c0:w.cell? v=Ä (Å g n n))(x:bq w g n F)
  (G:(F i).op=6) (B:(F (i+1)).en=(j:Int)):
  Ý prog 229 #[Î (Ä ⟨v,0,Â⟩),À Á i] w λe y=>e=Ë (Ì #[])/\bq y g n (ct (ct F (i+1) {F (i+1)with nx:=j,dp:=(F i).dp}) j {ct F (i+1) {F (i+1)with nx:=j,dp:=(F i).dp} j with nx:=(F i).nx,dp:=(F i).dp})/\am w g w y:=by
 obtain⟨W,l,m,o,r,s,t⟩:=x.get i (by omega);have M:=(x.get (i+1) E).c3;rw[B]at M;have K:(i:Int)<n:=by omega
 have R:(i:Int)+1<n:=by omega
 have Y:(0:Int)<=(i:Int):=by omega
 have Z:(0:Int)<=(i:Int)+1:=by omega
 have a:((i:Int)+1).toNat=i+1:=by omega
 have b:=kh hn K;have N:=aa x;have L:=N.o.row.lt;have S:=Ò w v c0;have d:=aa c0;have c:∀O,(w.alloc O).cell? (g,(i+1)*7+3)=Ä ↑(j:Int):=λO=>ka M O
 have D:∀O,(w.alloc O).cell? v=Ä (Å g n n):=λO=>ka c0 O
 rw[G]at W;have f:=aa B;clear x B M G;generalize F i=q at *;go_in;go_wp2_with fail;refine(qp v g n (i+1) j q.dp F _ E (D _) (N.o.kept (Ç _ _ _ L))).mono ?_;rintro e U⟨rfl,P,A⟩;have h:U.cell? (w.heap.size,4)=Ä ↑q.nx:=(A.cell (p:=(w.heap.size,4)) (by simp) (by simp;omega)).trans (by simp[go_sem]);have k:U.cell? (w.heap.size,5)=Ä ↑q.dp:=(A.cell (p:=(w.heap.size,5)) (by simp) (by simp;omega)).trans (by simp[go_sem]);have V:=(A.cell (p:=v) (by simp;omega) J).trans (D _);have H:=aa P;have C:=aa ((am.of ((Ô _ w).alloc Zl _)).trans (A.mono (by simp)));clear P A;go_wp2_with fail;refine(qp v g n j q.nx q.dp _ _ z V H.o).mono ?_;rintro e u⟨rfl,X,I⟩;go_wp2
 go_end0
 exact⟨rfl,X,C.o.trans (I.mono C.o.size)⟩
theorem TW(bp g n i j:Nat)(F:Nat->Q)(w:Ê)(hn:n<=400)(E:i+1<n)(hj:j<n)(I:bp≠g)(c0:w.cell? bp=Ä (Å g n n))(hp:bq w g n F)
  (K:(F i).op=9) (J:(F (i+1)).en=(j:Int)):
  Ý prog 229 #[Î (Ä ⟨bp,0,Â⟩),À Á i] w λe w'=>e=Ë (Ì #[])/\bq w' g n (ct (ct F (i+1) {F (i+1)with nx:=(F i).nx,dp:=(F i).dp}) j {ct F (i+1) {F (i+1)with nx:=(F i).nx,dp:=(F i).dp} j with nx:=(F i).nx,dp:=(F i).dp})/\am w g w w':=by
 obtain⟨k,t,u,v,x,y,z⟩:=hp.get i (by omega);have W:(i:Int)<n:=by omega
 have d:(i:Int)+1<n:=by omega
 have l:(0:Int)<=(i:Int):=by omega
 have m:(0:Int)<=(i:Int)+1:=by omega
 have o:((i:Int)+1).toNat=i+1:=by omega
 have r:=kh hn W;have Z:=aa hp;have X:=Z.o.row.lt;have f:=Ò w bp c0;have H:∀O,(w.alloc O).cell? bp=Ä (Å g n n):=λO=>ka c0 O
 rw[K]at k;have Y:=aa J;clear hp J K;generalize F i=q at *;go_in;go_wp2_with fail;refine(qp bp g n (i+1) q.nx q.dp F _ E (H _) (Z.o.kept (Ç _ _ _ X))).mono ?_;rintro e C⟨rfl,P,B⟩;have a:C.cell? (w.heap.size,4)=Ä ↑q.nx:=(B.cell (p:=(w.heap.size,4)) (by simp) (by simp;omega)).trans (by simp[go_sem]);have b:C.cell? (w.heap.size,5)=Ä ↑q.dp:=(B.cell (p:=(w.heap.size,5)) (by simp) (by simp;omega)).trans (by simp[go_sem]);have N:=(B.cell (p:=bp) (by simp;omega) I).trans (H _)
 have s:C.cell? (g,(i+1)*7+3)=Ä ↑(j:Int):=by
  have:=(P.get (i+1) E).c3
  rw[dX]at this;rw[<-Y.o];exact this
 have M:=aa P;have G:=aa ((am.of ((Ô _ w).alloc Zl _)).trans (B.mono (by simp)));have L:w.heap.size<C.heap.size:=by have:=B.size;simp at this;omega
 have V:∀A,am C.drew.heap.size g C.drew A->A.cell? bp=Ä (Å g n n):=λA h=>(h.cell (p:=bp) (by simp;omega) I).trans N
 have S:∀A,am C.drew.heap.size g C.drew A->A.cell? ⟨w,4,Â⟩=Ä (À Á q.nx):=λA h=>(h.cell (p:=⟨w,4,Â⟩) L (by simp;omega)).trans a
 have U:∀A,am C.drew.heap.size g C.drew A->A.cell? ⟨w,5,Â⟩=Ä (À Á q.dp):=λA h=>(h.cell (p:=⟨w,5,Â⟩) L (by simp;omega)).trans b
 have R:∀A,bq A g n (ct (ct F (i+1) {F (i+1)with nx:=q.nx,dp:=q.dp}) j {ct F (i+1) {F (i+1)with nx:=q.nx,dp:=q.dp} j with nx:=q.nx,dp:=q.dp})->A.cell? (g,(i+1)*7+3)=Ä ↑(j:Int):=λA h=>by
  have:=(h.get (i+1) E).c3
  rw[<-Y.o];by_cases e:i+1=j
  .subst e;rw[dX,dX]at this;exact this
  .rw[gM e,dX]at this;exact this
 clear P B;go_wp2_with fail
 go_region_held3 (λa=>a.cell? bp=Ä (Å g n n)/\a.cell? (g,(i+1)*7+3)=Ä ↑(j:Int)/\a.cell? (w.heap.size,4)=Ä ↑q.nx/\a.cell? (w.heap.size,5)=Ä ↑q.dp)
  (first|exact⟨N,s,a,b⟩|exact⟨V _ D,R _ c,S _ D,U _ D⟩) ((go_at_call 254;refine(qp bp g n j q.nx q.dp _ C.drew hj N (M.o.kept rfl)).mono ?_;rintro e A⟨rfl,c,D⟩))
 all_goals
  go_wp2
  go_end0
  exact⟨rfl,c,G.o.drew.trans (D.mono G.o.size)⟩
theorem sy(s)(w:Ê)(h:s.size<=281474976710656):
  Cb 115 #[Ï s] w (Ï s):=by
 unfold Cb;go_in;go_wp2_with fail;refine ai (zl s _ h) λB A=>?_
 go_wp2;go_ret;exact⟨rfl,A⟩
theorem yp(c):(ae (⟨#[32,10]⟩:ByteArray)).any (·==c)=cZ c:=by
 show((32==c)||((10==c)||false))=(c==32||c==10)
 rw[Bool.or_false,BEq.comm (a:=(32:UInt8)),BEq.comm (a:=(10:UInt8))]
theorem fx.later{s w i E A P D G}{wr:Ê}{B}(h:fx s w i E A P D G wr)(C:Ó wr wr B):fx s w i E A P D G B:=
 {b:=h.b.trans (C.mono h.b.size),le:=h.le,ln:=h.ln,eq:=h.eq,ws:=gN h.ws C,ps:=gN h.ps C}
theorem Mh{s:ByteArray}{k}(h:k<s.size):0<(s.extract k s.size).size/\∀C:0<(s.extract k s.size).size,(s.extract k s.size)[0]=s[k]:=by
 have B:0<(s.extract k s.size).size:=by rw[ByteArray.size_extract];omega
 refine⟨B,λC=>?_⟩;have A:=mM C;rw[zB,fv h,List.cons.injEq]at A;exact A.1.symm
theorem R6{s k}(h:k<s.size)(D:s.size<=60000)(A:cZ s[k]=Ú)(W:Ê):
  Cb 114 #[Ï (s.extract k s.size)] W (Ì #[Ï (ab (aK ((ae s).drop k))),æ (dS s k)]):=by
 unfold Cb;obtain⟨B,C⟩:=Mh h
 have:=RJ (s.extract k s.size) W B (by rw[ByteArray.size_extract];omega) (by rw[C B];exact A)
 unfold oQ at this;rw[zB]at this;exact this
theorem LW{l c z}(h:l=c::z)(A:0<(ab l).size):(ab l)[0]=c:=by
 subst h;rfl
theorem To{s k}(h:k<s.size)(A:cZ s[k]=Ú):0<(ab (aK ((ae s).drop k))).size/\∀G:0<(ab (aK ((ae s).drop k))).size,(ab (aK ((ae s).drop k)))[0]=s[k]:=by
 have C:∃z,aK ((ae s).drop k)=s[k]::z:=by
  rw[aK,fv h];have E:=lJ s[k] ((ae s).drop (k+1));obtain⟨m,D⟩:∃m,aV (s[k]::(ae s).drop (k+1))=m+1:=⟨_,(Nat.sub_add_cancel E).symm⟩;rw[D,List.take_succ_cons];exact xK (mn A) _
 obtain⟨z,B⟩:=C;exact⟨by rw[jT,B];simp,λG=>LW B G⟩
theorem fx.next{s}{w:Ê}{i I A P O V wr}(h:fx s w i I A P O V wr)(hi:i<s.size)(N:cZ s[i]=Ú)(K:dS s i=Ö){L M B C J}(U:Ó w w J)
  (R:J.ownsRow w.heap.size 9 1 (Å L (ſ I+1) B) (ſ I+1) (strCells (I.map λx=>ab x.2)++[Ï (ab (aK ((ae s).drop i)))])) (S:J.ownsRow w.heap.size 3 1 (Å M (ſ I+1) C) (ſ I+1) (je (I.map (·.1))++[À Á (i:Int)])):
  fx s w (i+(aK ((ae s).drop i)).length) (I++[(i,aK ((ae s).drop i))]) L M B C J:=by
 have D:=h.word hi N K U R S
 have H:1<=(aK ((ae s).drop i)).length:=by
  rw[dS,fv hi]at K;rw[fv hi];exact LQ N K
 have G:(aK ((ae s).drop i)).length+i<=s.size:=by
  have:=oX ((ae s).drop i)
  rw[ã,aw]at this;omega
 have e:=D.eq;have E:=UR ((ae s).drop i) i;rw[è,è]at E;refine{b:=D.b,le:=by omega,ln:=by have:=h.ln;simp;omega,eq:=?_,ws:=D.ws,ps:=D.ps};rw[e,bZ,cM,bZ,cM,E];rfl
theorem AK{w:Ê}{B I e A n v J}(h:w.ownsRow B e A v n J)(K:I<=B):w.ownsRow I e A v n J:=by
 refine⟨h.1,?_⟩;rcases h.2 with E|⟨g,c,D,G,H,C⟩
 .exact .inl E
 .exact .inr ⟨g,c,D,G,by omega,C⟩
def za(s:ByteArray)(w:Ê)(e:Ending)(w':Ê):Prop:=
 (dc (ae s)≠0/\e=Ë (Ì #[Å Â 0 0,Å Â 0 0,À Á ((fX (ae s):Nat):Int),aF (dc (ae s))]))\/
 (dc (ae s)=0/\∃A P a b,e=Ë (Ì #[Å A (aQ (ae s)).length a,Å P (aQ (ae s)).length b,À Á 0,â])/\cP w (Å A (aQ (ae s)).length a) ((aQ (ae s)).map ab) w'/\jm w.heap.size (Å P (aQ (ae s)).length b) (ec (ae s)) w')
theorem M3(s)(w:Ê)(hl:(ae s).length<=60000):Ý prog 85 #[Ï s] w λe a=>za s w e a/\Ó w w a:=by
 have n:s.size<=60000:=by rw[<-aw];exact hl
 clear hl;have Av:¬60000<(s.size:Int):=by omega
 go_in;go_wp2_with fail;refine ai (DI _ _) λw1 hw1=>?_
 have HO:Hid (jn w1 w.heap.size ⟨#[32,10]⟩):=by rw[hw1];exact jn.new _ _
 have t:Hid (Ó w w w1):=by rw[hw1];exact Zb.alloc Zl _
 have l:=HO.o.1;generalize Am:w.heap.size=bk at HO t l⊢;have V:=aa Am;clear hw1 Am;go_wp2_with fail
 go_loopw [2,3,7,8] (λx p m i wr=>∃(k:Nat)(K:List (Nat × List UInt8))(A P:Option Addr)(ac pc:Nat),x=Å A (ſ K) ac/\p=Å P (ſ K) pc/\m=À Á ((many (K.map (·.2)):Nat):Int)/\i=(k:Int)/\fx s w1 k K A P ac pc wr) (λ_ _ _ i _=>s.size-(intOf i).toNat)
 case atStart=>exact⟨0,[],Â,Â,0,0,rfl,rfl,rfl,rfl,{b:=Ô _ _,le:=Nat.zero_le _,ln:=Nat.le_refl _,eq:=rfl,ws:=à _ _ _ _,ps:=à _ _ _ _}⟩
 case round=>
  obtain⟨k,K,A,P,ac,pc,rfl,rfl,rfl,rfl,hR⟩:=hrel;have HR:=aa hR;have Ab:=aa (HO.o.W l hR.b);have y:=aa (t.o.trans (hR.b.mono (Nat.le_of_lt l)));have Ay:=hR.le;have Az:=hR.ln
  have Ar:many (K.map (·.2))<=60000:=by
   have h1:many (K.map (·.2))<=(K.map (·.2)).length:=List.length_filter_le _ _;rw[Û]at h1;omega
  clear hR;generalize An:many (K.map (·.2))=mm at Ar;have z:=aa An;clear An;by_cases N:k<s.size
  .have Ap:(k:Int)<(s.size:Int):=by omega
   cases hs:cZ s[k]with
   | true=>
    have HN:=aa (HR.o.space N hs);have HP:=(show Hid (_=_)from yp s[k]);go_wp2_with fail;refine an (sD s[k] Ab.o) ?_;rw[HP.o,hs];clear hs;go_wp2
    go_roundw
    case rel=>exact⟨k+1,K,A,P,ac,pc,rfl,rfl,by rw[z.o],by go_num,HN.o⟩
    case measure=>simp[intOf];omega
   | false=>
    have HP:=(show Hid (_=_)from yp s[k]);have HS:=aa hs;have Ax:(k:Int)<=(s.size:Int):=by omega
    clear hs;go_wp2_with fail;refine an (sD s[k] Ab.o) ?_;rw[HP.o,HS.o];go_wp2_with fail;refine ai (R6 N n HS.o _) λw2 J=>?_
    have S:=aa (HR.o.later J);have Q:=aa (t.o.trans (S.o.b.mono (Nat.le_of_lt l)));clear HR y Ab J;cases h:dS s k with
    | false=>
     have f:=aa (zQ (by rw[aw];exact n) (CT S.o N HS.o h));generalize O:ab (aK ((ae s).drop k))=u;clear h O;go_wp2;refine Í (v:=Ì #[Å Â 0 0,Å Â 0 0,(k:Int),.iface 50 (À Á 5)]) (by simp[Þ,Tryz.results85,go_sem]) rfl ?_;exact⟨.inl ⟨by rw[f.o.1];decide,by rw[f.o.1,f.o.2,Hw]⟩,by rw[V.o];exact Q.o⟩
    | true=>
     have Al:=aa h;obtain⟨o,U⟩:=To N HS.o
     have Ao:(ab (aK ((ae s).drop k))).size+k<=s.size:=by
      have:=oX ((ae s).drop k)
      rw[ã,aw]at this;rw[jT];omega
     have X:Hid (many (K.map (·.2)++[aK ((ae s).drop k)])=mm+(if s[k] != 35 then 1 else 0)):=by
      show _=_;rw[zX,z.o,zY N HS.o]
     have g:Hid ((aK ((ae s).drop k)).length=(ab (aK ((ae s).drop k))).size):=(jT _).symm;generalize hW:aK ((ae s).drop k)=W at X g o U Ao⊢;have HW:=aa hW;generalize O:ab W=u at g o U Ao⊢;have HU:=aa O;have Aw:(0:Int)<(u.size:Int):=by omega
     clear h hW O;cases hn:(s[k] != 35)with
     | true=>
      have As:((u[0].toNat:Int) != 35)=true:=by
       rw[U o]
       show(!((s[k].toNat:Int)==35))=Ö
       rw[show(35:Int)=((35:Nat):Int)from rfl,fC _ 35 (by decide)];exact hn
      have Aa:Hid (many ((K++[(k,W)]).map (·.2))=mm+1):=by
       show _=_;rw[å]
       have:=X.o
       rw[hn]at this;exact this
      clear hn U X;go_wp2_with fail;refine ai (sy u _ (by omega)) λw3 G=>?_
      have E:=aa (S.o.later G);have Au:=E.o.b.size;clear S Q G;obtain⟨i0,Ad,Ai,Aj,Ak⟩:=ß j7;go_wp2_with(at_builtin;refine Ð _ rfl _ _ 72 rfl w1.heap.size 9 i0 _ 1 16 Tryz.underlying72 Ad Ai Aj Ak rfl (by decide) _ _ _ rfl (Ã E.o.ws _) w3.heap.size 1 1 [Ï u] rfl rfl (Ù w3 _ _) (by intro u O;simp at O;subst O;rfl) (by decide) (by unfold ê;omega) (by omega) (by simp;omega) (w3.heap.size+1) (by simp) ?_);intro g2 L q H C Z c;have J:=(E.o.b.alloc (by omega) (É #[Ï u] 9)).grown C (by simp;omega) (λj a=>(Õ E.o.ws j a).1);have Q:=(show Hid (Ó _ _ _)from J);have R:=aa (oU (Ã E.o.ps _) (Ã E.o.ws _) (by decide) C);have Ac:=(show Hid (q.ownsRow _ _ _ _ _ _)from H);have At:=J.size;clear H C J Z c;obtain⟨i1,Ae,Af,Ag,Ah⟩:=ß lW;go_wp2_with(at_builtin;refine Ð _ rfl _ _ 73 rfl w1.heap.size 3 i1 _ 1 8 Tryz.underlying73 Ae Af Ag Ah rfl (by decide) _ _ _ rfl (Ã R.o _) q.heap.size 1 1 [(k:Int)] rfl rfl (Ù q _ _) (by intro u O;simp at O;subst O;rfl) (by decide) (by unfold ê;omega) (by omega) (by simp;omega) (q.heap.size+1) (by simp) ?_);intro g3 M w5 I D a d;have G:=(Q.o.alloc (by omega) (É #[(k:Int)] 3)).grown D (by simp;omega) (λj a=>(Õ R.o j a).1);have Y:=oU (Ã Ac.o _) (Ã R.o _) (by decide) D
      have HN:Hid (fx s w1 (k+u.size) (K++[(k,W)]) g2 g3 L M w5):=by
       show fx _ _ _ _ _ _ _ _ _;rw[<-g.o,<-HW.o];refine E.o.next N HS.o Al.o G ?_ ?_
       .rw[HW.o,HU.o];exact Y
       .exact I
      clear I D a d G Y;go_wp2
      go_roundw
      case rel=>exact⟨k+u.size,K++[(k,W)],Ä ↑g2,Ä ↑g3,L,M,by rw[Ñ];rfl,by rw[Ñ];rfl,by rw[Aa.o];go_num,by go_num,HN.o⟩
      case measure=>simp[intOf];omega
     | false=>
      have As:((u[0].toNat:Int) != 35)=false:=by
       rw[U o]
       show(!((s[k].toNat:Int)==35))=Ú
       rw[show(35:Int)=((35:Nat):Int)from rfl,fC _ 35 (by decide)];exact hn
      have Aa:Hid (many ((K++[(k,W)]).map (·.2))=mm):=by
       show _=_;rw[å]
       have:=X.o
       rw[hn]at this;exact this
      clear hn U X;go_wp2_with fail;refine ai (sy u _ (by omega)) λw3 G=>?_
      have E:=aa (S.o.later G);have Au:=E.o.b.size;clear S Q G;obtain⟨i0,Ad,Ai,Aj,Ak⟩:=ß j7;go_wp2_with(at_builtin;refine Ð _ rfl _ _ 72 rfl w1.heap.size 9 i0 _ 1 16 Tryz.underlying72 Ad Ai Aj Ak rfl (by decide) _ _ _ rfl (Ã E.o.ws _) w3.heap.size 1 1 [Ï u] rfl rfl (Ù w3 _ _) (by intro u O;simp at O;subst O;rfl) (by decide) (by unfold ê;omega) (by omega) (by simp;omega) (w3.heap.size+1) (by simp) ?_);intro g2 L q H C Z c;have J:=(E.o.b.alloc (by omega) (É #[Ï u] 9)).grown C (by simp;omega) (λj a=>(Õ E.o.ws j a).1);have Q:=(show Hid (Ó _ _ _)from J);have R:=aa (oU (Ã E.o.ps _) (Ã E.o.ws _) (by decide) C);have Ac:=(show Hid (q.ownsRow _ _ _ _ _ _)from H);have At:=J.size;clear H C J Z c;obtain⟨i1,Ae,Af,Ag,Ah⟩:=ß lW;go_wp2_with(at_builtin;refine Ð _ rfl _ _ 73 rfl w1.heap.size 3 i1 _ 1 8 Tryz.underlying73 Ae Af Ag Ah rfl (by decide) _ _ _ rfl (Ã R.o _) q.heap.size 1 1 [(k:Int)] rfl rfl (Ù q _ _) (by intro u O;simp at O;subst O;rfl) (by decide) (by unfold ê;omega) (by omega) (by simp;omega) (q.heap.size+1) (by simp) ?_);intro g3 M w5 I D a d;have G:=(Q.o.alloc (by omega) (É #[(k:Int)] 3)).grown D (by simp;omega) (λj a=>(Õ R.o j a).1);have Y:=oU (Ã Ac.o _) (Ã R.o _) (by decide) D
      have HN:Hid (fx s w1 (k+u.size) (K++[(k,W)]) g2 g3 L M w5):=by
       show fx _ _ _ _ _ _ _ _ _;rw[<-g.o,<-HW.o];refine E.o.next N HS.o Al.o G ?_ ?_
       .rw[HW.o,HU.o];exact Y
       .exact I
      clear I D a d G Y;go_wp2
      go_roundw
      case rel=>exact⟨k+u.size,K++[(k,W)],Ä ↑g2,Ä ↑g3,L,M,by rw[Ñ];rfl,by rw[Ñ];rfl,by rw[Aa.o],by go_num,HN.o⟩
      case measure=>simp[intOf];omega
  .have Ap:¬(k:Int)<(s.size:Int):=by omega
   have HX:=aa (CU HR.o N)
   have HL:Hid ((aQ (ae s)).length=ſ K/\many (aQ (ae s))=mm):=by
    refine⟨?_,?_⟩
    .rw[aQ,HX.o.2,Û]
    .rw[aQ,HX.o.2];exact z.o
   by_cases r:300<mm
   .have Aq:(300:Int)<(mm:Int):=by omega
    have f:=aa (CR (by rw[aw];exact n) HX.o.1 (by rw[HL.o.2];exact r));go_wp2;refine Í (v:=Ì #[Å Â 0 0,Å Â 0 0,À Á 0,.iface 50 (À Á 3)]) (by simp[Þ,Tryz.results85,go_sem]) rfl ?_;exact⟨.inl ⟨by rw[f.o.1];decide,by rw[f.o.1,f.o.2,rp];rfl⟩,by rw[V.o];exact y.o⟩
   .have Aq:¬(300:Int)<(mm:Int):=by omega
    have f:=aa (CS (by rw[aw];exact n) HX.o.1 (by rw[HL.o.2];exact r));go_wp2;refine Í (v:=Ì #[Å A (ſ K) ac,Å P (ſ K) pc,À Á 0,â]) (by simp[Þ,Tryz.results85,go_sem]) rfl ?_;refine⟨.inr ⟨f.o.1,A,P,ac,pc,by rw[HL.o.1],AK (B:=w1.heap.size) ?_ (by rw[V.o];omega),AK (B:=w1.heap.size) ?_ (by rw[V.o];omega)⟩,by rw[V.o];exact y.o⟩
    .show wr.ownsRow _ _ _ _ _ _;rw[Û,HL.o.1,aQ,HX.o.2,List.map_map];exact HR.o.ws
    .show wr.ownsRow _ _ _ _ _ _;rw[<-kX,HL.o.1,ec,HX.o.2];exact HR.o.ps
theorem Tq(s)(w:Ê):Ý prog 85 #[Ï s] w λe C=>za s w e C/\Ó w w C:=by
 by_cases h:(ae s).length<=60000
 .exact M3 s w h
 .have A:Hid (dc (ae s)=3/\fX (ae s)=0):=CQ (by omega);have B:60000<(s.size:Int):=by rw[aw]at h;omega
  clear h;go_in;go_wp2;refine Í (v:=Ì #[Å Â 0 0,Å Â 0 0,À Á 0,.iface 50 (À Á 3)]) (by simp[Þ,Tryz.results85,go_sem]) rfl ?_;exact⟨.inl ⟨by rw[A.o.1];decide,by rw[A.o.1,A.o.2,rp];rfl⟩,Ô _ _⟩
set_option maxHeartbeats 8000000
theorem ND{w:Ê}{C m}(A:w.grownBy C (Ä m)):am w m w C:=
 ⟨A.os,A.tape,A.output,A.size,λk D B=>A.block k D (by intro e;exact B (Ø e))⟩
structure jM(w w2:Ê)(i c:Nat)(k:Cv):Prop where
 a0:w2.cell? ⟨w,0,Â⟩=Ä (À Á i)
 a1:w2.cell? ⟨w,1,Â⟩=Ä (À Á c)
 r0:w2.cell? ⟨w.heap.size+1,0,Â⟩=Ä (À Á 0)
 r1:w2.cell? ⟨w.heap.size+1,1,Â⟩=Ä (À Á 0)
 r2:w2.cell? ⟨w.heap.size+1,2,Â⟩=Ä (À Á 0)
 r3:w2.cell? ⟨w.heap.size+1,3,Â⟩=Ä (À Á 0)
 r4:w2.cell? ⟨w.heap.size+1,4,Â⟩=Ä (À Á 0)
 t0:w2.cell? ⟨w.heap.size+1+1,0,Â⟩=Ä (À Á k.o)
 t1:w2.cell? ⟨w.heap.size+1+1,1,Â⟩=Ä (À Á k.l)
 t2:w2.cell? ⟨w.heap.size+1+1,2,Â⟩=Ä (À Á k.ch)
 t3:w2.cell? ⟨w.heap.size+1+1,3,Â⟩=Ä (À Á k.np)
 t4:w2.cell? ⟨w.heap.size+1+1,4,Â⟩=Ä (À Á k.nc)
 fr:de w2 (w.heap.size+1)
 ft:de w2 (w.heap.size+1+1)
theorem jM.kept{w}{C:Ê}{E i c m k}(h:jM w C i c k)(D:am C m C E)(I:m<w.heap.size):jM w E i c k:=by
 have B:=h.ft.lt;have A:∀b o v,b=w.heap.size\/b=w.heap.size+1\/b=w.heap.size+1+1->C.cell? ⟨b,o,Â⟩=Ä v->E.cell? ⟨b,o,Â⟩=Ä v:=λb o v H G=>(D.cell (p:=⟨b,o,Â⟩) (by simp;omega) (by simp;omega)).trans G
 exact⟨A _ _ _ (.inl rfl) h.a0,A _ _ _ (.inl rfl) h.a1,A _ _ _ (.inr (.inl rfl)) h.r0,A _ _ _ (.inr (.inl rfl)) h.r1,A _ _ _ (.inr (.inl rfl)) h.r2,A _ _ _ (.inr (.inl rfl)) h.r3,A _ _ _ (.inr (.inl rfl)) h.r4,
  A _ _ _ (.inr (.inr rfl)) h.t0,A _ _ _ (.inr (.inr rfl)) h.t1,A _ _ _ (.inr (.inr rfl)) h.t2,A _ _ _ (.inr (.inr rfl)) h.t3,A _ _ _ (.inr (.inr rfl)) h.t4,h.fr.kept (D.block _ (by omega) (by omega)),h.ft.kept (D.block _ (by omega) (by omega))⟩
theorem PI{E g D G i c R}{S:Nat->Nat->Bool}{w C}(h:iv E g D G i c R S w C):jM w (C.alloc (É #[À Á 0,À Á 0,À Á 0,À Á 0,À Á 0] 282)).drew i c gP:=by
 have B:=ç C (É #[À Á 0,À Á 0,À Á 0,À Á 0,À Á 0] 282);rw[h.sz]at B;have A:∀o v,(C.alloc (É #[À Á 0,À Á 0,À Á 0,À Á 0,À Á 0] 282)).cell? ⟨w.heap.size+1+1,o,Â⟩=v->(C.alloc (É #[À Á 0,À Á 0,À Á 0,À Á 0,À Á 0] 282)).drew.cell? ⟨w.heap.size+1+1,o,Â⟩=v:=λ_ _ h=>h
 refine⟨ka h.a0 _,ka h.a1 _,ka h.r0 _,ka h.r1 _,ka h.r2 _,ka h.r3 _,ka h.r4 _,A _ _ ?_,A _ _ ?_,A _ _ ?_,A _ _ ?_,A _ _ ?_,h.fr.kept (Ç _ _ _ h.fr.lt),⟨_,_,B⟩⟩
 all_goals simp[é,B,gP]
theorem jM.put{w J i c k H}(h:jM w J i c k):jM w (((((J.setCell ⟨w.heap.size+1+1,0,Â⟩ (À Á H.o)).setCell ⟨w.heap.size+1+1,1,Â⟩ (À Á H.l)).setCell ⟨w.heap.size+1+1,2,Â⟩ (À Á H.ch)).setCell ⟨w.heap.size+1+1,3,Â⟩ (À Á H.np)).setCell ⟨w.heap.size+1+1,4,Â⟩ (À Á H.nc)) i c H:=by
 have A:∀b o v K L M N O,b≠w.heap.size+1+1->J.cell? ⟨b,o,Â⟩=Ä v->(((((J.setCell ⟨w.heap.size+1+1,0,Â⟩ K).setCell ⟨w.heap.size+1+1,1,Â⟩ L).setCell ⟨w.heap.size+1+1,2,Â⟩ M).setCell ⟨w.heap.size+1+1,3,Â⟩ N).setCell ⟨w.heap.size+1+1,4,Â⟩ O).cell? ⟨b,o,Â⟩=Ä v:=
  λb o v K L M N O I P=>(af (.inl I.symm)).trans ((af (.inl I.symm)).trans ((af (.inl I.symm)).trans ((af (.inl I.symm)).trans ((af (.inl I.symm)).trans P))))
 have B:=h.t0;have C:=h.t1;have D:=h.t2;have E:=h.t3;have G:=h.t4;refine⟨A _ _ _ _ _ _ _ _ (by omega) h.a0,A _ _ _ _ _ _ _ _ (by omega) h.a1,A _ _ _ _ _ _ _ _ (by omega) h.r0,A _ _ _ _ _ _ _ _ (by omega) h.r1,A _ _ _ _ _ _ _ _ (by omega) h.r2,A _ _ _ _ _ _ _ _ (by omega) h.r3,A _ _ _ _ _ _ _ _ (by omega) h.r4,?_,?_,?_,?_,?_,?_,?_⟩
 .exact(af (by omega)).trans ((af (by omega)).trans ((af (by omega)).trans ((af (by omega)).trans (cF B))))
 .exact(af (by omega)).trans ((af (by omega)).trans ((af (by omega)).trans (cF ((af (by omega)).trans C))))
 .exact(af (by omega)).trans ((af (by omega)).trans (cF ((af (by omega)).trans ((af (by omega)).trans D))))
 .exact(af (by omega)).trans (cF ((af (by omega)).trans ((af (by omega)).trans ((af (by omega)).trans E))))
 .exact cF ((af (by omega)).trans ((af (by omega)).trans ((af (by omega)).trans ((af (by omega)).trans G))))
 .exact h.fr.set.set.set.set.set
 .exact h.ft.set.set.set.set.set
theorem Vp(sb g mb wd i c R)(hi:i<ſ R)(hR:ſ R<=400)(hc:c<=100)(Af:c<=wd)(k:rL sb g mb wd R i c)(w)(S:Nat->Nat->Bool)(h:aU sb g mb wd R w S)(hS:S i c=Ú):
  Ý prog 203 #[Î (Ä ⟨sb,0,Â⟩),Ü #[À Á i,À Á c]] w λe a=>e=Ë (dQ (az R wd i c))/\Left sb g mb wd R S i i c w a:=by
 have c0:=h.pl.c0;have H:Hid (aU sb g mb wd R w S):=h;have Aa:Hid (rL sb g mb wd R i c):=k;have t:=h.lt;have Ag:((i:Int)==(ſ R:Int))=false:=beq_eq_false_iff_ne.2 (by omega);have Ad:∀a b,((w.alloc a).alloc b).cell? ⟨sb,0,Â⟩=Ä (Å (Ä ⟨g,0,Â⟩) (ſ R) (ſ R)):=λO1 O2=>ka (ka c0 O1) O2
 have HS:Hid (S i c=Ú):=hS
 have Z:Hid (∀W,fF W mb (az R wd) S->(Instr.lookup 276 (.map (Ä mb)) (Ü #[À Á (i:Int),À Á (c:Int)]) Ö).run prog W=.ok (Ì #[Ü #[À Á 0,À Á 0,À Á 0,À Á 0,À Á 0],æ Ú]) W):=λW hW=>by
  have:=hW.look_ok (p:=i) (c:=c) (by omega) hc
  rw[HS.o,if_neg (by simp)]at this;exact this
 rw[dQ];clear h c0 hS k;go_in;go_wp2_with fail
 go_quiet (fail)
 go_wp2_with fail;have L:=nY (i:=i) (c:=c) (nq:=nq) H.o
 generalize((w.alloc (É #[À Á i,À Á c] 280)).alloc (É #[À Á 0,À Á 0,À Á 0,À Á 0,À Á 0] 282)).drewN nq=w1 at *
 have M:Hid (iv sb g mb wd i c R S w w1):=L;have j:=L.inv.c2;obtain⟨_,Ah,N,P,_,_,_,_,_,_,_⟩:=L;have m:=Z.o w1.drew (M.o.inv.me.kept rfl);have n:=λO=>Z.o (w1.alloc O).drew ((M.o.inv.alloc O).me.kept rfl)
 have Ab:=λO=>ka N O
 have Ac:=λO=>ka P O
 clear Ad
 go_region_held3 (λa=>a.cell? ⟨sb,2,Â⟩=Ä (.map (Ä mb))/\a.cell? ⟨w,0,Â⟩=Ä (À Á i)/\a.cell? ⟨w,1,Â⟩=Ä (À Á c)/\(Instr.lookup 276 (.map (Ä mb)) (Ü #[À Á (i:Int),À Á (c:Int)]) Ö).run prog a=.ok (Ì #[Ü #[À Á 0,À Á 0,À Á 0,À Á 0,À Á 0],æ Ú]) a)
  (first|exact⟨j,N,P,m⟩|exact⟨ka j _,ka N _,ka P _,n _⟩) (fail)
 all_goals
  go_wp2_with fail;refine ai (Aa.o (w1.alloc (É #[À Á 0,À Á 0,À Á 0,À Á 0,À Á 0] 282)).drew S ((M.o.inv.alloc _).kept λ_ _=>rfl)) λw2 hL=>?_
  obtain⟨K,I,hI,x,s,r⟩:=hL;have hB:=(PI M.o).kept K t.2.2;have V:Hid (am w mb w w2):=((am.of (M.o.bw.alloc M.o.bw.size _)).drew).trans (K.mono (by show w.heap.size<=(w1.alloc _).heap.size;simp;omega));have d:Hid (jM w w2 i c gP):=hB;obtain⟨_,_,_,_,_,_,_,t0,t1,t2,t3,t4,_,U⟩:=hB;have y0:w2.frozen? ⟨w.heap.size+1+1,0,Â⟩=false:=U.frozen;have y1:w2.frozen? ⟨w.heap.size+1+1,1,Â⟩=false:=U.frozen;have y2:w2.frozen? ⟨w.heap.size+1+1,2,Â⟩=false:=U.frozen;have y3:w2.frozen? ⟨w.heap.size+1+1,3,Â⟩=false:=U.frozen;have y4:w2.frozen? ⟨w.heap.size+1+1,4,Â⟩=false:=U.frozen;have HI:Hid (aU sb g mb wd R w2 I):=hI;have z:Hid ((∀a b,S a b=Ö->I a b=Ö)/\(∀a b,I a b=Ö->S a b=Ö\/i+1<=a)/\((az R wd i c).np<ſ R->I (az R wd i c).np (az R wd i c).nc=Ö)):=⟨x,s,r⟩;rw[dQ];have D:Hid (jM w (((((w2.setCell ⟨w.heap.size+1+1,0,Â⟩ (À Á (az R wd i c).o)).setCell ⟨w.heap.size+1+1,1,Â⟩ (À Á (az R wd i c).l)).setCell ⟨w.heap.size+1+1,2,Â⟩ (À Á (az R wd i c).ch)).setCell ⟨w.heap.size+1+1,3,Â⟩ (À Á (az R wd i c).np)).setCell ⟨w.heap.size+1+1,4,Â⟩ (À Á (az R wd i c).nc)) i c (az R wd i c)):=d.o.put;have G:Hid (aU sb g mb wd R (((((w2.setCell ⟨w.heap.size+1+1,0,Â⟩ (À Á (az R wd i c).o)).setCell ⟨w.heap.size+1+1,1,Â⟩ (À Á (az R wd i c).l)).setCell ⟨w.heap.size+1+1,2,Â⟩ (À Á (az R wd i c).ch)).setCell ⟨w.heap.size+1+1,3,Â⟩ (À Á (az R wd i c).np)).setCell ⟨w.heap.size+1+1,4,Â⟩ (À Á (az R wd i c).nc)) I):=HI.o.set5 (by omega) (by omega) (by omega) _ _ _ _ _;have C:Hid (am w mb w (((((w2.setCell ⟨w.heap.size+1+1,0,Â⟩ (À Á (az R wd i c).o)).setCell ⟨w.heap.size+1+1,1,Â⟩ (À Á (az R wd i c).l)).setCell ⟨w.heap.size+1+1,2,Â⟩ (À Á (az R wd i c).ch)).setCell ⟨w.heap.size+1+1,3,Â⟩ (À Á (az R wd i c).np)).setCell ⟨w.heap.size+1+1,4,Â⟩ (À Á (az R wd i c).nc))):=mr V.o (by omega) _ _ _ _ _;clear K hI x s r U j N P m n Ab Ac;go_wp2_with fail;clear t0 t1 t2 t3 t4 y0 y1 y2 y3 y4 HI V d
  generalize((((w2.setCell ⟨w.heap.size+1+1,0,Â⟩ (À Á (az R wd i c).o)).setCell ⟨w.heap.size+1+1,1,Â⟩ (À Á (az R wd i c).l)).setCell ⟨w.heap.size+1+1,2,Â⟩ (À Á (az R wd i c).ch)).setCell ⟨w.heap.size+1+1,3,Â⟩ (À Á (az R wd i c).np)).setCell ⟨w.heap.size+1+1,4,Â⟩ (À Á (az R wd i c).nc)=w3 at *
  have q:I i c=false:=by
   cases e:I i c with
   | false=>rfl
   | true=>
    rcases z.o.2.1 i c e with e2|e2
    .rw[HS.o]at e2;cases e2
    .omega
  obtain⟨J,y,u,B⟩:=fF.store (w:=w3.drew) (p:=i) (c:=c) (G.o.me.kept rfl) (by omega) hc q;have E:am w3 mb w3 J:=⟨B.os,B.tape,B.output,B.size,(ND B).block⟩;have f:Hid (jM w J i c (az R wd i c)):=D.o.kept E t.2.2;have Y:Hid (aU sb g mb wd R J (gz I i c)):=aU.more (w:=w3.drew) (G.o.kept λ_ _=>rfl) B u hi Af z.o.2.2;have X:Hid (am w mb w J):=C.o.trans (E.mono C.o.size);have j:=G.o.c2;have Ae:=Y.o.c2;obtain⟨N,P,_,_,_,_,_,t0,t1,t2,t3,t4,_,_⟩:=D.o;obtain⟨b0,b1,r0,r1,r2,r3,r4,u0,u1,u2,u3,u4,Q,_⟩:=f.o;have y0:J.frozen? ⟨w.heap.size+1,0,Â⟩=false:=Q.frozen;have y1:J.frozen? ⟨w.heap.size+1,1,Â⟩=false:=Q.frozen;have y2:J.frozen? ⟨w.heap.size+1,2,Â⟩=false:=Q.frozen;have y3:J.frozen? ⟨w.heap.size+1,3,Â⟩=false:=Q.frozen;have y4:J.frozen? ⟨w.heap.size+1,4,Â⟩=false:=Q.frozen;rw[dQ]at y;clear u B E Q D G C q
  go_region_held3 (λa=>a.cell? ⟨sb,2,Â⟩=Ä (.map (Ä mb))/\a.cell? ⟨w,0,Â⟩=Ä (À Á i)/\a.cell? ⟨w,1,Â⟩=Ä (À Á c)/\a.cell? ⟨w.heap.size+1+1,0,Â⟩=Ä (À Á (az R wd i c).o)/\a.cell? ⟨w.heap.size+1+1,1,Â⟩=Ä (À Á (az R wd i c).l)/\a.cell? ⟨w.heap.size+1+1,2,Â⟩=Ä (À Á (az R wd i c).ch)/\a.cell? ⟨w.heap.size+1+1,3,Â⟩=Ä (À Á (az R wd i c).np)/\a.cell? ⟨w.heap.size+1+1,4,Â⟩=Ä (À Á (az R wd i c).nc))
   (first|exact⟨j,N,P,t0,t1,t2,t3,t4⟩|exact⟨Ae,b0,b1,u0,u1,u2,u3,u4⟩) (fail)
  all_goals
   go_wp2;refine Í (v:=Ü #[À Á (az R wd i c).o,À Á (az R wd i c).l,À Á (az R wd i c).ch,À Á (az R wd i c).np,À Á (az R wd i c).nc]) (by simp[Þ,Tryz.results203,go_sem,r0,r1,r2,r3,r4]) rfl ⟨rfl,mr X.o (by omega) _ _ _ _ _,gz I i c,Y.o.set5 (by omega) (by omega) (by omega) _ _ _ _ _,λa b A=>?_,λa b A=>?_,λ_=>by simp[gz]⟩
   .simp[gz,z.o.1 a b A]
   .simp only[gz,ä,á,decide_eq_true_eq]at A;rcases A with A|A
    .rcases z.o.2.1 a b A with h|h
     .exact .inl h
     .exact .inr (by omega)
    .exact .inr (by omega)
theorem Vo(E g D C i c R)(hi:i<ſ R)(G:ſ R<=400)(H:C<=100)(B:c<=C)(A:rL E g D C R i c):nP E g D C R i c:=by grind [Oc,Vp,rL,nP]
