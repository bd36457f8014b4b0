import Derived.Test.YtelcnplcpboonaaGreatDoorPe18
import Derived.Test.YtelcnplcpboonaaGreatDoorPe19
import Derived.Lib.Atoi
import Derived.Lib.AtoiErrMem
import Derived.Test.YtelcnplcpboonaaGreatDoorPe17
open Go.Proofs.Tryz
open List renaming length->ſ
open Go.Value renaming string->À,slice->Á,pointer->Ã,int->Ô,bool->Ö,tuple->Ü
open Go.Ending renaming returned->Â,panicked->Ä
open Option renaming some->Å,none->Ï
open List renaming getElem?_eq_some_iff->Æ,drop_eq_getElem_cons->Ç,length_append->È,length_cons->É,getElem?_eq_getElem->Ì,drop_eq_nil_of_le->Î,length_nil->Ñ,length->Ø,drop_left->Û
open Go.Obj renaming cells->Ê
open Go renaming World->Ë,Calls->Ð,heap_alloc_new->Ù,Value->Ý
open Go.RowKit.Below renaming heap_setCell->Í
open Go.World renaming size_alloc->Ò,cell?_of_block->Ó,setCell->Ú,cell?->Þ
open Go.IntKind renaming i64->Õ
namespace Go.Proofs.YtelcnplcpboonaaGreatDoor
open Go Go.RowKit
set_option maxRecDepth 100000
set_option maxHeartbeats 16000000
theorem dD{ws:List Wd}{p}:(ws.drop p).length=ſ ws-p:=List.length_drop
theorem jP(ws:List Wd)(p):(ws.drop p).head?=ws[p]?:=List.head?_drop
theorem mR{ws:List Wd}{p r}(h:r <:+ ws.drop p):ws.drop (ſ ws-ſ r)=r:=by
 obtain⟨t,A⟩:=h.trans (List.drop_suffix p ws);have B:=congrArg Ø A;rw[È]at B;have e:ſ ws-ſ r=ſ t:=by omega
 rw[e,<-A,Û]
structure sU(K:ew)(ws:List Wd)(pl:Nat->Nat)(b:Nat)(j:dO)(p:Nat)(w:Ë)(m:Nat)(ns:List Td)(u:List Wd)(v:Ý)(w':Ë):Prop where
 pr:PR j (ws.drop p) (.ok m ns u)
 o:au w v ns w'
 n:ſ ns+ſ u<=(ws.drop p).length
 rd:Ry K ws pl b (ſ ws-ſ u) w'
 bt:ak w b w w'
inductive co (K:ew) (ws:List Wd) (pl:Nat->Nat) (b:Nat) (j:dO) (p:Nat) (w:Ë):Ending->Ë->Prop where
 | ok {m ns u A c w'} (h:sU K ws pl b j p w m ns u (Á A (ſ ns) c) w'):co K ws pl b j p w (Â (Á A (ſ ns) c)) w'
 | bad {u w'} (pr:PR j (ws.drop p) (.bad u)) (bt:ak w b w w'):co K ws pl b j p w (Ä [cD (pl (ſ ws-ſ u))]) w'
abbrev kP(K:ew)(ws:List Wd)(pl:Nat->Nat)(b p:Nat):Prop:=∀w:Ë,Ry K ws pl b p w->Ð prog 150 #[Ã (Å ⟨b,0,Ï⟩)] w λe a=>co K ws pl b (.level 0) p w e a
abbrev pj(K:ew)(ws:List Wd)(pl:Nat->Nat)(b p:Nat):Prop:=∀w:Ë,Ry K ws pl b p w->Ð prog 187 #[Ã (Å ⟨b,0,Ï⟩)] w λe a=>co K ws pl b (.level 1) p w e a
abbrev nD(K:ew)(ws:List Wd)(pl:Nat->Nat)(b p:Nat):Prop:=∀w:Ë,Ry K ws pl b p w->Ð prog 218 #[Ã (Å ⟨b,0,Ï⟩)] w λe a=>co K ws pl b (.level 2) p w e a
def nU(w:Ë)(b:Nat):Nat:=match w.cell? ⟨b,0,Ï⟩with
 | some (Á _ n _)=>n
 | _=>0
section
variable {K:ew} {ws:List Wd} {pl:Nat→Nat} {b q p:Nat} {w w':Ë}
theorem Ry.len_eq(h:Ry K ws pl b q w):nU w b=ſ ws+1-q:=by
 unfold nU;rw[h.c0]
theorem au.but2{B v A}(h:au B v A w)(D:ak w b w w')(E:b<B):au B v A w':=h.kept λg _ C=>D.block g C (by omega)
structure nO(K:ew)(ws:List Wd)(pl:Nat->Nat)(b k p:Nat)(w:Ë)(q:Nat)(acc:List Td)(v:Ý)(wr:Ë):Prop where
 lt:p<q
 n:ſ acc+(ſ ws-q)<=ſ ws-p
 o:au w v acc wr
 rd:Ry K ws pl b q wr
 bt:ak w b w wr
 ok:∀r,PR (.loop k acc) (ws.drop q) r->PR (.level k) (ws.drop p) r
theorem US{k m E u v H}(I:k<2)(h:sU K ws pl b (.level (k+1)) p w m E u v H):nO K ws pl b k p w (ſ ws-ſ u) E v H:=by
 have A:=il h.pr;have C:ws.drop (ſ ws-ſ u)=u:=mR A.1;have D:=h.n;have B:=A.2 m E u rfl;rw[dD]at B D;simp only[dO.eats]at B;exact⟨by omega,by omega,h.o,h.rd,h.bt,λr G=>by rw[C]at G;exact .levO I h.pr G⟩
theorem Lb{k q m A O u v a X wr R}{S:Ë}{U}(P:nO K ws pl b k p w q A v wr)(c:q<ſ ws)(Y:ws.drop q=jk k::ws.drop (q+1))(C:ak w b w R)(E:w.heap.size<=R.heap.size)
  (N:sU K ws pl b (.level (k+1)) (q+1) R m O u a S) (V:Below S S U) (Z:au w X (dB k::(A++O)) U):
  nO K ws pl b k p w (ſ ws-ſ u) (dB k::(A++O)) X U/\q<ſ ws-ſ u:=by
 have B:=il N.pr;have H:ws.drop (ſ ws-ſ u)=u:=mR B.1;have L:=N.n;have G:=B.2 m O u rfl;rw[dD]at L G;simp only[dO.eats]at G;have I:=P.n;have J:=P.lt;have D:(dB k::(A++O)).length=1+ſ A+ſ O:=by simp;omega
 have M:=N.bt.size;exact⟨⟨by omega,by rw[D];omega,Z,N.rd.keep V,(C.trans (N.bt.mono E)).trans (ak.of (V.mono (by omega))),λr W=>by rw[H]at W;exact P.ok _ (by rw[Y];exact .lopO N.pr W)⟩,by omega⟩
end
theorem BS(k F s o)(hk:k=0/\F=187/\s=43/\o=5\/k=1/\F=218/\s=42/\o=6){K ws}{pl:Nat->Nat}{b p}(hL:∀q,p<=q->q<=ſ ws->∀w:Ë,Ry K ws pl b q w->Ð prog F #[Ã (Å ⟨b,0,Ï⟩)] w λe a=>co K ws pl b (.level (k+1)) q w e a)(w)(h:Ry K ws pl b p w):
  Ð prog 186 #[Ã (Å ⟨b,0,Ï⟩),À ⟨#[s]⟩,Ô Õ o,.func (.func F) #[Ã (Å ⟨b,0,Ï⟩)] #[]] w λe a=>co K ws pl b (.level k) p w e a:=by
 have C:lZ k:=.mk;rcases hk with⟨rfl,rfl,rfl,rfl⟩|⟨rfl,rfl,rfl,rfl⟩
 all_goals
  have HL:=aa hL;have l:Hid (Ð prog ↑(cA C 187 218) #[Ã (Å ⟨b,0,Ï⟩)] w λe a=>co K ws pl b (.level (↑(cA C 0 1)+1)) p w e a):=hL p Zl h.le w h;have z:b<w.heap.size:=h.row.lt;have Aw:=h.le;have At:=h.few;clear h hL;go_in;go_wp2_with fail;refine l.o.mono ?_;intro e w1 hG;cases hG with
  | bad pr bt=>
   have HB:Hid (co K ws pl b (.level ↑(cA C 0 1)) p w (Ä [cD (pl (ſ ws-_))]) w1):=.bad (.levB (by omega) pr) bt;clear pr bt;go_wp2;exact⟨rfl,HB.o⟩
  | @ok m ns u A c _ hg=>
   have v:Hid (nO K ws pl b ↑(cA C 0 1) p w (ſ ws-ſ u) ns (Á A (ſ ns) c) w1):=US (by omega) hg;clear hg l;generalize Ac:ſ ns=nl at v;have Aj:Hid (ſ ns=nl):=Ac;clear Ac;go_wp2_with fail
   go_loopw [9] (λx wr=>∃(q:Nat)(B:List Td)(A':Option Addr)(n' c':Nat),x=Á A' n' c'/\(ſ B)=n'/\nO K ws pl b ↑(cA C 0 1) p w q B (Á A' n' c') wr) (λ_ wr=>nU wr b)
   case atStart=>exact⟨_,ns,A,nl,c,rfl,Aj.o,v.o⟩
   case round=>
    obtain⟨q,B,S,L,V,rfl,O,H⟩:=hrel;have U:=aa H;have N:Hid (ſ B=L):=O;have Au:=H.rd.le;have hn:=H.n;have As:=H.bt.size;rw[O]at hn;by_cases I:ws[q]?=Å (jk ↑(cA C 0 1))
    .obtain⟨R,Af⟩:=Æ.1 I
     have f:Hid (ws.drop q=jk ↑(cA C 0 1)::ws.drop (q+1)):=by
      show _=_;rw[Ç R,Af]
     have HH:Hid (Cp 147 #[Ã (Å ⟨b,0,Ï⟩),À ⟨#[↑(bI C (43:UInt8) 42)]⟩] wr λe a=>e=Â (Ö true)/\Ry K ws pl b (q+1) a/\ak wr b wr a):=mU H.rd (jk ↑(cA C 0 1)) I;clear H O I Af;go_wp2_with fail;refine HH.o.mono ?_;rintro e E⟨rfl,h2,b2⟩;have Z:Hid (ak wr b wr E):=b2;have Ax:=b2.size;have Ao:b<E.heap.size:=h2.row.lt
     have t:Hid (∃M,E.alloc (Ê #[Ô Õ ↑(bI C (5:Int) 6),À ⟨#[]⟩,Ô Õ 0] 81)=M/\Ð prog ↑(cA C 187 218) #[Ã (Å ⟨b,0,Ï⟩)] M (λe a=>co K ws pl b (.level (↑(cA C 0 1)+1)) (q+1) M e a)/\au E (Á (Å ⟨E,0,Ï⟩) 1 1) [dB ↑(cA C 0 1)] M/\au w (Á S L V) B M/\ak w b w M/\M.heap.size=E.heap.size+1):=by
      refine⟨_,rfl,HL.o (q+1) (by have:=U.o.lt;omega) (by omega) _ (h2.keep (aC E _)),au.one E (dB ↑(cA C 0 1)),?_,(U.o.bt.trans (Z.o.mono As)).alloc (by omega) _,Ò ..⟩;have ho:=U.o.o.but2 Z.o z;exact ho.kept λg _ h5=>Lib.alloc_old E _ g h5
     clear h2 b2 HH;go_wp2_with fail;obtain⟨M,Ah,Q,Ag,Ad,y,Av⟩:=t.o;rw[Ah];have Am:Hid (au E (Á (Å ⟨E,0,Ï⟩) 1 1) [dB ↑(cA C 0 1)] M):=Ag;have Ak:Hid (au w (Á S L V) B M):=Ad;have a:Hid (ak w b w M):=y;clear Ag Ad y t Ah;refine Q.mono ?_;clear Q;intro e D hG;cases hG with
     | @bad u4 _ pr bt=>
      have HB:Hid (co K ws pl b (.level ↑(cA C 0 1)) p w (Ä [cD (pl (ſ ws-ſ u4))]) D):=.bad (U.o.ok _ (by rw[f.o];exact .lopB pr)) (a.o.trans (bt.mono (by omega)));clear pr bt;go_wp2;exact⟨rfl,HB.o⟩
     | @ok m4 ns4 u4 A4 c4 _ hg=>
      have HG:=aa hg;have Ay:=hg.bt.size;have Ab:=hg.n;rw[dD]at Ab;have An:Hid (au E (Á (Å ⟨E,0,Ï⟩) 1 1) [dB ↑(cA C 0 1)] D):=Am.o.but2 hg.bt Ao;have r:Hid (au w (Á S L V) B D):=Ak.o.but2 hg.bt z
      have Al:Hid (∀W,Below D D W->W.heap[D.heap.size]?=Å (Ê #[Á (Å ⟨E,0,Ï⟩) 1 1,Á S L V,Á A4 (ſ ns4) c4] 82 (0,0))->pf W (Å ⟨D,0,Ï⟩) [[dB ↑(cA C 0 1)],B,ns4]):=by
       intro W X hk;have Y:D.heap.size<W.heap.size:=(Array.getElem?_eq_some_iff.1 hk).1;have G:∀i,W.cell? ⟨D,i,Ï⟩=#[Á (Å ⟨E,0,Ï⟩) 1 1,Á S L V,Á A4 (ſ ns4) c4][i]?:=λi=>by simp[Þ,hk]
       intro i hi;have h3:i=0\/i=1\/i=2:=by simp at hi;omega
       have e1:=uw r.o;have e2:=uw HG.o.o;rcases h3 with rfl|rfl|rfl
       .exact⟨D.heap.size,0,Å ⟨E,0,Ï⟩,1,rfl,Y,G 0,Nat.le_refl _,An.o.tds.W X,λe=>by cases e⟩
       .exact⟨D.heap.size,0,S,V,rfl,Y,by rw[show(([[dB ↑(cA C 0 1)],B,ns4]:List (List Td))[1]).length=L from N.o];exact G 1,e1.2.1,e1.2.2.W X,λe=>by
         have:=r.o.none.2 e
         exact⟨by show (ſ B)=0;rw[N.o];exact this.1,this.2⟩⟩
       .exact⟨D.heap.size,0,A4,c4,rfl,Y,G 2,e2.2.1,e2.2.2.W X,λe=>HG.o.o.none.2 e⟩
      have P:[[dB ↑(cA C 0 1)],B,ns4].flatten=dB ↑(cA C 0 1)::(B++ns4):=by simp
      have J:(dB ↑(cA C 0 1)::(B++ns4)).length=1+L+ſ ns4:=by rw[É,È,N.o];omega
      have d:Hid (∀W,Below D D W->W.heap[D.heap.size]?=Å (Ê #[Á (Å ⟨E,0,Ï⟩) 1 1,Á S L V,Á A4 (ſ ns4) c4] 82 (0,0))->Cp 217 #[Á (Å ⟨D,0,Ï⟩) 3 3] W λe a=>∃A c,e=Â (Á A (1+L+ſ ns4) c)/\nO K ws pl b ↑(cA C 0 1) p w (ſ ws-ſ u4) (dB ↑(cA C 0 1)::(B++ns4)) (Á A (1+L+ſ ns4) c) a/\q<ſ ws-ſ u4):=by
       intro W X hk;have h9:=M6 [[dB ↑(cA C 0 1)],B,ns4] (Å ⟨D,0,Ï⟩) 3 W (Al.o W X hk) (by rw[P,J];omega) (by rw[P,J];omega) (by simp);rw[P,J]at h9;refine h9.mono ?_;rintro e w6⟨A6,c6,rfl,Aq,Ap⟩;have Ar:=X.size;exact⟨A6,c6,rfl,Lb U.o R f.o a.o (by omega) HG.o (X.trans (Ap.mono Ar)) (Aq.down (by omega))⟩
      have j:=(show Hid (_=_)from J);clear hg P J Ab;generalize (ſ ns4)=n4 at d j⊢;go_wp2_with fail;refine(d.o _ (aC D _) (Ù D _)).mono ?_;rintro e w6⟨A6,c6,rfl,h6,Ae⟩;have H6:=aa (And.intro h6 Ae);clear h6 Ae;go_wp2;refine⟨⟨_,_,A6,_,c6,rfl,j.o,H6.o.1⟩,?_⟩;rw[H6.o.1.rd.len_eq,U.o.rd.len_eq]
      have:=H6.o.2
      omega
    .have Ai:Hid ((ws.drop q).head?≠Å (jk ↑(cA C 0 1))):=by
      show _≠_;rw[jP];exact I
     have HH:Hid (Cp 147 #[Ã (Å ⟨b,0,Ï⟩),À ⟨#[↑(bI C (43:UInt8) 42)]⟩] wr λe a=>e=Â (Ö false)/\a=wr):=lO H.rd (jk ↑(cA C 0 1)) (by decide) I;clear H O I;go_wp2_with fail;refine gv HH.o ?_;go_wp2;go_ret;have H:=U.o;obtain rfl:=N.o;have Aa:(ws.drop q).length=ſ ws-q:=dD;refine .ok (m:=0) (u:=ws.drop q) ⟨H.ok _ (.lopE Ai.o),H.o,?_,?_,H.bt⟩
     .rw[Aa,dD];have:=H.n;omega
     .rw[Aa,show (ſ ws)-(ſ ws-q)=q by omega];exact H.rd
theorem Hj{K ws}{pl:Nat->Nat}{b p}(G:∀q,p<=q->q<=ſ ws->pj K ws pl b q):kP K ws pl b p:=by
 intro w h;have D:=aa (BS 0 _ _ _ (.inl ⟨rfl,rfl,rfl,rfl⟩) G w h);go_in;go_wp2_with fail;refine D.o.mono ?_;intro e C E;cases E with
 | @bad u _ pr bt=>
  have B:Hid (co K ws pl b (.level 0) p w (Ä [cD (pl (ſ ws-ſ u))]) C):=.bad pr bt;go_wp2;exact⟨rfl,B.o⟩
 | @ok m ns u A c _ hg=>
  have B:Hid (co K ws pl b (.level 0) p w (Â (Á A (ſ ns) c)) C):=.ok hg;generalize (ſ ns)=nl at B⊢;go_wp2;go_ret;exact B.o
theorem EF{K ws}{pl:Nat->Nat}{b p}(G:∀q,p<=q->q<=ſ ws->nD K ws pl b q):pj K ws pl b p:=by
 intro w h;have D:=aa (BS 1 _ _ _ (.inr ⟨rfl,rfl,rfl,rfl⟩) G w h);go_in;go_wp2_with fail;refine D.o.mono ?_;intro e C E;cases E with
 | @bad u _ pr bt=>
  have B:Hid (co K ws pl b (.level 1) p w (Ä [cD (pl (ſ ws-ſ u))]) C):=.bad pr bt;go_wp2;exact⟨rfl,B.o⟩
 | @ok m ns u A c _ hg=>
  have B:Hid (co K ws pl b (.level 1) p w (Â (Á A (ſ ns) c)) C):=.ok hg;generalize (ſ ns)=nl at B⊢;go_wp2;go_ret;exact B.o
structure Qg(K:ew)(ws:List Wd)(pl:Nat->Nat)(b:Nat)(e:Wd)(op:Int)(tx:ByteArray)(p:Nat)(w:Ë)(n:Nat)(ns:List Td)(u:List Wd)(v:Ý)(w':Ë):Prop where
 pr:PR (.args e 0 []) (ws.drop p) (.ok n ns u)
 o:au w v (⟨op,tx,(n:Int)⟩::ns) w'
 n:ſ ns+ſ u<=(ws.drop p).length
 rd:Ry K ws pl b (ſ ws-ſ u) w'
 bt:ak w b w w'
inductive jv (K:ew) (ws:List Wd) (pl:Nat->Nat) (b:Nat) (e:Wd) (op:Int) (tx:ByteArray) (p:Nat) (w:Ë):Ending->Ë->Prop where
 | ok {n ns u A c w'} (h:Qg K ws pl b e op tx p w n ns u (Á A (ſ ns+1) c) w'):jv K ws pl b e op tx p w (Â (Á A (ſ ns+1) c)) w'
 | bad {u w'} (pr:PR (.args e 0 []) (ws.drop p) (.bad u)) (bt:ak w b w w'):jv K ws pl b e op tx p w (Ä [cD (pl (ſ ws-ſ u))]) w'
structure wi(K:ew)(ws:List Wd)(pl:Nat->Nat)(b:Nat)(e:Wd)(op:Int)(tx:ByteArray)(p:Nat)(w:Ë)(q n:Nat)(acc:List Td)(v:Ý)(wr:Ë):Prop where
 n1:1<=n
 nq:n<=q
 lt:p<q
 nn:ſ acc+(ſ ws-q)<=ſ ws-p
 o:au (w.heap.size+1) v acc wr
 rd:Ry K ws pl b q wr
 bt:ak w b w wr
 bx:wr.heap[w.heap.size]?=Å (Ê #[Ô Õ op,À tx,Ô Õ (n:Int)] 81 (0,0))
 ok:∀r,PR (.args e n acc) (ws.drop q) r->PR (.args e 0 []) (ws.drop p) r
theorem Ry.far{K ws}{pl:Nat->Nat}{b q w}(h:Ry K ws pl b q w){k i:Nat}{v}(A:k≠b)(B:k≠K.gw)(C:k≠K.ga):Ry K ws pl b q (w.setCell (k,i) v):=
 ⟨h.le,(af (.inl A)).trans h.c0,(af (.inl A)).trans h.c1,h.row.set,λi a=>(af (.inl B)).trans (h.wd i a),λi a=>(af (.inl C)).trans (h.pt i a),h.nw,h.na,h.lw,h.la,h.few⟩
theorem FC{w:Ë}{k:Nat}{a c d A T}(h:w.heap[k]?=Å (Ê #[a,c,d] T (0,0))):(w.setCell (k,2) A).heap[k]?=Å (Ê #[a,c,A] T (0,0)):=by
 simp[Ú,Array.getElem?_modify,h]
section
variable {K:ew} {ws:List Wd} {pl:Nat→Nat} {b p q:Nat} {e:Wd} {op:Int} {tx:ByteArray} {w:Ë}
theorem EE(he:e≠[])(U:e≠[44])(hS:∀q,p<=q->q<=ſ ws->kP K ws pl b q)(h:Ry K ws pl b p w):
  Ð prog 242 #[Ã b,.agg #[op,À tx,Ô Õ 0],À (ab e)] w λr a=>jv K ws pl b e op tx p w r a:=by
 have HS:=aa hS;have Bj:=h.row.lt;have A1:=h.le;have Bf:=h.few;have Bl:=h.gwlt;have Bk:=h.galt;have Z:Hid (Ry K ws pl b p (w.alloc (Ê #[op,À tx,Ô Õ 0] 81))):=h.keep (aC w _);have HE:=aa he;have Ak:=aa U;clear h hS he U;by_cases Q:ws[p]?=Å e
 .obtain⟨A4,A0⟩:=Æ.1 Q
  have HD:Hid (ws.drop p=e::ws.drop (p+1)):=by
   show _=_;rw[Ç A4,A0]
  have R:Hid (Cp 147 #[Ã b,À (ab e)] (w.alloc (Ê #[op,À tx,Ô Õ 0] 81)) λr a=>∃M,a=M/\r=Â (Ö true)/\Ry K ws pl b (p+1) M/\ak w b w M/\M.heap[w.heap.size]?=Å (Ê #[op,À tx,Ô Õ 0] 81 (0,0))):=by
   refine(mU Z.o e Q).mono ?_;rintro r M⟨rfl,h1,b1⟩;have Bu:(w.alloc (Ê #[op,À tx,Ô Õ 0] 81)).heap.size=w.heap.size+1:=Ò ..;exact⟨M,rfl,rfl,h1,(ak.of (aC w _)).trans (b1.mono (by omega)),(b1.block _ (by omega) (by omega)).trans (Ù w _)⟩
  generalize ab e=S at R⊢;clear Q A0 Z;go_in;go_wp2_with fail;refine R.o.mono ?_;rintro r w'⟨M,rfl,rfl,h1,b1,t⟩;have d0:=gI t;have d1:=i7 t;have d2:=po t;have A7:=b1.size
  have HX:Hid (jv K ws pl b e op tx p w (Â (Á w'.heap.size 1 1)) (w'.alloc (Ê #[op,À tx,Ô Õ 0] 81))):=by
   refine jv.ok (n:=0) (ns:=[]) (u:=ws.drop (p+1)) ⟨by rw[HD.o];exact .aEnd,(au.one w' ⟨op,tx,0⟩).down A7,?_,?_,b1.alloc A7 _⟩
   .rw[dD,dD];simp only[Ñ];omega
   .rw[dD,show (ſ ws)-(ſ ws-(p+1))=p+1 by omega];exact h1.keep (aC w' _)
  clear h1 b1 t R;go_wp2;go_ret;exact HX.o
 .have R:=aa (lO Z.o e HE.o Q)
  have Am:Hid ((ws.drop p).head?≠Å e):=by
   show _≠_;rw[jP];exact Q
  have a:Hid (∃M,w.alloc (Ê #[op,À tx,Ô Õ 0] 81)=M/\Cp 150 #[Ã b] M (λr a=>co K ws pl b (.level 0) p M r a)/\ak w b w M/\M.heap.size=w.heap.size+1/\M.heap[w.heap.size]?=Å (Ê #[op,À tx,Ô Õ 0] 81 (0,0))):=
   ⟨_,rfl,HS.o p Zl A1 _ Z.o,ak.of (aC w _),Ò ..,Ù w _⟩
  clear Q Z;go_in;go_wp2_with fail;refine R.o.mono ?_;rintro r w'⟨rfl,rfl⟩;go_wp2_with fail;obtain⟨M,A9,Ab,z,A8,Aa⟩:=a.o;rw[A9];have Ai:=aa z;have Aj:=(show Hid (_=_)from Aa);clear z Aa a A9 R;refine Ab.mono ?_;clear Ab;intro r w2 hG;cases hG with
  | @bad u2 _ pr bt=>
   have HB:Hid (jv K ws pl b e op tx p w (Ä [cD (pl (ſ ws-ſ u2))]) w2):=.bad (.aB0 Am.o pr) (Ai.o.trans (bt.mono (by omega)));clear pr bt;go_wp2;exact⟨rfl,HB.o⟩
  | @ok m2 ns2 u2 A2 c2 _ hg=>
   have L:=il hg.pr;have hu:ws.drop (ſ ws-ſ u2)=u2:=mR L.1;have Ax:=hg.n;have U:=L.2 m2 ns2 u2 rfl;rw[dD]at Ax U;simp only[dO.eats]at U;have Br:=hg.bt.size;have N:w2.heap[w.heap.size]?=Å (Ê #[op,À tx,Ô Õ 0] 81 (0,0)):=(hg.bt.block _ (by omega) (by omega)).trans Aj.o;have d2:=po N;have f2:w2.frozen? (w.heap.size,2)=false:=Lib.frozen_of_heap N 2
   have Aq:Hid (wi K ws pl b e op tx p w (ſ ws-ſ u2) 1 ns2 (Á A2 (ſ ns2) c2) (w2.setCell (w.heap.size,2) (Ô Õ 1))):=by
    have ho:au (w.heap.size+1) (Á A2 (ſ ns2) c2) ns2 w2:=by rw[<-A8];exact hg.o
    refine⟨Nat.le_refl _,by omega,by omega,by omega,ho.kept λg h1 h2=>Í _ _ _ _ (by show g≠w.heap.size;omega),hg.rd.far (by omega) (by omega) (by omega),(Ai.o.trans (hg.bt.mono (by omega))).setCell (p:=(w.heap.size,2)) (.inr Zl) _,FC N,λr hr=>?_⟩;rw[hu]at hr;exact .aO0 Am.o hg.pr (by simpa using hr)
   clear hg hu Ax U L N;generalize Az:ſ ns2=nl at Aq;have Bb:Hid (ſ ns2=nl):=Az;clear Az;go_wp2_with fail
   go_loopw [7] (λx wr=>∃(q n:Nat)(A:List Td)(A':Option Addr)(W c':Nat),x=Á A' W c'/\(ſ A)=W/\wi K ws pl b e op tx p w q n A (Á A' W c') wr) (λ_ wr=>nU wr b)
   case atStart=>exact⟨_,1,ns2,A2,nl,c2,rfl,Bb.o,Aq.o⟩
   case round=>
    obtain⟨q,n,A,A3,H,c3,rfl,J,G⟩:=hrel;have I:=aa G;have X:Hid (ſ A=H):=J;have Bh:=G.rd.le;have hn:=G.nn;have Bp:=G.nq;have Ag:=G.bt.size;have Bi:b<wr.heap.size:=G.rd.row.lt;have Bn:w.heap.size<wr.heap.size:=(Array.getElem?_eq_some_iff.1 G.bx).1;rw[J]at hn;by_cases Q:ws[q]?=Å [44]
    .obtain⟨f,d⟩:=Æ.1 Q
     have m:Hid (ws.drop q=[44]::ws.drop (q+1)):=by
      show _=_;rw[Ç f,d]
     have R:Hid (Cp 147 #[Ã b,À ⟨#[44]⟩] wr λr a=>r=Â (Ö true)/\Ry K ws pl b (q+1) a/\ak wr b wr a):=mU G.rd [44] Q;clear G J Q d;go_wp2_with fail;refine R.o.mono ?_;rintro r w4⟨rfl,h4,b4⟩;have j:Hid (ak wr b wr w4):=b4;have Bs:=b4.size;have a:Hid (Cp 150 #[Ã b] w4 (λr a=>co K ws pl b (.level 0) (q+1) w4 r a)):=HS.o (q+1) (by have:=I.o.lt;omega) (by omega) _ h4;clear h4 b4 R;go_wp2_with fail;refine a.o.mono ?_;intro r D hG;cases hG with
     | @bad u5 _ pr bt=>
      have HB:Hid (jv K ws pl b e op tx p w (Ä [cD (pl (ſ ws-ſ u5))]) D):=by
       obtain⟨W,c⟩:∃W,n=W+1:=⟨n-1,by have:=I.o.n1;omega⟩;subst c;exact .bad (I.o.ok _ (by rw[m.o];exact .aB Ak.o pr)) ((I.o.bt.trans (j.o.mono Ag)).trans (bt.mono (by omega)))
      clear pr bt;go_wp2;exact⟨rfl,HB.o⟩
     | @ok m5 ns5 u5 A5 c5 _ hg=>
      have L:=il hg.pr;have hu:ws.drop (ſ ws-ſ u5)=u5:=mR L.1;have Ay:=hg.n;have Ae:=L.2 m5 ns5 u5 rfl;rw[dD]at Ay Ae;simp only[dO.eats]at Ae;have Be:=hg.bt.size;have An:Hid (au (w.heap.size+1) (Á A3 H c3) A D):=(I.o.o.but2 j.o (by omega)).but2 hg.bt (by omega);have Bd:Hid (aG D A5 ns5):=hg.o.tds;have Al:Hid (A5=Ï->ſ ns5=0/\c5=0):=hg.o.none.2;have y:Hid (D.heap[w.heap.size]?=Å (Ê #[op,À tx,(n:Int)] 81 (0,0))):=(hg.bt.block _ (by omega) (by omega)).trans ((j.o.block _ (by omega) (by omega)).trans I.o.bx);have l:Hid (ak w b w D):=(I.o.bt.trans (j.o.mono Ag)).trans (hg.bt.mono (by omega));have s:Hid (Ry K ws pl b (ſ ws-ſ u5) D):=hg.rd
      have Bc:Hid (∀r,PR (.args e (n+1) (A++ns5)) (ws.drop (ſ ws-ſ u5)) r->PR (.args e 0 []) (ws.drop p) r):=λr hr=>by
       obtain⟨W,c⟩:∃W,n=W+1:=⟨n-1,by have:=I.o.n1;omega⟩;subst c;rw[hu]at hr;exact I.o.ok _ (by rw[m.o];exact .aO Ak.o hg.pr hr)
      have Bq:q<ſ ws-ſ u5:=by omega
      clear hg hu L Ae;generalize Ac:ſ ns5=n5 at Ay Al;have Y:Hid (ſ ns5=n5):=Ac;have Ad:H+n5<=1000000:=by omega
      clear Ac a;go_wp2_with(at_builtin;refine jf rfl _ _ rfl (w.heap.size+1) _ A rfl An.o A5 n5 ns5 Y.o c5 rfl Bd.o Al.o (H+n5) (by rw[X.o]) Ad (by omega) ?_);intro A6 c6 w6 E C;have Bt:=C.size;have B:Below (w.heap.size+1) D w6:= Zb.grown C (by omega) (λk a=>(World.ownsRow.lt An.o k a).1);have P:w6.heap[w.heap.size]?=Å (Ê #[op,À tx,(n:Int)] 81 (0,0)):=(B.block _ (by omega)).trans y.o;have d6:=po P;have f6:w6.frozen? (w.heap.size,2)=false:=Lib.frozen_of_heap P 2
      have Ar:Hid (wi K ws pl b e op tx p w (ſ ws-ſ u5) (n+1) (A++ns5) (Á A6 (H+n5) c6) (w6.setCell ↑(w.heap.size,2) ↑((n:Int)+1))):=by
       have At:(A++ns5).length=H+n5:=by rw[È,X.o,Y.o]
       have h7:=I.o.lt;refine⟨by omega,by omega,by omega,by rw[At];omega,E.kept λg h1 h2=>Í _ _ _ _ (by show g≠w.heap.size;omega),(s.o.keepB B (by omega) (by omega) (by omega)).far (by omega) (by omega) (by omega),(l.o.trans (ak.of (B.mono (by omega)))).setCell (p:=(w.heap.size,2)) (.inr Zl) _,?_,Bc.o⟩;rw[show((n+1:Nat):Int)=(n:Int)+1 by omega];exact FC P
      have Ah:Hid ((A++ns5).length=H+n5):=(show _=_ by rw[È,X.o,Y.o]);have Bg:(n:Int)+1<=60001:=by omega
      clear E C B P y;go_wp2;refine⟨⟨_,n+1,A++ns5,A6,H+n5,c6,rfl,Ah.o,Ar.o⟩,?_⟩;rw[Ar.o.rd.len_eq,I.o.rd.len_eq];omega
    .have R:Hid (Cp 147 #[Ã b,À ⟨#[44]⟩] wr λr a=>r=Â (Ö false)/\a=wr):=lO G.rd [44] (by simp) Q;by_cases V:ws[q]?=Å e
     .obtain⟨f,d⟩:=Æ.1 V
      have m:Hid (ws.drop q=e::ws.drop (q+1)):=by
       show _=_;rw[Ç f,d]
      have HM:Hid (Cp 149 #[Ã b,À (ab e)] wr λr a=>r=Â (Ü #[])/\Ry K ws pl b (q+1) a/\ak wr b wr a):=oz G.rd e V;clear G J Q V d;go_wp2_with fail;refine R.o.mono ?_;rintro r w4⟨rfl,rfl⟩;go_wp2_with fail;refine HM.o.mono ?_;rintro r D⟨rfl,h5,b5⟩;have Be:=b5.size;have O:D.heap[w.heap.size]?=Å (Ê #[op,À tx,(n:Int)] 81 (0,0)):=(b5.block _ (by omega) (by omega)).trans I.o.bx;have d0:=gI O;have d1:=i7 O;have d2:=po O;have Af:au (w.heap.size+1) (Á A3 H c3) A D:=I.o.o.but2 b5 (by omega);have As:Hid (au w (Á D.heap.size 1 1) [⟨op,tx,(n:Int)⟩] (D.alloc (Ê #[op,À tx,(n:Int)] 81))):=(au.one D ⟨op,tx,(n:Int)⟩).down (by omega);have Ap:Hid (aG (D.alloc (Ê #[op,À tx,(n:Int)] 81)) A3 A):=Af.tds.alloc _;have Ba:Hid (A3=Ï->H=0/\c3=0):=Af.none.2;have Ao:Hid ((D.alloc (Ê #[op,À tx,(n:Int)] 81)).heap.size=D.heap.size+1):=Ò ..;have s:Hid (Ry K ws pl b (q+1) (D.alloc (Ê #[op,À tx,(n:Int)] 81))):=h5.keep (aC D _);have l:Hid (ak w b w (D.alloc (Ê #[op,À tx,(n:Int)] 81))):=(I.o.bt.trans (b5.mono Ag)).alloc (by omega) _;have Ad:1+H<=1000000:=by omega
      have Au:b<D.heap.size:=h5.row.lt;have Aw:=h5.gwlt;have Av:=h5.galt;clear h5 b5 O Af R HM;go_wp2_with(at_builtin;refine jf rfl _ _ rfl w.heap.size _ [⟨op,tx,(n:Int)⟩] rfl As.o A3 H A X.o c3 rfl Ap.o Ba.o (1+H) rfl Ad (by rw[Ao.o];omega) ?_);intro A6 c6 w6 E C
      have i:∀a,(Á D.heap.size 1 1).ownBlock=Å a->D.heap.size<=a:=λk' hk=>by
       simp only[Value.ownBlock,Option.some.injEq]at hk;omega
      have B:Below D (D.alloc (Ê #[op,À tx,(n:Int)] 81)) w6:= Zb.grown C (by rw[Ao.o];omega) i
      have HX:Hid (jv K ws pl b e op tx p w (Â (Á A6 (H+1) c6)) w6):=by
       have J:=X.o;subst J;have G:=I.o;have v:(ws.drop (q+1)).length=ſ ws-(q+1):=dD;have Bm:=G.lt;have Bo:=G.nn;refine jv.ok (n:=n) (ns:=A) (u:=ws.drop (q+1)) ⟨G.ok _ (by rw[m.o];exact .aEnd),?_,?_,?_,l.o.trans (ak.of (B.mono (by omega)))⟩
       .rw[show (ſ A)+1=1+ſ A by omega];exact E
       .rw[v,dD];omega
       .rw[v,show (ſ ws)-(ſ ws-(q+1))=q+1 by omega];exact s.o.keepB B Au Aw Av
      clear E C B i s l As Ap;rw[show 1+H=H+1 by omega];go_wp2;go_ret;exact HX.o
     .have HM:Hid (Cp 149 #[Ã b,À (ab e)] wr λr a=>r=Ä [cD (pl q)]/\a=wr):=mV G.rd e HE.o V
      have HX:Hid (jv K ws pl b e op tx p w (Ä [cD (pl q)]) wr):=by
       have v:(ws.drop q).length=ſ ws-q:=dD;obtain⟨W,c⟩:∃W,n=W+1:=⟨n-1,by have:=G.n1;omega⟩;subst c;have h9:=jv.bad (K:=K) (pl:=pl) (b:=b) (op:=op) (tx:=tx) (w:=w) (G.ok _ (.aSep (by rw[jP];exact V) (by rw[jP];exact Q))) G.bt;rw[v,show (ſ ws)-(ſ ws-q)=q by omega]at h9;exact h9
      clear G J Q V;go_wp2_with fail;refine R.o.mono ?_;rintro r w4⟨rfl,rfl⟩;go_wp2_with fail;refine HM.o.mono ?_;rintro r D⟨rfl,rfl⟩;go_wp2;exact⟨rfl,HX.o⟩
end
theorem zu:∀(w:Wd)(a:Nat),(∀b∈w,ay b=true)->Lib.decFrom a w=Å (w.foldl (λa c=>a*10+(c.toNat-48)) a)
 | [],a,_=>rfl
 | c::r,a,h=>by
  have A:=h c (by simp);simp only[ay,Bool.and_eq_true,decide_eq_true_eq]at A;have e:Lib.digitVal c=Å (c.toNat-48):=by rw[Lib.digitVal,if_pos A]
  rw[Lib.decFrom,e];exact zu r _ λb B=>h b (by simp[B])
theorem TJ{w}(h:∀b∈w,ay b=true)(E:w≠[]):Lib.atoi w=Å ((aY w:Nat):Int):=by
 cases w with
 | nil=>exact absurd rfl E
 | cons c r=>
  have A:=h c (by simp);simp only[ay,Bool.and_eq_true,decide_eq_true_eq]at A
  have B:(c==45)=false:=by
   rw[beq_eq_false_iff_ne];rintro rfl;revert A;decide
  have C:(c==43)=false:=by
   rw[beq_eq_false_iff_ne];rintro rfl;revert A;decide
  have D:Lib.decNat (c::r)=Å (aY (c::r)):=by
   rw[Lib.decNat];exact zu (c::r) 0 h
  simp only[Lib.atoi,B,C,D];rfl
theorem zg(w)(h:∀b∈w,ay b=true)(A:w≠[])(B:ſ w<=6)(W:Ë):Cb 61 #[À (ab w)] W (Ü #[((aY w:Nat):Int),.nilIface]):=by
 unfold Cb;refine(JU (ab w) ((aY w:Nat):Int) (by rw[<-aw];show (ſ w)<=18;omega) (TJ h A) W).mono ?_;rintro e C⟨rfl,t,rfl⟩;exact⟨rfl,Lib.bytesWorld_below _ _ _⟩
section
variable {K:ew} {ws:List Wd} {pl:Nat→Nat} {b p:Nat} {w:Ë}
theorem co.lev2{e A}(h:co K ws pl b .single p w e A):co K ws pl b (.level 2) p w e A:=by
 cases h with
 | ok h=>exact .ok ⟨.lev2 h.pr,h.o,h.n,h.rd,h.bt⟩
 | bad pr bt=>exact .bad (.lev2 pr) bt
theorem Hi{j q B}(D:q<=ſ ws)(pr:PR j (ws.drop p) (.bad (ws.drop q)))(C:ak w b w B):co K ws pl b j p w (Ä [cD (pl q)]) B:=by
 have A:=co.bad (K:=K) (pl:=pl) pr C;rw[dD,show (ſ ws)-(ſ ws-q)=q by omega]at A;exact A
theorem kH(h:p<ſ ws):ws.drop p=ws[p]::ws.drop (p+1):=Ç h
theorem OI(v:∀q,p<q->q<=ſ ws->kP K ws pl b q)(t:p<ſ ws)(s:bb ws[p]=true)(h:Ry K ws pl b p w):
  Ð prog 241 #[Ã b] w λe k=>co K ws pl b .single p w e k:=by
 have G:=aa (qa h t);have L:=aa (kH t);have g:=h.row.lt;by_cases I:ws[p+1]?=Å [40]
 .obtain⟨D,R⟩:=Æ.1 I
  have B:Hid (ws.drop (p+1)=[40]::ws.drop (p+2)):=by
   show _=_;rw[kH D,R]
  have X:Hid (∀W,Ry K ws pl b (p+2) W->ak w b w W->Cp 242 #[Ã b,.agg #[Ô Õ 3,À (ab ws[p]),Ô Õ 0],À ⟨#[41]⟩] W λr k=>co K ws pl b .single p w r k):=λW l j=>by
   refine(EE (e:=[41]) (op:=3) (tx:=ab ws[p]) (by simp) (by decide) (λq C P=>v q (by omega) P) l).mono ?_;intro r k Q;have U:=j.size;cases Q with
   | bad pr bt=>exact .bad (by rw[L.o,B.o];exact .sCB s pr) (j.trans (bt.mono U))
   | @ok n ns u A c _ hg=>
    have i:=hg.n;rw[dD]at i;refine co.ok (m:=0) (ns:=tW ws[p] n::ns) (u:=u) ⟨by rw[L.o,B.o];exact .sCO s hg.pr,hg.o.down U,?_,hg.rd,j.trans (hg.bt.mono U)⟩;rw[dD,É];omega
  generalize ab ws[p]=S at G X;go_in;go_wp2_with fail;refine G.o.mono ?_;rintro e Z⟨rfl,C,H⟩;have J:=aa H;have V:=H.size;have M:=aa (mU C [40] I);go_wp2_with fail;refine M.o.mono ?_;rintro e a⟨rfl,P,f⟩;have N:=aa (X.o a P (J.o.trans (f.mono V)));go_wp2_with fail;refine N.o.mono ?_;intro r d Q;cases Q with
  | @bad u _ pr bt=>
   have E:Hid (co K ws pl b .single p w (Ä [cD (pl (ſ ws-ſ u))]) d):=.bad pr bt;go_wp2;exact⟨rfl,E.o⟩
  | @ok m ns u A c _ hg=>
   have E:Hid (co K ws pl b .single p w (Â (Á A (ſ ns) c)) d):=.ok hg;generalize (ſ ns)=nl at E⊢;go_wp2;go_ret;exact E.o
 .have Y:Hid (∀W,Ry K ws pl b (p+1) W->ak w b w W->co K ws pl b .single p w (Â (Á W.heap.size 1 1)) (W.alloc (Ê #[Ô Õ 2,À (ab ws[p]),Ô Õ 0] 81))):=λW l j=>by
   refine co.ok (m:=0) (ns:=[lz ws[p]]) (u:=ws.drop (p+1)) ⟨by rw[L.o];exact .sName s (by rw[jP];exact I),(au.one W (lz ws[p])).down j.size,?_,?_,j.alloc j.size _⟩
   .rw[dD,dD];simp only[É,Ñ];omega
   .rw[dD,show (ſ ws)-(ſ ws-(p+1))=p+1 by omega];exact l.keep (aC W _)
  generalize ab ws[p]=S at G Y;go_in;go_wp2_with fail;refine G.o.mono ?_;rintro e Z⟨rfl,C,H⟩;have O:=aa (Y.o Z C H);have M:=aa (lO C [40] (by simp) I);go_wp2_with fail;refine M.o.mono ?_;rintro e a⟨rfl,rfl⟩;go_wp2;go_ret;exact O.o
end
section
variable {K:ew} {ws:List Wd} {pl:Nat→Nat} {b p:Nat} {w:Ë}
theorem ti{X}(h:Ry K ws pl b p w)(B:ws.getD p []=X)(C:X=[]\/dR X):
  (Ð prog 117 #[Ã b] w λe A=>e=Â (À (ab X))/\w=A)/\(Ð prog 240 #[À (ab X)] w λe A=>e=Â (Ö (dN X))/\w=A)/\(Ð prog 184 #[À (ab X)] w λe A=>e=Â (Ö (bb X))/\w=A):=by
 subst B;exact⟨(oB h).mono λ_ _ h=>⟨h.1,h.2.symm⟩,(OH _ w).mono λ_ _ h=>⟨h.1,h.2.symm⟩,(M7 _ C w).mono λ_ _ h=>⟨h.1,h.2.symm⟩⟩
theorem BT(ht:∀x∈ws,dR x)(hS:∀q,p<q->q<=ſ ws->kP K ws pl b q):nD K ws pl b p:=by
 intro w h;have l:=h.le;have Ao:=h.row.lt;show Ð prog 218 #[Ã b] w λe H=>co K ws pl b (.level 2) p w e H
 by_cases i:p<ſ ws
 .have L:=ht _ (List.getElem_mem i);have g:=iY i;obtain⟨a,N,O⟩:=ti h g (.inr L);have v:=aa (kH i);by_cases D:dN ws[p]=true
  .rw[D]at N;have B:=(show Hid (Ð _ _ _ _ _)from a);have C:=(show Hid (Ð _ _ _ _ _)from N);obtain⟨k,h6⟩:=LS L D;have HN:=aa (qa h i);have HA:Hid (∀W,Cp 61 #[À (ab ws[p])] W λe H=>e=Â (Ü #[((aY ws[p]:Nat):Int),.nilIface])/\Below W W H):=λW=>zg ws[p] k (yv L) h6 W
   have HX:Hid (∀W,Ry K ws pl b (p+1) W->ak w b w W->co K ws pl b (.level 2) p w (Â (Á W.heap.size 1 1)) (W.alloc (Ê #[Ô Õ 1,À ⟨#[]⟩,((aY ws[p]:Nat):Int)] 81))):=λW hW hB=>by
    refine co.ok (m:=0) (ns:=[nH ws[p]]) (u:=ws.drop (p+1)) ⟨by rw[v.o];exact .lev2 (.sNum D),(au.one W (nH ws[p])).down hB.size,?_,?_,hB.alloc hB.size _⟩
    .rw[dD,dD];simp only[É,Ñ];omega
    .rw[dD,show (ſ ws)-(ſ ws-(p+1))=p+1 by omega];exact hW.keep (aC W _)
   generalize ab ws[p]=S at B C HN HA
   generalize((aY ws[p]:Nat):Int)=V at HA HX
   clear a N O h hS ht L g D k h6;go_in;go_wp2_with fail;refine B.o.mono ?_;rintro e d⟨rfl,rfl⟩;go_wp2_with fail;refine C.o.mono ?_;rintro e R⟨rfl,rfl⟩;go_wp2_with fail;refine HN.o.mono ?_;rintro e t⟨rfl,h3,z⟩;have K3:=aa (And.intro h3 z);have Z:=z.size;clear h3 z;go_wp2_with fail;refine ai (HA.o _) λw4 b4=>?_
   have Am:=aa (HX.o w4 (K3.o.1.keep b4) (K3.o.2.trans (ak.of (b4.mono Z))));clear b4;go_wp2;go_ret;exact Am.o
  .have E:dN ws[p]=false:=by simpa using D
   rw[E]at N;have B:=(show Hid (Ð _ _ _ _ _)from a);have C:=(show Hid (Ð _ _ _ _ _)from N);by_cases M:bb ws[p]=true
   .rw[M]at O;have G:=(show Hid (Ð _ _ _ _ _)from O);have HN:=aa ((OI hS i M h).mono λ_ _ f=>f.lev2);generalize ab ws[p]=S at B C G;clear a N O h hS ht L g D E M;go_in;go_wp2_with fail;refine B.o.mono ?_;rintro e d⟨rfl,rfl⟩;go_wp2_with fail;refine C.o.mono ?_;rintro e R⟨rfl,rfl⟩;go_wp2_with fail;refine B.o.mono ?_;rintro e d⟨rfl,rfl⟩;go_wp2_with fail;refine G.o.mono ?_;rintro e R⟨rfl,rfl⟩;go_wp2_with fail;refine HN.o.mono ?_;intro r t f;cases f with
    | @bad u _ pr bt=>
     have U:Hid (co K ws pl b (.level 2) p w (Ä [cD (pl (ſ ws-ſ u))]) t):=.bad pr bt;clear pr bt;go_wp2;exact⟨rfl,U.o⟩
    | @ok m ns u A c _ hg=>
     have U:Hid (co K ws pl b (.level 2) p w (Â (Á A (ſ ns) c)) t):=.ok hg;clear hg;generalize (ſ ns)=nl at U⊢;go_wp2;go_ret;exact U.o
   .have J:bb ws[p]=false:=by simpa using M
    rw[J]at O;have G:=(show Hid (Ð _ _ _ _ _)from O);by_cases I:ws[p]=[91]
    .have hm:ws[p]?=Å [91]:=by rw[Ì i,I]
     have j:=aa (mU h [91] hm)
     have HK:Hid (∀W,Ry K ws pl b (p+1) W->ak w b w W->Cp 242 #[Ã b,.agg #[Ô Õ 4,À ⟨#[]⟩,Ô Õ 0],À ⟨#[93]⟩] W λr H=>co K ws pl b (.level 2) p w r H):=λW hW hB=>by
      refine(EE (e:=[93]) (op:=4) (tx:=⟨#[]⟩) (by simp) (by decide) (λq a b=>hS q (by omega) b) hW).mono ?_;intro r H f;have hs:=hB.size;cases f with
      | bad pr bt=>exact .bad (by rw[v.o,I];exact .lev2 (.sLB pr)) (hB.trans (bt.mono hs))
      | @ok n ns u A c _ hg=>
       have hl:=hg.n;rw[dD]at hl;refine co.ok (m:=0) (ns:=kD n::ns) (u:=u) ⟨by rw[v.o,I];exact .lev2 (.sLO hg.pr),hg.o.down hs,?_,hg.rd,hB.trans (hg.bt.mono hs)⟩;rw[dD,É];omega
     generalize ab ws[p]=S at B C G;clear a N O h hS ht L g D E M J hm I;go_in;go_wp2_with fail;refine B.o.mono ?_;rintro e d⟨rfl,rfl⟩;go_wp2_with fail;refine C.o.mono ?_;rintro e R⟨rfl,rfl⟩;go_wp2_with fail;refine B.o.mono ?_;rintro e d⟨rfl,rfl⟩;go_wp2_with fail;refine G.o.mono ?_;rintro e R⟨rfl,rfl⟩;go_wp2_with fail;refine j.o.mono ?_;rintro e R⟨rfl,h2,b2⟩;have Ak:=aa (HK.o R h2 b2);clear h2 b2 j HK;go_wp2_with fail;refine Ak.o.mono ?_;intro r t f;cases f with
     | @bad u _ pr bt=>
      have U:Hid (co K ws pl b (.level 2) p w (Ä [cD (pl (ſ ws-ſ u))]) t):=.bad pr bt;clear pr bt;go_wp2;exact⟨rfl,U.o⟩
     | @ok m ns u A c _ hg=>
      have U:Hid (co K ws pl b (.level 2) p w (Â (Á A (ſ ns) c)) t):=.ok hg;clear hg;generalize (ſ ns)=nl at U⊢;go_wp2;go_ret;exact U.o
    .have hm:ws[p]?≠Å [91]:=by rw[Ì i];simpa using I
     have j:Hid (Cp 147 #[Ã b,À ⟨#[91]⟩] w λe H=>e=Â (Ö false)/\w=H):=(lO h [91] (by simp) hm).mono λ_ _ h=>⟨h.1,h.2.symm⟩
     by_cases P:ws[p]=[40]
     .have Y:ws[p]?=Å [40]:=by rw[Ì i,P]
      have HM:=aa (oz h [40] Y)
      have y:Hid (ws.drop p=[40]::ws.drop (p+1)):=by
       show _=_;rw[v.o,P]
      have HS:=aa (hS (p+1) (by omega) (by omega));generalize ab ws[p]=S at B C G;clear a N O h hS ht L g D E M J hm I P Y v;go_in;go_wp2_with fail;refine B.o.mono ?_;rintro e d⟨rfl,rfl⟩;go_wp2_with fail;refine C.o.mono ?_;rintro e R⟨rfl,rfl⟩;go_wp2_with fail;refine B.o.mono ?_;rintro e d⟨rfl,rfl⟩;go_wp2_with fail;refine G.o.mono ?_;rintro e R⟨rfl,rfl⟩;go_wp2_with fail;refine an j.o ?_;go_wp2_with fail;refine HM.o.mono ?_;rintro e t⟨rfl,h3,z⟩;have Ad:=aa z;have Z:=z.size;have Al:=aa (HS.o t h3);clear h3 z HM j;go_wp2_with fail;refine Al.o.mono ?_;intro r w4 f;cases f with
      | @bad u _ pr bt=>
       have U:Hid (co K ws pl b (.level 2) p w (Ä [cD (pl (ſ ws-ſ u))]) w4):=.bad (by rw[y.o];exact .lev2 (.sPB pr)) (Ad.o.trans (bt.mono Z));clear pr bt;go_wp2;exact⟨rfl,U.o⟩
      | @ok m ns u A c _ hg=>
       have Ab:=il hg.pr;have hu:ws.drop (ſ ws-ſ u)=u:=mR Ab.1;have hl:=hg.n;rw[dD]at hl;have Ap:=hg.bt.size;have Ae:=Ad.o.trans (hg.bt.mono Z);by_cases Q:ws[ſ ws-ſ u]?=Å [41]
       .obtain⟨Ag,Af⟩:=Æ.1 Q
        have Ac:u=[41]::ws.drop (ſ ws-ſ u+1):=by
         have h9:=kH Ag;rw[hu,Af]at h9;exact h9
        have X:Hid (Cp 149 #[Ã b,À ⟨#[41]⟩] w4 λe H=>e=Â (Ü #[])/\co K ws pl b (.level 2) p w (Â (Á A (ſ ns) c)) H):=by
         refine(oz hg.rd [41] Q).mono ?_;rintro e w5⟨rfl,h5,b5⟩
         have Aq:ſ u=(ws.drop (ſ ws-ſ u+1)).length+1:=by
          have h9:=congrArg Ø Ac;rw[É]at h9;exact h9
         have Aj:=hg.pr;rw[Ac]at Aj;refine⟨rfl,co.ok (m:=0) (ns:=ns) (u:=ws.drop (ſ ws-ſ u+1)) ⟨by rw[y.o];exact .lev2 (.sPC Aj),(hg.o.but2 b5 (by omega)).down Z,?_,?_,Ae.trans (b5.mono (by omega))⟩⟩
         .rw[dD (p:=p)];omega
         .rw[show (ſ ws)-(ws.drop (ſ ws-ſ u+1)).length=ſ ws-ſ u+1 by omega];exact h5
        clear hg hu Ac Q Af Ab hl;generalize (ſ ns)=nl at X⊢;go_wp2_with fail;refine ai X.o λw5 h5=>?_
        have K5:=(show Hid (co _ _ _ _ _ _ _ _ _)from h5);clear h5;go_wp2;go_ret;exact K5.o
       .have X:Hid (Cp 149 #[Ã b,À ⟨#[41]⟩] w4 λe H=>e=Ä [cD (pl (ſ ws-ſ u))]/\co K ws pl b (.level 2) p w (Ä [cD (pl (ſ ws-ſ u))]) H):=by
         refine gv (mV hg.rd [41] (by simp) Q) ?_;refine⟨rfl,.bad ?_ Ae⟩;rw[y.o];refine .lev2 (.sPX hg.pr ?_);rw[<-hu,jP];exact Q
        clear hg hu Q Ab hl;generalize (ſ ns)=nl;generalize pl (ſ ws-ſ u)=pp at X;go_wp2_with fail;refine ai X.o λw5 h5=>?_
        have K5:=(show Hid (co _ _ _ _ _ _ _ _ _)from h5);clear h5;go_wp2;exact⟨rfl,K5.o⟩
     .have Y:ws[p]?≠Å [40]:=by rw[Ì i];simpa using P
      have HM:Hid (Cp 149 #[Ã b,À ⟨#[40]⟩] w λe H=>e=Ä [cD (pl p)]/\w=H):=(mV h [40] (by simp) Y).mono λ_ _ h=>⟨h.1,h.2.symm⟩
      have HX:Hid (co K ws pl b (.level 2) p w (Ä [cD (pl p)]) w):=Hi l (by rw[v.o];exact .lev2 (.sBad P I E J)) (ak.refl _ _ _);generalize ab ws[p]=S at B C G;clear a N O h hS ht L g D E M J hm I P Y v;go_in;go_wp2_with fail;refine B.o.mono ?_;rintro e d⟨rfl,rfl⟩;go_wp2_with fail;refine C.o.mono ?_;rintro e R⟨rfl,rfl⟩;go_wp2_with fail;refine B.o.mono ?_;rintro e d⟨rfl,rfl⟩;go_wp2_with fail;refine G.o.mono ?_;rintro e R⟨rfl,rfl⟩;go_wp2_with fail;refine an j.o ?_;go_wp2_with fail;refine an HM.o ?_;go_wp2;exact⟨rfl,HX.o⟩
 .have An:p=ſ ws:=by omega
  have g:=mN (ws:=ws) (q:=p) (by omega);obtain⟨a,N,O⟩:=ti h g (.inl rfl);have Ah:dN []=false:=rfl;have Ai:bb []=false:=by decide
  rw[Ah]at N;rw[Ai]at O;have B:=(show Hid (Ð _ _ _ _ _)from a);have C:=(show Hid (Ð _ _ _ _ _)from N);have G:=(show Hid (Ð _ _ _ _ _)from O);have Aa:∀s,ws[p]?≠Å s:=λs=>by rw[List.getElem?_eq_none (by omega)];simp
  have j:Hid (Cp 147 #[Ã b,À ⟨#[91]⟩] w λe H=>e=Â (Ö false)/\w=H):=(lO h [91] (by simp) (Aa _)).mono λ_ _ h=>⟨h.1,h.2.symm⟩
  have HM:Hid (Cp 149 #[Ã b,À ⟨#[40]⟩] w λe H=>e=Ä [cD (pl p)]/\w=H):=(mV h [40] (by simp) (Aa _)).mono λ_ _ h=>⟨h.1,h.2.symm⟩
  have HX:Hid (co K ws pl b (.level 2) p w (Ä [cD (pl p)]) w):=by
   refine Hi l ?_ (ak.refl _ _ _);rw[Î (by omega)];exact .lev2 .sinN
  generalize ab []=S at B C G;clear a N O h hS ht g Ah Ai Aa An;go_in;go_wp2_with fail;refine B.o.mono ?_;rintro e d⟨rfl,rfl⟩;go_wp2_with fail;refine C.o.mono ?_;rintro e R⟨rfl,rfl⟩;go_wp2_with fail;refine B.o.mono ?_;rintro e d⟨rfl,rfl⟩;go_wp2_with fail;refine G.o.mono ?_;rintro e R⟨rfl,rfl⟩;go_wp2_with fail;refine an j.o ?_;go_wp2_with fail;refine an HM.o ?_;go_wp2;exact⟨rfl,HX.o⟩
theorem TB(L:∀x∈ws,dR x):∀n p,p<=ſ ws->ſ ws-p<=n->nD K ws pl b p/\pj K ws pl b p/\kP K ws pl b p:=by
 intro n
 induction n with
 | zero=>
  intro p H G;have B:nD K ws pl b p:=BT L λq A I=>by omega
  have A:pj K ws pl b p:=EF λq A I=>by
   obtain rfl:q=p:=by omega
   exact B
  exact⟨B,A,Hj λq E M=>by
   obtain rfl:q=p:=by omega
   exact A⟩
 | succ n ih=>
  intro p H G;have B:nD K ws pl b p:=BT L λq A I=>(ih q I (by omega)).2.2
  have D:∀q,p<=q->q<=ſ ws->nD K ws pl b q:=λq A I=>by
   rcases Nat.eq_or_lt_of_le A with rfl|E
   .exact B
   .exact(ih q I (by omega)).1
  have A:=EF D
  have C:∀q,p<=q->q<=ſ ws->pj K ws pl b q:=λq J I=>by
   rcases Nat.eq_or_lt_of_le J with rfl|E
   .exact A
   .exact(ih q I (by omega)).2.1
  exact⟨B,A,Hj C⟩
theorem BF(B:∀x∈ws,dR x)(A:p<=ſ ws):kP K ws pl b p:=(TB B _ p A Zl).2.2
end
def fa(w:Ë)(b n:Nat):Prop:=∃cs T,w.heap[b]?=Å (Ê cs T (0,0))/\cs.size=n
theorem fa.lt{w b n}(h:fa w b n):b<w.heap.size:=by grind [fa]
theorem fa.cell{w b n i}(h:fa w b n)(hi:i<n):∃y,w.cell? (b,i)=Å y:=by
 obtain⟨A,T,h,B⟩:=h;refine⟨A[i],?_⟩;simp[Þ,h]
theorem fa.frozen{w}{b n i:Nat}(h:fa w b n):w.frozen? (b,i)=false:=by
 obtain⟨A,T,h,B⟩:=h;simp[World.frozen?,h]
theorem fa.kept{w w' b n}(h:fa w b n)(A:w'.heap[b]?=w.heap[b]?):fa w' b n:=by grind [fa]
theorem fa.set{w}{b n c i:Nat}{v}(h:fa w b n):fa (w.setCell (c,i) v) b n:=by
 by_cases e:c=b
 .subst e;obtain⟨A,T,h,B⟩:=h;exact⟨A.setIfInBounds i v,T,by simp[Ú,Array.getElem?_modify,h],by simpa using B⟩
 .exact h.kept (Í _ _ _ _ (Ne.symm e))
section
variable {be bf i:Nat} {e f:Ý} {w w':Ë}
theorem eL.block(h:eL be bf i e f w w')(k)(A:k≠be)(B:k≠bf):w'.heap[k]?=w.heap[k]?:=by
 rw[h.2.2.2,Í _ _ _ _ B,Í _ _ _ _ A]
theorem eL.cells(h:eL be bf i e f w w')(b o:Nat):w'.cell? (b,o)=((w.setCell (be,i) e).setCell (bf,i) f).cell? (b,o):=Ó (a:=(b,o)) (by rw[h.2.2.2])
theorem eL.other(h:eL be bf i e f w w')(b o)(A:be≠b\/i≠o)(B:bf≠b\/i≠o):w'.cell? (b,o)=w.cell? (b,o):=(h.cells b o).trans ((af B).trans (af A))
theorem eL.cellE(h:eL be bf i e f w w')(B:be≠bf){y}(A:w.cell? (be,i)=Å y):w'.cell? (be,i)=Å e:=(h.cells be i).trans ((af (by omega)).trans (cF A))
theorem eL.cellF(h:eL be bf i e f w w')(B:be≠bf){y}(A:w.cell? (bf,i)=Å y):w'.cell? (bf,i)=Å f:=(h.cells bf i).trans (cF ((af (by omega)).trans A))
theorem eL.size(h:eL be bf i e f w w'):w'.heap.size=w.heap.size:=by rw[h.2.2.2];simp[Ú]
theorem eL.W(h:eL be bf i e f w w'){B}(A:B<=be)(C:B<=bf):Below B w w':=
 ⟨h.1,h.2.1,h.2.2.1,Nat.le_of_eq h.size.symm,λk D=>h.block k (by omega) (by omega)⟩
theorem eL.row{b n}(h:eL be bf i e f w w')(A:fa w b n):fa w' b n:=by
 refine(fa.set (c:=bf) (i:=i) (v:=f) (fa.set (c:=be) (i:=i) (v:=e) A)).kept ?_;rw[h.2.2.2]
end
def hJ(w:Ë)(be bf:Nat)(ds:List Nd)(k:Nat):Prop:=
 ∀i(t:Tr)(r:List Nd),k<=i->t.Wf->ds.drop i=t.N++r->w.cell? ⟨be,i,Ï⟩=Å (Ô Õ ((i+ſ t.N:Nat):Int))/\w.cell? ⟨bf,i,Ï⟩=Å (Ö t.isFlat)
theorem hJ.kept{w w' G H I k}(h:hJ w G H I k)(J:w'.heap[G]?=w.heap[G]?)(K:w'.heap[H]?=w.heap[H]?):hJ w' G H I k:=by
 intro i t r D E C;obtain⟨A,B⟩:=h i t r D E C;exact⟨(Ó (w:=w) (a:=(G,i)) J).trans A,(Ó (w:=w) (a:=(H,i)) K).trans B⟩
theorem hJ.end{w G H E}:hJ w G H E (ſ E):=by
 intro i t r C D A;rw[Î C]at A
 have:=t.pos
 have B:=congrArg Ø A;rw[È,Ñ]at B;omega
theorem hJ.step{w P J K M i}{t:Tr}{r W X}(h:hJ w J K M (i+1))(V:t.Wf)(U:M.drop i=t.N++r)(O:J≠K)(R:w.cell? (J,i)=Å W)(S:w.cell? (K,i)=Å X)
  (L:eL J K i ((i+ſ t.N:Nat):Int) (Ö t.isFlat) w P):hJ P J K M i:=by
 intro j D C I B A;by_cases H:j=i
 .subst H;obtain⟨rfl,_⟩:=p5 t D r C V B (U.symm.trans A);exact⟨L.cellE O R,L.cellF O S⟩
 .obtain⟨E,G⟩:=h j D C (by omega) B A;exact⟨(L.other J j (by omega) (by omega)).trans E,(L.other K j (by omega) (by omega)).trans G⟩
theorem iD{B A:List Nd}{i x}(h:B.drop i=x::A):∃a:i<ſ B,B[i]=x/\B.drop (i+1)=A:=by grind [Nat.lt_or_ge,Î,Ç]
theorem uP{B A r:List Nd}{i}(h:B.drop i=A++r):B.drop (i+ſ A)=r:=by
 rw[<-List.drop_drop,h,Û]
theorem mY{C:List Nd}{i}{t:Tr}{r}(h:C.drop i=t.N++r):i<ſ C:=by
 rcases Nat.lt_or_ge i (ſ C) with A|A
 .exact A
 .have B:=congrArg Ø h
  have:=t.pos
  rw[Î A,È,Ñ]at B;omega
theorem R0(h f g s d i j a)(t:Tr)(r w)(u:t.Wf)(v:j.drop i=t.N++r)(q:ſ j<=400)(hN:cO s w a j)(k:h≠f)(l:h≠g)(m:f≠g)(n:s≠f)(p:s≠g)
  (c0:w.cell? h=Å (Á a (ſ j) d)) (c1:w.cell? (h,1)=Å (Á f (ſ j) (ſ j))) (c2:w.cell? (h,2)=Å (Á g (ſ j) (ſ j)))
  (y:fa w f (ſ j)) (z:fa w g (ſ j)) (hK:hJ w f g j (i+1)):
  Ð prog 278 #[Ã (Å ⟨h,0,Ï⟩),Ô Õ i] w λe a=>e=Â (Ü #[])/\eL f g i (Ô Õ ((i+ſ t.N:Nat):Int)) (Ö t.isFlat) w a:=by
 have U:=mY v;obtain⟨I,G⟩:=y.cell U;obtain⟨J,H⟩:=z.cell U;have K:w.frozen? ⟨f,i,Ï⟩=false:=y.frozen;have L:w.frozen? ⟨g,i,Ï⟩=false:=z.frozen;obtain⟨o,Z,B,_,_⟩:=hN i U;subst Z;have C:(i:Int)<ſ j:=by omega
 cases t with
 | leaf x=>
  obtain⟨_,R,_⟩:=iD (x:=x) (A:=r) v;have Q:((i+(Tr.leaf x).N.length:Nat):Int)=(i:Int)+1:=rfl;rw[Q];rw[R]at B;rcases iZ u.1 u.2 with e|e|e|e|e
  .have D:(Tr.leaf x).isFlat=true:=by simp[Tr.isFlat,Tr.flat,e]
   rw[D];rw[e]at B;exact sB 1 (.inl rfl) h f g s o _ d i w q C k l m n p c0 c1 c2 B I J G H K L
  .have D:(Tr.leaf x).isFlat=true:=by simp[Tr.isFlat,Tr.flat,e]
   rw[D];rw[e]at B;exact sB 2 (.inr (.inl rfl)) h f g s o _ d i w q C k l m n p c0 c1 c2 B I J G H K L
  .have D:(Tr.leaf x).isFlat=true:=by simp[Tr.isFlat,Tr.flat,e]
   rw[D];rw[e]at B;exact sB 3 (.inr (.inr (.inl rfl))) h f g s o _ d i w q C k l m n p c0 c1 c2 B I J G H K L
  .have D:(Tr.leaf x).isFlat=false:=by simp[Tr.isFlat,Tr.flat,e]
   rw[D];rw[e]at B;exact KK h f g s o _ d i w q C k l m n p c0 c1 c2 B I J G H K L
  .have D:(Tr.leaf x).isFlat=true:=by simp[Tr.isFlat,Tr.flat,e]
   rw[D];rw[e]at B;exact sB 5 (.inr (.inr (.inr rfl))) h f g s o _ d i w q C k l m n p c0 c1 c2 B I J G H K L
 | one x a'=>
  obtain⟨_,R,E⟩:=iD (x:=x) (A:=a'.N++r) v;have V:=mY E;obtain⟨P,O⟩:=hK (i+1) a' r Zl u.2.2 E;have Q:((i+(Tr.one x a').N.length:Nat):Int)=((i+1+ſ a'.N:Nat):Int):=by simp only[Tr.N,É];congr 1;omega
  have D:(Tr.one x a').isFlat=a'.isFlat:=rfl;rw[Q,D];rw[R]at B;rcases jD u.2.1 with e|e
  .rw[e]at B;exact zP 7 (.inl rfl) h f g s o _ d i _ _ w q C (by omega) k l m n p c0 c1 c2 B P O I J G H K L
  .rw[e]at B;exact zP 8 (.inr rfl) h f g s o _ d i _ _ w q C (by omega) k l m n p c0 c1 c2 B P O I J G H K L
 | two x a' b'=>
  obtain⟨_,R,S⟩:=iD (x:=x) (A:=a'.N++b'.N++r) v;have E:j.drop (i+1)=a'.N++(b'.N++r):=by rw[S,List.append_assoc]
  have M:=uP E;have V:=mY E;have b:=mY M;have c:=a'.pos;obtain⟨P,O⟩:=hK (i+1) a' _ Zl u.2.2.1 E;obtain⟨W,Y⟩:=hK _ b' r (by omega) u.2.2.2 M;have Q:((i+(Tr.two x a' b').N.length:Nat):Int)=((i+1+ſ a'.N+ſ b'.N:Nat):Int):=by simp only[Tr.N,É,È];congr 1;omega
  rw[Q];rw[R]at B;rcases jj u.2.1 with e|e
  .have D:(Tr.two x a' b').isFlat=(a'.isFlat&&b'.isFlat):=(R8 e).2;rw[D];rw[e]at B;cases X:a'.isFlat with
   | true=>
    rw[X]at O;exact UG h f g s o _ d i _ _ _ w q C (by omega) (by omega) (by omega) k l m n p c0 c1 c2 B P W O Y I J G H K L
   | false=>
    rw[X]at O;exact UF h f g s o _ d i _ _ _ w q C (by omega) (by omega) (by omega) k l m n p c0 c1 c2 B P W O Y I J G H K L
  .have D:(Tr.two x a' b').isFlat=a'.isFlat:=by simp[Tr.isFlat,Tr.flat,e]
   rw[D];rw[e]at B;exact KL h f g s o _ d i _ _ _ w q C (by omega) (by omega) (by omega) k l m n p c0 c1 c2 B P W O I J G H K L
theorem vM:(prog.info? 3).map (λi=>(i.zero,i.size,i.bytes))=Å (Å (Ô Õ 0),1,8):=by kernel_rfl
theorem TO:(prog.info? 4).map (λi=>(i.zero,i.size,i.bytes))=Å (Å (Ö false),1,1):=by kernel_rfl
structure kq(w0:Ë)(s bp be bf:Nat)(a:Option Addr)(cap:Nat)(ds:List Nd)(w:Ë):Prop where
 b1:w0.heap.size<=bp
 b2:w0.heap.size+1<=be
 b3:w0.heap.size+1<=bf
 n1:bp≠be
 n2:bp≠bf
 n3:be≠bf
 c0:w.cell? ⟨bp,0,Ï⟩=Å (Á a (ſ ds) cap)
 c1:w.cell? ⟨bp,1,Ï⟩=Å (Á (Å ⟨be,0,Ï⟩) (ſ ds) (ſ ds))
 c2:w.cell? ⟨bp,2,Ï⟩=Å (Á (Å ⟨bf,0,Ï⟩) (ſ ds) (ſ ds))
 re:fa w be (ſ ds)
 rf:fa w bf (ſ ds)
 rb:w.heap[w0.heap.size]?=Å (Ê #[Á Ï 0 0,Á Ï 0 0,Á Ï 0 0] 334 (0,0))
 bw:Below w0 w0 w
 nd:cO s w a ds
theorem kq.put{G w I:Ë}{s B D E C i:Nat}{a:Option Addr}{H:List Nd}{e f:Ý}(h:kq G s B D E a C H w)(J:s<G.heap.size)(A:eL D E i e f w I):kq G s B D E a C H I where
 b1:=h.b1
 b2:=h.b2
 b3:=h.b3
 n1:=h.n1
 n2:=h.n2
 n3:=h.n3
 c0:=(A.other B 0 (.inl h.n1.symm) (.inl h.n2.symm)).trans h.c0
 c1:=(A.other B 1 (.inl h.n1.symm) (.inl h.n2.symm)).trans h.c1
 c2:=(A.other B 2 (.inl h.n1.symm) (.inl h.n2.symm)).trans h.c2
 re:=A.row h.re
 rf:=A.row h.rf
 rb:=(A.block _ (by have:=h.b2;omega) (by have:=h.b3;omega)).trans h.rb
 bw:=h.bw.trans (A.W (by have:=h.b2;omega) (by have:=h.b3;omega))
 nd:=h.nd.kept (A.block s (by have:=h.b2;omega) (by have:=h.b3;omega))
