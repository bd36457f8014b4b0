import Derived.Test.YtelcnplcpboonaaGreatDoorPe16
import Derived.Lib.AppendZerosOnto
import Derived.Lib.SliceRun
import Derived.Test.YtelcnplcpboonaaGreatDoorPe10
import Derived.Test.YtelcnplcpboonaaGreatDoorPe09
import Derived.Deep.RegionLaw
import Derived.Test.YtelcnplcpboonaaGreatDoorPe11
open Go.Proofs.Tryz
open List renaming length->ſ
open Go.Value renaming slice->À,string->Å,agg->Ï,int->Ò,tuple->Ø,bool->à,ownBlock->á
open List renaming length_append->Á,length_singleton->Ã,getElem_append_right->É,getElem_append_left->Ë,getElem_cons_zero->Í,eq_nil_of_length_eq_zero->Î,getElem?_append_right->Ñ,getElem?_append_left->Ó,length_cons->Õ,take_of_length_le->Ö,flatten_append->Ù
open Option renaming some->Â,none->Ê
open Go.Value.slice renaming injEq->Ä
open Go renaming World->Æ,info_parts->Ú,grownCap->ß,yielded->â,Value->ã,maxLen->ä
open Go.Obj renaming cells->Ç
open Array renaming getElem?_eq_some_iff->È
open Nat renaming zero_le->Ì,zero_add->Û,sub_self->Ü,le_refl->Ý,mul_one->Þ
open Go.IntKind renaming i64->Ð
open Option.some renaming injEq->Ô
namespace Go.Proofs.YtelcnplcpboonaaGreatDoor
open Go Go.RowKit
set_option maxRecDepth 100000
set_option maxHeartbeats 4000000
theorem TA(n:Nat)(O:0<n)(P:n<=1000000)(w:Æ):
  Calls prog 239 #[À Ê 0 0,(n:Int)] w λe N=>∃c,e=.returned (À w.heap.size 0 c)/\au w (À w.heap.size 0 c) [] N/\Below w w N:=by
 obtain⟨I,K,H,L,D⟩:=Ú xa
 have A:∀M,(Builtin.append_ #[82,3] M #[À Ê 0 0,(n:Int)]).run prog w=
   .ok (À w.heap.size n (ß w n 0 81)) (w.drew.alloc (Ç (#[]++Builtin.zeroCells (Ï #[Ò Ð 0,Å ⟨#[]⟩,Ò Ð 0]).cells n++Builtin.zeroCells (Ï #[Ò Ð 0,Å ⟨#[]⟩,Ò Ð 0]).cells (ß w n 0 81-n)) 81)):=λM=>by
  have C:(Builtin.firstCells I.size 0 (À Ê 0 0)).run prog w.drew=.ok ([]:List ã).toArray w.drew:=run_firstCells_none w.drew I.size 0 0 0;have h:=Lib.run_append_grow_zeros w 82 3 M 81 I _ Ð Ð Tryz.underlying82 Tryz.underlying3 K H Ê 0 0 [] C n O (by omega) (by omega) (by omega) (by rw[D];omega) (growslice_fits (by omega) (by rw[D];omega));simp only[Û]at h;exact h
 have E:n<=ß w n 0 81:=grownCap_ge w _ _ _;have B:=grownCap_le_maxLen w n 0 81 (by unfold ä;omega);generalize ß w n 0 81=G at A E B
 have J:Hid (au w (À w.heap.size 0 G) [] (w.drew.alloc (Ç (#[]++Builtin.zeroCells (Ï #[Ò Ð 0,Å ⟨#[]⟩,Ò Ð 0]).cells n++Builtin.zeroCells (Ï #[Ò Ð 0,Å ⟨#[]⟩,Ò Ð 0]).cells (G-n)) 81))):=by
  refine⟨rfl,.inr ⟨w.heap.size,G,_,rfl,Ý _,heap_alloc_new w.drew _,Ì _,B,?_,rfl⟩⟩;simp only[Array.size_append,size_zeroCells,Array.size_empty];show 0+n*3+(G-n)*3=G*3;omega
 generalize(#[]++Builtin.zeroCells (Ï #[Ò Ð 0,Å ⟨#[]⟩,Ò Ð 0]).cells n++Builtin.zeroCells (Ï #[Ò Ð 0,Å ⟨#[]⟩,Ò Ð 0]).cells (G-n))=Z at A J
 go_in;go_wp2_with(at_builtin;refine Lib.wpList_append_run _ rfl _ _ _ _ rfl _ _ rfl rfl _ _ (A _) ?_);go_ret;exact⟨G,rfl,J.o,Below.drew (Zb.alloc Zl _)⟩
def pf(w:Æ)(a:Option Addr)(ps:List (List Td)):Prop:=
 ∀i(h:i<ſ ps),∃b o c d,a=Â ⟨b,o,Ê⟩/\b<w.heap.size/\w.cell? ⟨b,o+i,Ê⟩=Â (À c ps[i].length d)/\ps[i].length<=d/\aG w c ps[i]/\(c=Ê->ps[i].length=0/\d=0)
theorem pf.W{w w' a ps}(h:pf w a ps)(J:Below w w w'):pf w' a ps:=by
 intro i I;obtain⟨b,o,B,C,e,A,D,E,G,H⟩:=h i I;exact⟨b,o,B,C,e,Nat.lt_of_lt_of_le A J.size,(J.cell (p:=⟨b,_,Ê⟩) A).trans D,E,G.W J,H⟩
theorem CI{ps:List (List Td)}{i}(h:i<ſ ps):(ps.take (i+1)).flatten=(ps.take i).flatten++ps[i]:=by
 rw[List.take_succ_eq_append_getElem h,Ù];simp
theorem uS(ps:List (List Td))(i):(ps.take i).flatten.length<=ſ ps.flatten:=by grind [Ù,List.take_append_drop,Á]
structure we(w:Æ)(ps:List (List Td))(i:Nat)(v:ã)(wr:Æ):Prop where
 le:i<=ſ ps
 o:au w v (ps.take i).flatten wr
 b:Below w w wr
theorem M6(ps a c)(w:Æ)(hP:pf w a ps)(h0:0<ſ ps.flatten)(hl:ſ ps.flatten<=900000)(hp:ſ ps<=10):
  Calls prog 217 #[À a (ſ ps) c] w λe a=>∃A b,e=.returned (À A (ſ ps.flatten) b)/\au w (À A (ſ ps.flatten) b) ps.flatten a/\Below w w a:=by
 have t:=aa hP;have q:=aa (TA (ſ ps.flatten) h0 (by omega) w);generalize hN:ſ ps.flatten=N at q h0 hl⊢;have P:=aa hN;go_in;go_wp2_with fail
 go_loopw [3,11] (λs x wr=>w=wr/\∃i:Nat,i<=ſ ps/\x=(i:Int)/\s=((ps.take i).flatten.length:Int)) (λ_ x _=>ſ ps-(intOf x).toNat)
 case atStart=>exact⟨rfl,0,Ì _,rfl,rfl⟩
 case round=>
  obtain⟨rfl,i,hi,rfl,rfl⟩:=hrel;by_cases B:i<ſ ps
  .have K:(i:Int)<(ſ ps:Int):=by omega
   obtain⟨b0,o0,l,y,rfl,j,h,_,_,_⟩:=t.o i B;have D:=congrArg List.length (CI B);rw[Á]at D;have G:=uS ps (i+1);rw[P.o]at G;have M:=(show Hid (_=_)from D);have V:(ps.take i).flatten.length+ps[i].length<=900000:=by omega
   generalize ps[i].length=pn at M h V
   generalize(ps.take i).flatten.length=sn at M V⊢
   go_wp2;refine⟨⟨trivial,i+1,B,by go_num,?_⟩,?_⟩
   .rw[M.o];go_num
   .simp[intOf];omega
  .have K:¬(i:Int)<(ſ ps:Int):=by omega
   have J:(ps.take i).flatten.length=N:=by rw[Ö (by omega)];exact P.o
   rw[J];go_wp2_with fail;refine q.o.mono ?_;rintro e w1⟨c1,rfl,S,u⟩;have d:Hid (we w ps 0 (À w.heap.size 0 c1) w1):=⟨Ì _,S,u⟩;clear S u;go_wp2_with fail
   go_loopw [6,27] (λv x a=>∃(i:Nat)(A:Option Addr)(n c:Nat),x=(i:Int)/\v=À A n c/\n=(ps.take i).flatten.length/\we w ps i (À A n c) a) (λ_ x _=>ſ ps-(intOf x).toNat)
   case atStart=>exact⟨0,_,_,_,rfl,rfl,rfl,d.o⟩
   case round=>
    obtain⟨i,A,n,c2,rfl,rfl,L,O⟩:=hrel;have G:=uS ps i;rw[P.o,<-L]at G;by_cases B:i<ſ ps
    .have K:(i:Int)<(ſ ps:Int):=by omega
     obtain⟨b0,o0,l,y,rfl,j,h,_,hT,I⟩:=t.o.W O.b i B;have D:=CI B;have H:=uS ps (i+1);rw[D,Á,P.o,<-L]at H;have M:=(show Hid (_=_)from D);have Y:=aa O.o;have Z:=aa O.b;have X:=O.b.size;have HT:=aa hT;have Q:=aa I;have r:=aa L.symm;have f:Hid (∃m,ps[i].length=m):=⟨_,rfl⟩;generalize U:ps[i].length=pn at h H Q;have R:=aa U;clear D hT I L O U f G;go_wp2_with(at_builtin;refine jf rfl _ _ rfl w.heap.size _ (ps.take i).flatten rfl Y.o l pn ps[i] R.o y rfl HT.o Q.o (n+pn) (by rw[r.o]) (by omega) X ?_);intro p z w3 E C
     have g:Hid (we w ps (i+1) (À p (n+pn) z) w3):=by
      refine⟨B,?_,Z.o.grown C X (λk a=>(World.ownsRow.lt Y.o k a).1)⟩;rw[M.o];exact E
     clear E C;go_wp2;refine⟨⟨i+1,p,n+pn,z,by go_num,rfl,?_,g.o⟩,?_⟩
     .rw[M.o,Á,r.o,R.o]
     .simp[intOf];omega
    .have K:¬(i:Int)<(ſ ps:Int):=by omega
     have J:ps.take i=ps:=Ö (by omega);obtain⟨_,ho,hb⟩:=O;rw[J]at ho L;rw[P.o]at L;subst L;have Y:=aa ho;have Z:=aa hb;go_wp2;go_ret;exact⟨A,c2,rfl,Y.o,Z.o⟩
theorem KL(K I J s o n M i j:Nat)(U:Int)(S:Bool)(w:Æ)(V:n<=400)(hi:(i:Int)<n)(A:(i:Int)+1<n)(g:(j:Int)<n)(B:i+1<j)(a:K≠I)(b:K≠J)(c:I≠J)(d:s≠I)(f:s≠J)
  (c0:w.cell? K=Â (À (Â ↑(s,o)) n M)) (c1:w.cell? (K,1)=Â (À I n n)) (c2:w.cell? (K,2)=Â (À J n n))
  (N:w.cell? (s,o+i*3)=Â (Ò Ð 9))
  (O:w.cell? (I,i+1)=Â ↑(j:Int))
  (P:w.cell? (I,j)=Â ↑U)
  (R:w.cell? (J,i+1)=Â (à S))
  (W X:ã) (Y:w.cell? (I,i)=Â W) (Z:w.cell? (J,i)=Â X) (h:w.frozen? (I,i)=false) (k:w.frozen? (J,i)=false):
  Calls prog 278 #[.pointer K,i] w λe L=>e=.returned (Ø #[])/\eL I J i U (à S) w L:=by
 have H:=nX V hi;have D:(0:Int)<=(i:Int)+1:=by omega
 have C:(0:Int)<=(i:Int):=by omega
 have G:((i:Int)+1).toNat=i+1:=by omega
 have E:(0:Int)<=(j:Int):=by omega
 go_in;go_wp2_with fail
 go_region_held3 (λL=>L.cell? K=Â (À (Â ↑(s,o)) n M)/\L.cell? (K,1)=Â (À I n n)/\L.cell? (K,2)=Â (À J n n)/\L.cell? (s,o+i*3)=Â (Ò Ð 9)/\L.cell? (I,i+1)=Â ↑(j:Int)/\L.cell? (I,j)=Â ↑U/\L.cell? (J,i+1)=Â (à S))
  (first|exact⟨c0,c1,c2,N,O,P,R⟩|exact⟨(af (by omega)).trans c0,(af (by omega)).trans c1,(af (by omega)).trans c2,(af (by omega)).trans N,(af (by omega)).trans O,(af (by omega)).trans P,(af (by omega)).trans R⟩|exact⟨(af (by omega)).trans ((af (by omega)).trans c0),(af (by omega)).trans ((af (by omega)).trans c1),(af (by omega)).trans ((af (by omega)).trans c2),(af (by omega)).trans ((af (by omega)).trans N),(af (by omega)).trans ((af (by omega)).trans O),(af (by omega)).trans ((af (by omega)).trans P),(af (by omega)).trans ((af (by omega)).trans R)⟩) (fail)
 all_goals
  go_wp2
  go_end0
  exact⟨rfl,rfl,rfl,rfl,rfl⟩
def dZ(t:List Td):Int:=if ag t≠0 then ag t else if aR t=9 then 2 else if 400<(aN t).N.length then 3 else 0
def dt(t:List Td):List Nd:=if dZ t=0 then(aN t).N else []
def iR(t:List Td):Int:=if ag t≠0 then ag t else if aR t=9 then 0 else 2
def bg(t:List Td):ByteArray:=match t with
 | []=>⟨#[]⟩
 | x::_=>x.tx
def iS(t:List Td):List ByteArray:=if iR t=0 then(ar (ae (bg t))).map ab else []
def m9(t:List Td)(e:Ending)(w':Æ):Prop:=∃A c,e=.returned (Ø #[À A (dt t).length c,aF (dZ t)])/\aS w' A (dt t)/\(dt t).length<=c
def rM(t:List Td)(e:Ending)(w':Æ):Prop:=∃A c,e=.returned (Ø #[À A (iS t).length c,aF (iR t)])/\bN w' A (iS t)/\(iS t).length<=c
theorem F7{t}(h:ag t≠0):dZ t=ag t/\dt t=[]/\iR t=ag t/\iS t=[]:=by grind [dZ,ag,iR,dt,iS]
theorem uV{t}(h:ag t=0)(C:aR t=9):dZ t=2/\dt t=[]/\iR t=0/\iS t=(ar (ae (bg t))).map ab:=by
 have A:dZ t=2:=by rw[dZ,if_neg (by simp[h]),if_pos C]
 have B:iR t=0:=by rw[iR,if_neg (by simp[h]),if_pos C]
 exact⟨A,by rw[dt,if_neg (by rw[A];decide)],B,by rw[iS,if_pos B]⟩
theorem UD{t}(h:ag t=0)(A:aR t≠9)(B:400<(aN t).N.length):dZ t=3/\dt t=[]/\iR t=2/\iS t=[]:=by grind [dZ,iR,dt,iS,ag,aR,aN]
theorem KH{t}(h:ag t=0)(A:aR t≠9)(B:¬400<(aN t).N.length):dZ t=0/\dt t=(aN t).N/\iR t=2/\iS t=[]:=by grind [dZ,iR,dt,iS,ag,aR,aN]
theorem wQ{t}(h:dZ t=0):ag t=0/\aR t≠9/\dt t=(aN t).N/\(aN t).N.length<=400:=by grind [dZ,dt,ag,aR,aN]
theorem UE{t}(h:dZ t=0)(ws):gn (dt t) ws=(aN t).show ws:=by
 obtain⟨B,C,A,D⟩:=wQ h;exact xI (o4 B C).w A (by rw[A];exact D)
theorem yw:(prog.info? 82).map (λi=>(i.zero,i.size,i.bytes))=Â (Â (À Ê 0 0),1,24):=by kernel_rfl
def bR(B:Nat)(v:ã)(ps:List (List Td))(w:Æ):Prop:=
 ∃a:List ã,w.ownsRow B 82 1 v (ſ ps) a/\∀i(h:i<ſ ps),∃g c,a[i]?=Â (À (Â ⟨g,0,Ê⟩) ps[i].length c)/\au B (À (Â ⟨g,0,Ê⟩) ps[i].length c) ps[i] w
theorem bR.nil(B w):bR B (À Ê 0 0) [] w:=⟨[],⟨rfl,.inl ⟨rfl,rfl⟩⟩,λi h=>by simp at h⟩
theorem sF{B w}{g n c:Nat}{J}(h:au B (À g n c) J w):B<=g/\n<=c/\∃I,w.heap[g]?=Â (Ç I 81 (0,0)):=by
 rcases h.2 with⟨A,_⟩|⟨H,G,I,A,C,E,D,_⟩
 .cases A
 .simp only[Ä,Ô,Addr.mk.injEq,and_true]at A;obtain⟨rfl,rfl,rfl⟩:=A;exact⟨C,D,I,E⟩
theorem vu{B w J}{g n c:Nat}{K}(h:au B (À g n c) K w)(L:J.heap[g]?=w.heap[g]?):au B (À g n c) K J:=by
 refine⟨h.1,?_⟩;rcases h.2 with⟨C,_⟩|⟨I,E,D,C,G,H,A⟩
 .cases C
 .have e:=C;simp only[Ä,Ô,Addr.mk.injEq,and_true]at e;obtain⟨rfl,_,_⟩:=e;exact .inr ⟨g,E,D,C,G,L.trans H,A⟩
theorem bR.kept{B v ps w w'}(h:bR B v ps w)(N:∀g,B<=g->g<w.heap.size->w'.heap[g]?=w.heap[g]?):bR B v ps w':=by
 obtain⟨L,D,K⟩:=h;refine⟨L,⟨D.1,?_⟩,λi hi=>?_⟩
 .rcases D.2 with J|⟨g,c,C,M,E,G,A⟩
  .exact .inl J
  .exact .inr ⟨g,c,C,M,E,(N g E (È.1 G).1).trans G,A⟩
 .obtain⟨g,c,H,I⟩:=K i hi;exact⟨g,c,H,I.kept N⟩
theorem bR.but{B b v ps}{w:Æ}{A}(h:bR B v ps w)(D:ak w b w A)(G:b<B):bR B v ps A:=h.kept λg E C=>D.block g C (by omega)
theorem bR.cell{B A n c ps w}(h:bR B (À A n c) ps w):n=ſ ps/\n<=c/\(A=Ê->n=0/\c=0)/\∀i(h:i<ſ ps),∃R g S,A=Â ⟨R,0,Ê⟩/\B<=R/\fV w R c/\w.cell? ⟨R,i,Ê⟩=Â (À (Â ⟨g,0,Ê⟩) ps[i].length S)/\au B (À (Â ⟨g,0,Ê⟩) ps[i].length S) ps[i] w:=by
 obtain⟨Q,L,M⟩:=h;rcases L.2 with⟨D,K⟩|⟨R,P,E,D,N,I,G,_,O,C⟩
 .simp only[Ä]at D;obtain⟨rfl,rfl,rfl⟩:=D;exact⟨K.symm,Ý _,λ_=>⟨rfl,rfl⟩,λi a=>by omega⟩
 .simp only[Ä]at D;obtain⟨rfl,rfl,rfl⟩:=D;refine⟨rfl,G,(λe=>by cases e),λi hi=>?_⟩;obtain⟨g,S,H,J⟩:=M i hi;refine⟨R,g,S,rfl,N,⟨E,_,I,by omega⟩,?_,J⟩;rw[<-C,List.getElem?_take_of_lt (by omega)]at H;simp only[World.cell?,I];simpa using H
theorem bR.prg{B A n c ps w}(h:bR B (À A n c) ps w):bP w A ps:=by
 intro i H;obtain⟨E,g,D,e,_,I,G,C⟩:=h.cell.2.2.2 i H;exact⟨E,0,_,D,e,I.lt,by rw[Û];exact G,(sF C).2.1,C.tds⟩
theorem vg{B}{w:Æ}{v n E}(h:w.ownsRow B 82 1 v n E){k}(D:v.ownBlock=Â k):∃C,w.heap[k]?=Â (Ç C 82 (0,0)):=by
 rcases h.2 with⟨rfl,_⟩|⟨g,c,C,rfl,_,A,_⟩
 .cases D
 .have:g=k:=by simpa[á]using D
  subst this;exact⟨C,A⟩
theorem rO{w L rest o a}{Q:Exit->Act->Æ->Prop}(P:o.guard=Ê)(s x)
  (ho:o.op=.call {callee:=.builtin .append,args:=#[s,x],argTypes:=#[28,28]})
  (B v ps) (hs:a.eval s=v) (J:bR B v ps w)
  (b0 g n c:Nat) (t) (hn:ſ t=n) (hx:a.eval x=À b0 1 1) (hc:w.cell? b0=Â (À g n c)) (hT:au B (À g n c) t w)
  (m) (hm:ſ ps+1=m) (hb:m<=1000000) (E:B<=w.heap.size)
  (h:∀A b c,bR B (À A m b) (ps++[t]) c->w.grownBy c v.ownBlock->wpList prog L Q rest (a.put o.dst (À A m b)) c):wpList prog L Q (o::rest) a w:=by
 subst hn hm;obtain⟨z,R,V,W,X⟩:=Ú yw;obtain⟨K,O,y⟩:=J;refine wpList_append_own w P s x 28 ho B 82 z _ 1 24 Tryz.underlying28 R V W X rfl (by decide) v (ſ ps) K hs O b0 1 1 [À g (ſ t) c] hx rfl ?_ (by intro u l;simp at l;subst l;rfl) (by unfold ä;omega) (by omega) E ?_
 .intro j u U;cases j with
  | zero=>
   simp at U;subst U;rw[qo];exact hc
  | succ j=>simp at U
 .intro v' w' d f _
  have C:∀{D Y c':Nat}{Z:List Td},au B (À D Y c') Z w->au B (À D Y c') Z w':=by
   intro D Y c' Z G;obtain⟨_,_,N,H⟩:=sF G;refine vu G (f.block D (È.1 H).1 λe=>?_);obtain⟨b,I⟩:=vg O e.symm;rw[H]at I;simp at I
  obtain⟨A,c',rfl⟩:∃A a,v'=À A (ſ ps+1) a:=by
   rcases d.2 with⟨p,h0⟩|⟨D,c',N,p,_⟩
   .omega
   .exact⟨_,c',p⟩
  refine h A c' w' ⟨K++[À g (ſ t) c],?_,λi R=>?_⟩ f
  .rw[Á];exact d
  .have k:=O.1;rw[Þ]at k;by_cases e:i<ſ ps
   .obtain⟨D,M,q,r⟩:=y i e;rw[Ë e];refine⟨D,M,?_,C r⟩;rw[Ó (by omega)];exact q
   .have S:i=ſ ps:=by simp at R;omega
    subst S;rw[É Zl];refine⟨g,c,?_,?_⟩
    .rw[Ñ (by omega),k];simp
    .simp only[Ü,Í];exact C hT
theorem bR.last{B}{m n c:Nat}{ps l t w}(h:bR B (À m n c) (ps++[l]) w){g f:Nat}(o:au B (À g (ſ t) f) t w):bR B (À m n c) (ps++[t]) (w.setCell (m,ſ ps) (À g (ſ t) f)):=by
 obtain⟨b,N,Y⟩:=h;have X:=N.1;rw[Þ,Á,Ã]at X
 have R:∀{D G f:Nat}{H:List Td},au B (À D G f) H w->D≠m:=by
  intro D G f H E e;obtain⟨_,_,I,K⟩:=sF E;obtain⟨V,O⟩:=vg N (k:=m) rfl;rw[e,O]at K;simp at K
 have A:∀{D G f:Nat}{H:List Td}(u:ã)(j:Nat),au B (À D G f) H w->au B (À D G f) H (w.setCell (m,j) u):=by
  intro D G f H u j E;exact vu E (Below.heap_setCell _ _ _ _ (R E))
 refine⟨b.set (ſ ps) (À g (ſ t) f),⟨by simp[X],?_⟩,λi hi=>?_⟩
 .rcases N.2 with⟨U,_⟩|⟨D,d,I,U,Z,a,L,Q,S,C⟩
  .cases U
  .have e:=U;simp only[Ä,Ô,Addr.mk.injEq,and_true]at e;obtain⟨rfl,J,rfl⟩:=e;rw[Á,Ã]at J L C;refine .inr ⟨m,c,I.setIfInBounds (ſ ps) (À g (ſ t) f),?_,Z,?_,?_,Q,by simpa using S,?_⟩
   .rw[Á,Ã,J]
   .simp[World.setCell,Array.getElem?_modify,a]
   .rw[Á,Ã];exact L
   .rw[Á,Ã,Array.toList_setIfInBounds,List.take_set,C]
 .rw[Á,Ã]at hi;by_cases e:i<ſ ps
  .obtain⟨D,M,W,J⟩:=Y i (by simp;omega);rw[Ë e]at W J⊢;refine⟨D,M,?_,A _ _ J⟩;rw[List.getElem?_set_ne (by omega)];exact W
  .have P:i=ſ ps:=by omega
   subst P;rw[É Zl];simp only[Ü,Í];exact⟨g,f,by rw[List.getElem?_set_self (by omega)],A _ _ o⟩
theorem bR.own_le{B v ps w}(h:bR B v ps w){k}(G:v.ownBlock=Â k):B<=k:=by
 obtain⟨E,C,_⟩:=h;rcases C.2 with⟨rfl,_⟩|⟨g,c,A,rfl,D,_⟩
 .cases G
 .have:g=k:=by simpa[á]using G
  omega
theorem UZ{B v ps w}(h:bR B v ps w)(H:B<=w.heap.size)(x):
  bR B v ps ((w.alloc (Ç #[x.op,Å x.tx,x.n] 81)).alloc (Ç #[À w.heap.size 1 1] 82))/\
  au B (À w.heap.size 1 1) [x] ((w.alloc (Ç #[x.op,Å x.tx,x.n] 81)).alloc (Ç #[À w.heap.size 1 1] 82))/\
  ((w.alloc (Ç #[↑x.op,Å x.tx,↑x.n] 81)).alloc (Ç #[À ↑w.heap.size 1 1] 82)).cell? ↑(w.heap.size+1)=Â (À ↑w.heap.size 1 1):=by
 have D:Below w w (w.alloc (Ç #[↑x.op,Å x.tx,↑x.n] 81)):= Zb.alloc Zl _;have A:∀G:Æ,∀o:Obj,Below G G (G.alloc o):=λG o=> Zb.alloc Zl _
 refine⟨(h.kept λg _ E=>D.block g E).kept λg _ E=>(A _ _).block g E,((au.one w x).down H).kept λg _ E=>(A _ _).block g E,?_⟩;have C:=cell_one_new (w.alloc (Ç #[↑x.op,Å x.tx,↑x.n] 81)) (À ↑w.heap.size 1 1) 82;rw[World.size_alloc]at C;exact C 0 _ rfl
theorem sa{B v ps w}(h:bR B v ps w){g n c:Nat}{t}(D:au B (À g n c) t w):
  bR B v ps (w.alloc (Ç #[À g n c] 82))/\au B (À g n c) t (w.alloc (Ç #[À g n c] 82))/\
  (w.alloc (Ç #[À g n c] 82)).cell? w.heap.size=Â (À g n c):=by
 have A:Below w w (w.alloc (Ç #[À g n c] 82)):= Zb.alloc Zl _;exact⟨h.kept λg _ C=>A.block g C,D.kept λg _ C=>A.block g C,cell_one_new w (À g n c) 82 0 _ rfl⟩
theorem tE{B:Nat}{w:Æ}{A:Option Addr}{n c:Nat}{x:Td}{H:List Td}(h:au B (À A n c) (x::H) w):∃g,A=Â ⟨g,0,Ê⟩:=by
 rcases h.2 with⟨_,E⟩|⟨g,G,D,C,_⟩
 .simp at E
 .simp only[Ä]at C;exact⟨g,C.1⟩
theorem O0(P g n i c:Nat)(tx:ByteArray)(Z en:Int)(nx dp:Nat)(lg:Int)(x:Int)(w:Æ)(b:n<=400)(hi:(i:Int)<n)(E:(i:Int)+1<n)(a:w.cell? (g,(i+1)*7+3)=Â ↑x)
  (c0:w.cell? P=Â (À g n n))
  (R:w.cell? (g,i*7)=Â (Ò Ð 9)) (S:w.cell? (g,i*7+1)=Â (Å tx)) (U:w.cell? (g,i*7+2)=Â ↑Z) (V:w.cell? (g,i*7+3)=Â ↑en) (W:w.cell? (g,i*7+4)=Â ↑nx) (X:w.cell? (g,i*7+5)=Â ↑dp) (Y:w.cell? (g,i*7+6)=Â ↑lg):
  Cb 274 #[.pointer P,Ï #[i,c],Ò Ð 1] w (Ø #[Ï #[x,c],Ï #[Ò Ð 0,Ò Ð 0]]):=by
 unfold Cb;have H:(0:Int)<=(i:Int):=by omega
 have K:=kh b hi;have G:=World.block_lt_of_cell? w P c0;have D:=World.block_lt_of_cell? w (g,i*7) R;have A:∀M N,(((w.alloc (Ç #[i,c] 280)).alloc M).alloc N).cell? w.heap.size=Â ↑i:=λM N=>by simp[go_sem]
 have B:∀M N O,((((w.alloc (Ç #[i,c] 280)).alloc M).alloc N).alloc O).cell? w.heap.size=Â ↑i:=λM N O=>ka (A M N) O
 have C:∀M N O,((((w.alloc (Ç #[i,c] 280)).alloc M).alloc N).alloc O).cell? (w.heap.size,1)=Â ↑c:=λM N O=>by simp[go_sem]
 have I:(0:Int)<=(i:Int)+1:=by omega
 have J:((i:Int)+1).toNat=i+1:=by omega
 go_in;go_wp2_with fail
 go_region_held3 (λL=>L.cell? P=Â (À g n n)/\L.cell? w.heap.size=Â ↑i/\L.cell? (g,i*7)=Â (Ò Ð 9)/\L.cell? (g,i*7+1)=Â (Å tx)/\L.cell? (g,i*7+2)=Â ↑Z/\L.cell? (g,i*7+3)=Â ↑en/\L.cell? (g,i*7+4)=Â ↑nx/\L.cell? (g,i*7+5)=Â ↑dp/\L.cell? (g,i*7+6)=Â ↑lg)
  (first|exact⟨k3 c0 _ _ _,A _ _,k3 R _ _ _,k3 S _ _ _,k3 U _ _ _,k3 V _ _ _,k3 W _ _ _,k3 X _ _ _,k3 Y _ _ _⟩|exact⟨k4 c0 _ _ _ _,B _ _ _,k4 R _ _ _ _,k4 S _ _ _ _,k4 U _ _ _ _,k4 V _ _ _ _,k4 W _ _ _ _,k4 X _ _ _ _,k4 Y _ _ _ _⟩) (fail)
 all_goals
  go_wp2_with fail
  go_region_held3 (λL=>L.cell? P=Â (À g n n)/\L.cell? w.heap.size=Â ↑i/\L.cell? (w.heap.size,1)=Â ↑c/\L.cell? (g,(i+1)*7+3)=Â ↑x)
   (exact⟨k4 c0 _ _ _ _,B _ _ _,C _ _ _,k4 a _ _ _ _⟩) (fail)
  all_goals
   go_wp2;exact bodyPost_ret (v:=Ø #[Ï #[x,c],Ï #[Ò Ð 0,Ò Ð 0]]) (by simp[results,Tryz.results274,go_sem]) rfl ⟨rfl,(lS w _ _ _ _).drew.drew⟩
theorem vr{w B o a}{K:Act->Æ->Prop}{Q:Exit->Act->Æ->Prop}{E}(C:o.guard=Ê)(s x)(t)
  (I:o.op=.call {callee:=.builtin .append,args:=#[s,x],argTypes:=#[t,t]}) (v u G H) (J:a.eval s=v) (L:a.eval x=u)
  (A:(Builtin.append_ #[t,t] o.type #[v,u]).run prog w=.ok G H) (hK:K (a.put o.dst G) H):if Region.wanted o (â B a.tmps)=true then Oper.wp prog o a w K Q else E:=by
 have D:Region.wanted o (â B a.tmps)=true:=by simp[Region.wanted,C]
 rw[if_pos D];unfold Oper.wp;simp[execOp,I,resolve,invoke,builtin,J,L,A,Result.andThen];exact hK
theorem lA{w W o a}{K:Act->Æ->Prop}{Q:Exit->Act->Æ->Prop}{E}(J:o.guard=Ê)(s x)
  (q:o.op=.call {callee:=.builtin .append,args:=#[s,x],argTypes:=#[82,82]})
  (B v k) (r:a.eval s=v) (C:au B v k w)
  (l n ws) (z:ſ ws=n) (wc) (t:a.eval x=À l n wc) (p:aG w l ws) (L:l=Ê->n=0/\wc=0)
  (m) (y:ſ k+n=m) (hb:m<=1000000) (G:B<=w.heap.size)
  (h:∀A c i,au B (À A m c) (k++ws) i->w.grownBy i v.ownBlock->K (a.put o.dst (À A m c)) i):if Region.wanted o (â W a.tmps)=true then Oper.wp prog o a w K Q else E:=by
 subst z y;obtain⟨Z,Y,S,U,V⟩:=Ú xa
 have X:∀H i,au B H (k++ws) i->w.grownBy i v.ownBlock->K (a.put o.dst H) i:=by
  intro H i I O
  obtain⟨A,c,rfl⟩:∃A c,H=À A (ſ k+ſ ws) c:=by
   rcases I.2 with⟨N,D⟩|⟨g,c,d,N,_⟩
   .rw[Á]at D;exact⟨.none,0,by rw[N,D]⟩
   .rw[Á]at N;exact⟨_,c,N⟩
  exact h A c i I O
 cases l with
 | none=>
  obtain⟨D,rfl⟩:=L rfl;obtain rfl:ws=[]:=Î D;refine vr J s x 82 q v _ _ _ r t (run_append_owned_none (P:=prog) (w:=w) B 82 o.type 81 Z 3 Tryz.underlying82 Y v (ſ k) (ef k) C) ?_;refine X v w ?_ ⟨rfl,rfl,rfl,Ý _,λ_ _ _=>rfl⟩;rw[List.append_nil];exact C
 | some ad=>
  have R:ws=[]\/∃b o,ad=⟨b,o,Ê⟩:=by
   rcases Nat.eq_zero_or_pos (ſ ws) with D|D
   .exact .inl (Î D)
   .obtain⟨b,o,e,_⟩:=p 0 D;exact .inr ⟨b,o,by simpa using e⟩
  obtain⟨H,i,M,I,O,_⟩:=run_append_own (P:=prog) w B 82 o.type 81 Z _ 3 32 Tryz.underlying82 Y S U V rfl (by decide) v (ſ k) (ef k) C ad (ſ ws) wc (ef ws) (su ws) (by
   rcases R with rfl|⟨b,o,rfl⟩
   .intro j u f;simp[ef]at f
   .exact AZ p) (Jc ws) (by unfold ä;omega) (by omega) G
  refine vr J s x 82 q v _ H i r t M (X H i ?_ O);rw[<-Jb]at I;show i.ownsRow _ _ _ _ _ _;rw[Á];exact I
theorem wb{w f o a}{K:Act->Æ->Prop}{Q:Exit->Act->Æ->Prop}{E}(U:o.guard=Ê)(s x)
  (ho:o.op=.call {callee:=.builtin .append,args:=#[s,x],argTypes:=#[28,28]})
  (B v ps) (hs:a.eval s=v) (L:bR B v ps w)
  (b0 g n c:Nat) (t) (hn:ſ t=n) (hx:a.eval x=À b0 1 1) (hc:w.cell? b0=Â (À g n c)) (hT:au B (À g n c) t w)
  (m) (hm:ſ ps+1=m) (hb:m<=1000000) (G:B<=w.heap.size)
  (h:∀A b c,bR B (À A m b) (ps++[t]) c->w.grownBy c v.ownBlock->K (a.put o.dst (À A m b)) c):if Region.wanted o (â f a.tmps)=true then Oper.wp prog o a w K Q else E:=by
 subst hn hm;obtain⟨i0,V,Y,Z,b⟩:=Ú yw;obtain⟨N,S,h2⟩:=L
 obtain⟨v',w',M,p,q,_⟩:=run_append_own (P:=prog) w B 28 o.type 82 i0 _ 1 24 Tryz.underlying28 V Y Z b rfl (by decide) v (ſ ps) N S b0 1 1 [À g (ſ t) c] rfl (by
  intro j u X;cases j with
  | zero=>
   simp at X;subst X;rw[qo];exact hc
  | succ j=>simp at X) (by intro u y;simp at y;subst y;rfl) (by unfold ä;omega) (by omega) G
 have C:∀{D d c':Nat}{k:List Td},au B (À D d c') k w->au B (À D d c') k w':=by
  intro D d c' k H;obtain⟨_,_,R,I⟩:=sF H;refine vu H (q.block D (È.1 I).1 λe=>?_);obtain⟨l,J⟩:=vg S e.symm;rw[I]at J;simp at J
 obtain⟨A,c',rfl⟩:∃A a,v'=À A (ſ ps+1) a:=by
  rcases p.2 with⟨z,h0⟩|⟨D,c',R,z,_⟩
  .omega
  .exact⟨_,c',z⟩
 refine vr U s x 28 ho v _ _ w' hs hx M (h A c' w' ⟨N++[À g (ſ t) c],?_,λi V=>?_⟩ q)
 .rw[Á];exact p
 .have r:=S.1;rw[Þ]at r;by_cases e:i<ſ ps
  .obtain⟨D,O,e1,e2⟩:=h2 i e;rw[Ë e];refine⟨D,O,?_,C e2⟩;rw[Ó (by omega)];exact e1
  .have W:i=ſ ps:=by simp at V;omega
   subst W;rw[É Zl];refine⟨g,c,?_,?_⟩
   .rw[Ñ (by omega),r];simp
   .simp only[Ü,Í];exact C hT
theorem lC(Z a c)(w:Æ)(e:aS w a Z):
  Cb 201 #[À a (ſ Z) c] w (aF (bM Z)):=by
 unfold Cb;have O:=aa e;by_cases V:400<(ſ Z:Int)
 .rw[RB (by omega),rp];go_in;go_wp2;go_ret;exact⟨rfl,Below.refl _ _⟩
 .have H:ſ Z<=400:=by omega
  go_in;go_wp2
  go_loopw [14] (λi wr=>Below w w wr/\∃k:Nat,k<=ſ Z/\i=k/\∀x∈Z.take k,bz x=0) (λi _=>ſ Z-(intOf i).toNat)
  case atStart=>exact⟨Below.refl _ _,0,Ì _,rfl,by simp⟩
  case round=>
   obtain⟨E,k,Y,rfl,G⟩:=hrel;have J:=aa G;have I:=aa (O.o.W E);by_cases A:k<ſ Z
   .obtain⟨b,o,P,X,R,S,U⟩:=I.o k A;subst P;by_cases L:bz Z[k]=0
    .have D:=aa L;go_wp2_with fail;refine ai (IG Z[k] _) λf d=>?_
     rw[D.o,cS];have C:=ji E Zl d;go_wp2
     go_roundw
     case rel=>exact⟨C,k+1,by omega,by go_num,S4 A J.o D.o⟩
     case measure=>simp[intOf];omega
    .have D:=aa L;go_wp2_with fail;refine ai (IG Z[k] _) λf d=>?_
     rw[cN D.o];have C:=ji E Zl d;go_wp2;go_ret;refine⟨?_,C⟩;rw[RC H A J.o D.o,cN D.o];rfl
   .have K:=aa (Ub H (VH A J.o));cases M:bB Z 0 1 with
    | none=>
     have B:=aa M;go_wp2_with fail;refine an (Pq a c _ I.o H (Ì _) B.o) ?_;go_wp2;go_ret;refine⟨?_,E⟩;rw[K.o,B.o,if_neg (by simp),pF];rfl
    | some j=>
     have B:=aa M;by_cases N:j=ſ Z
     .subst N;go_wp2_with fail;refine an (I0 a c _ I.o H (Ì _) B.o) ?_;go_wp2;go_ret;refine⟨?_,E⟩;rw[K.o,B.o,if_pos rfl,cS];rfl
     .have Q:((j:Int) != (ſ Z:Int))=true:=by simp;omega
      go_wp2_with fail;refine an (I0 a c _ I.o H (Ì _) B.o) ?_;go_wp2;go_ret;refine⟨?_,E⟩;rw[K.o,B.o,if_neg (by simp[N]),pF];rfl
def Tr.laid:Tr->List UInt8
 | .leaf x=>if x.op=1 then x.tx.data.toList else if x.op=2 then [32]else []
 | .one _ a=>a.laid
 | .two x a b=>if x.op=6 then a.laid++b.laid else a.laid
def Tr.brk:Tr->Bool
 | .leaf x=>decide (x.op=4)
 | .one _ a=>a.brk
 | .two x a b=>if x.op=6 then a.brk||b.brk else a.brk
theorem p3:∀t:Tr,t.flat=(if t.brk=true then Ê else Â t.laid)
 | .leaf x=>by
  simp only[Tr.flat,Tr.brk,Tr.laid];by_cases A:x.op=1
  .simp[A]
  .by_cases B:x.op=2
   .simp[B]
   .by_cases C:x.op=4
    .simp[C]
    .simp[A,B,C]
 | .one _ a=>p3 a
 | .two x a b=>by
  have A:=p3 a;have B:=p3 b;simp only[Tr.flat,Tr.brk,Tr.laid]
  split
  .rw[A,B];cases a.brk<;>cases b.brk<;>simp
  .exact A
theorem rW:∀t:Tr,t.Wf->ſ t.laid<=20*ſ t.N
 | .leaf x,h=>by
  obtain⟨_,_,_,_,B,_⟩:=fJ h.1;simp only[Tr.laid,Tr.N]
  split
  .rename_i A
   have:=jS (B A)
   have e:=fu x.tx;simp only[Õ,List.length_nil];omega
  .split<;>simp
 | .one x a,h=>by
  have:=rW a h.2.2
  simp only[Tr.laid,Tr.N,Õ];omega
 | .two x a b,h=>by
  have A:=rW a h.2.2.1;have C:=rW b h.2.2.2;simp only[Tr.laid,Tr.N,Õ,Á]
  split
  .rw[Á];omega
  .omega
theorem RW{t:Tr}(h:t.brk=false):t.isFlat=true/\t.line=⟨t.laid.toArray⟩:=by grind [p3,Tr.isFlat,Tr.line]
theorem RX{t:Tr}(h:t.brk=true):t.isFlat=false/\t.line=⟨#[]⟩:=by grind [p3,Tr.isFlat,Tr.line]
theorem mG:∀t:Tr,t.Wf->ix t.N t.laid t.brk
 | .leaf ⟨op,tx,n⟩,h=>by
  obtain⟨_,_,_,_,A,_⟩:=fJ h.1;rcases iZ h.1 h.2 with e|e|e|e|e
  all_goals (simp only at e;subst e)
  .exact KU tx n (jS (A rfl)).2
  .exact KV tx n
  .exact zS 0 (.inl ⟨rfl,rfl⟩) tx n
  .exact KW tx n
  .exact zS 1 (.inr ⟨rfl,rfl⟩) tx n
 | .one ⟨op,tx,n⟩ a,h=>by
  rcases jD h.2.1 with e|e
  all_goals (simp only at e;subst e)
  .exact zT 0 (.inl ⟨rfl,rfl⟩) tx n _ _ _ (mG a h.2.2)
  .exact zT 1 (.inr ⟨rfl,rfl⟩) tx n _ _ _ (mG a h.2.2)
 | .two ⟨op,tx,n⟩ a c,h=>by
  rcases jj h.2.1 with e|e
  all_goals (simp only at e;subst e)
  .exact KX tx n _ _ _ _ _ _ (mG a h.2.2.1) (mG c h.2.2.2) (rW a h.2.2.1)
  .exact KY tx n _ _ _ _ _ _ (mG a h.2.2.1) (mG c h.2.2.2)
theorem Up(C a B)(w:Æ)(E:aS w a C)(h:bM C≠0):
  Cb 273 #[À a (ſ C) B] w (Ø #[Å ⟨#[]⟩,à false,aF (bM C)]):=by
 unfold Cb;have A:=aa E;have H:=aa h;rw[cN h];go_in;go_wp2_with fail;refine ai (lC C a B _ A.o) λG D=>?_
 rw[cN H.o];go_wp2;go_ret3;exact⟨rfl,D⟩
theorem FR(Y)(t:Tr)(c:Y=t.N)(h:t.Wf)(j:ſ Y<=400)(a b)(i:ſ Y<=b)(w:Æ)(g:aS w a Y):
  Cb 273 #[À a (ſ Y) b] w (Ø #[Å t.line,à t.isFlat,.nilIface]):=by
 unfold Cb;have M:Hid (aS w a Y):=g;have H:Hid (bM Y=0):=(show bM Y=0 by rw[c];exact qH h (by rw[<-c];exact j));have R:Hid (Y=t.N):=c;have Q:Hid (Y≠[]):=(show Y≠[] by have:=t.pos;rw[<-c]at this;exact List.length_pos_iff.1 this);clear g c;cases D:t.brk
 case' true=>obtain⟨J,K⟩:=RX D
 case' false=>obtain⟨J,K⟩:=RW D
 all_goals
  rw[J,K];have S:=(show Hid (t.brk=_)from D);clear D J K;go_in;go_wp2_with fail;refine ai (lC Y a b _ M.o) λZ d=>?_
  rw[H.o,cS];have E:Hid (Below w w Z):=d;obtain⟨s,P,C⟩:=(M.o.W d).s Q.o;have U:Hid (cO s Z a Y):=C;clear d C;go_wp2_with fail;refine(mG t h Z.heap.size Z.heap.size s Y [] a b [] false _ (by rw[R.o];simp) (U.o.kept (Below.heap_alloc _ _ _ P)) P (by omega) i (a6.fresh 375 Z [à false]) (by simp) (by simp;omega)).mono ?_;rintro e L⟨⟨X,O,rfl,_,_⟩,A,I,_⟩;have B:Below w w L:=E.o.trans ((((Below.refl _ Z).alloc Zl _).trans (I.W Zl)).mono E.o.size);rw[Bool.false_or,List.nil_append]at A;have G:Hid (Ln Z.heap.size Z.heap.size t.laid t.brk L):=A;have V:=A.cell;rw[S.o]at V;clear A
 .go_wp2_with fail;refine ai (tT 375 Z.heap.size Z.heap.size t.laid [à t.brk] L G.o) λk f=>?_
  go_wp2;go_ret3;exact⟨rfl,B.trans (f.mono E.o.size)⟩
 .go_wp2;go_ret3;exact⟨rfl,B⟩
theorem Uo(G a E)(I:ſ G<=E)(w:Æ)(H:aS w a G):
  Cb 273 #[À a (ſ G) E] w (Ø #[Å (ld G),à (kZ G),aF (bM G)]):=by
 unfold Cb;by_cases h:bM G=0
 .obtain⟨C,_,_⟩:=mD h;obtain⟨D,A,B⟩:=FQ (mX h) (my h) C;rw[A,B,h,cS];exact FR G _ (my h) (mX h) C a E I w H
 .obtain⟨A,B⟩:=Mm h;rw[A,B];exact Up G a E w H h
theorem R1(s)(w:Æ):Calls prog 30 #[Å s] w λe C=>uD s w e C/\Below w w C:=by
 by_cases h:(ae s).length<=60000
 .exact R2 s w h
 .have A:Hid (dc (ae s)=3/\fX (ae s)=0):=CQ (by omega);have B:60000<(s.size:Int):=by rw[aw]at h;omega
  clear h;go_in;go_wp2;refine bodyPost_ret (v:=Ø #[À Ê 0 0,À Ê 0 0,Ò Ð 0,Ò Ð 3]) (by simp[results,Tryz.results30,go_sem]) rfl ?_;exact⟨.inl ⟨by rw[A.o.1];decide,by rw[A.o.1,A.o.2];rfl⟩,Below.refl _ _⟩
theorem NO{B w A n c G}(h:jm B (À A n c) G w):eE w A (G.map λ(k:Nat)=>(k:Int)):=by
 intro j C;rw[List.length_map]at C;obtain⟨g,rfl,E,D⟩:=JI h j C;exact⟨g,0,rfl,E,by rw[Û,List.getElem_map];exact D⟩
theorem Ga{L}(h:dc L=0):(aQ L).length<=60000:=Nat.le_trans (Tf L) (tr h).1
