import Derived.Test.YtelcnplcpboonaaGreatDoorPe28
import Derived.Recover
import Derived.Test.YtelcnplcpboonaaGreatDoorPe31
open Go.Proofs.Tryz
open List renaming length->ſ
open Go.Value renaming slice->À,pointer->Â,nilIface->É,int->Ð,string->Ö,iface->Ø,tuple->Ú,agg->é
open Go.Obj renaming cells->Á
open Go.World renaming size_alloc->Ã,size_setCell->Ë
open Option renaming some->Ä,none->Ç
open Array renaming getElem?_eq_some_iff->Å
open Go.Lib renaming frozen_of_heap->Æ,cell_of_heap->È,alloc_old->Ï,toList_data->ã
open List renaming length_append->Ê,length_cons->Ó,getElem?_append_right->Ü,getElem?_append_left->Ý,length_map->ß,append_assoc->à,length_nil->â,length->æ
open Go renaming wpAny_ready->Ì,heap_alloc_new->Í,undef->Ò,World->Û,leaves_cons->á,wpAny_done->ä,callsD_of_wpS->å,Calls->ç,CallsD->è
open Go.RowKit renaming Below->Î
open Go.IntKind renaming i64->Ñ
open Go.Ending renaming returned->Ô
open Go.RowKit.Below renaming heap_setCell->Õ,refl->Ù,drew->ê
open Nat renaming zero_le->Þ
namespace Go.Proofs.YtelcnplcpboonaaGreatDoor
open Go Go.RowKit
set_option maxRecDepth 100000
set_option maxHeartbeats 2000000
theorem M5(a c d)(w:Û):è prog 116 #[Â (Ä a),Â (Ä c),Â (Ä d)] .returning w λe D E=>e=Ô (Ú #[])/\D=.returning/\Î w w E:=by
 have A:∀W:Û,(Instr.typeAssert É 20 178 true).run prog W=.ok (Ú #[é #[Ð Ñ 0],.bool false]) W:=λW=>by kernel_rfl
 refine å func116 rfl λB G C=>?_
 apply wpS_seq;apply wpS_region;simp[wpOpsS,go_sem,recoverD,C,ntmps116,Exit.thenS];refine wpS_of_wp ?_;change Code.wp _ _ _ {tmps:=#[Â (Ä a),Â (Ä c),Â (Ä d),É,Ò,Ò,É,Ò,Ò,Ò,Ò,Ò,Ò,Ò,Ò,Ò,Ò,Ò,Ò],defers:=[]} _;go_wp2;refine⟨rfl,.returning,?_,_,results_none rfl _ _ _,rfl,rfl,aC w _⟩;cases B;simp_all
theorem Jk(L M bd:Nat)(k w Z vc a)(S:w.cell? L=Ä Z)(U:w.cell? M=Ä vc)(V:w.cell? bd=Ä a)(d:w.frozen? L=false)(f:w.frozen? M=false)(g:w.frozen? bd=false)(la:L<w.heap.size)(h:M<w.heap.size)(i:bd<w.heap.size)(n1:¬L=M)(n2:¬L=bd)(n3:¬M=bd):
  è prog 116 #[Â L,Â M,Â bd] (.panicking [cD k]) w λe Y N=>e=Ô (Ú #[])/\Y=.panicking [{v:=Ø 178 (é #[(k:Int)]),recovered:=true}]/\N.cell? L=Ä (À Ç 0 0)/\N.cell? M=Ä ↑(k:Int)/\N.cell? bd=Ä (Ø 50 (Ð Ñ 5))/\∀B,B<=L->B<=M->B<=bd->Î B w N:=by
 have E:∀W:Û,(Instr.typeAssert (Ø 178 (é #[(k:Int)])) 20 178 true).run prog W=.ok (Ú #[é #[(k:Int)],.bool true]) W:=λW=>by kernel_rfl
 refine å func116 rfl λc b X=>?_
 apply wpS_seq;apply wpS_region;simp[wpOpsS,go_sem,recoverD,X,ntmps116,Exit.thenS];refine wpS_of_wp ?_;change Code.wp _ _ _ {tmps:=#[Â L,Â M,Â bd,Ø 178 (é #[(k:Int)]),Ò,Ò,Ø 178 (é #[(k:Int)]),Ò,Ò,Ò,Ò,Ò,Ò,Ò,Ò,Ò,Ò,Ò,Ò],defers:=[]} _;go_wp2_with fail
 go_region
 all_goals go_wp2
 generalize C:((w.setCell L (À Ç 0 0)).setCell M (k:Int)).setCell bd (Ø 50 (Ð Ñ 5))=W;have K:W.heap.size=w.heap.size:=by rw[<-C,Ë,Ë,Ë]
 have G:W.cell? L=Ä (À Ç 0 0):=by
  rw[<-C];exact(af (.inl (Ne.symm n2))).trans ((af (.inl (Ne.symm n1))).trans (cF S))
 have H:W.cell? M=Ä ↑(k:Int):=by
  rw[<-C];exact(af (.inl (Ne.symm n3))).trans (cF ((af (.inl n1)).trans U))
 have I:W.cell? bd=Ä (Ø 50 (Ð Ñ 5)):=by
  rw[<-C];exact cF ((af (.inl n3)).trans ((af (.inl n2)).trans V))
 have J:∀B,B<=L->B<=M->B<=bd->Î B w W:=λB O P R=>by
  rw[<-C];exact(((Ù B w).setCell (p:=L) O _).setCell (p:=M) P _).setCell (p:=bd) R _
 clear C;have D:=jp W (Á #[(k:Int)] 178);obtain⟨A,_⟩:=a9 D;refine⟨rfl,_,rfl,_,results_none rfl _ _ _,rfl,rfl,(A _ _ (by omega)).trans G,(A _ _ (by omega)).trans H,(A _ _ (by omega)).trans I,λB O P R=>(J B O P R).trans (D.mono (by omega))⟩
set_option maxHeartbeats 4000000
theorem P9(B b s k m)(_hb:s<B/\k<B/\m<B)(q:B<=b)(p a j)(_hl:ſ p<=400)(tx n):gY B b s k m p a j (⟨5,tx,n⟩::[]) (λ_ a=>.ok ([],a)):=by
 intro i r M ws Z wc l w V S U _ H D C G;obtain⟨X,Q,g⟩:=iD (x:=⟨5,tx,n⟩) (A:=[]++r) V;obtain⟨h,R,J,K,L⟩:=S.nd i X;subst R;rw[Q]at J K L;dsimp only at J K L;have c:=D.c0;have d:=D.c1;have e:=D.c2;have f:=D.c5;have Y:=D.lt;have E:B<=w.heap.size:=by omega
 have N:=aa U;have P:=aa D;have I:Hid (∀O:Obj,Î B w (w.alloc O)):=λO=>(Ù _ w).alloc E O
 simp only[Ó,â]at C G;go_in;go_wp2;go_ret;exact⟨⟨rfl,Z,wc,by rw[List.append_nil];exact P.o.alloc _,N.o.W (I.o _),H⟩,I.o _⟩
theorem P4(B b s t u)(_hb:s<B/\t<B/\u<B)(y:B<=b)(v a q)(_hl:ſ v<=400)(tx n)(ht:tx.size<=20):gY B b s t u v a q (⟨1,tx,n⟩::[]) (λ_ a=>.ok (tx.data.toList,a)):=by
 intro i r N ws f wc l w Z X Y _ J D C I;obtain⟨c,S,m⟩:=iD (x:=⟨1,tx,n⟩) (A:=[]++r) Z;obtain⟨o,U,K,L,M⟩:=X.nd i c;subst U;rw[S]at K L M;dsimp only at K L M;have g:=D.c0;have h:=D.c1;have j:=D.c2;have k:=D.c5;have d:=D.lt;have H:B<=w.heap.size:=by omega
 have Q:=aa Y;have R:=aa D;have P:Hid (∀O:Obj,Î B w (w.alloc O)):=λO=>(Ù _ w).alloc H O
 simp only[Ó,â]at C I;go_in;go_wp2_with fail
 go_region_with (go_at_call 10;refine(qf (WS.drew (R.o.alloc _)) y tx (by omega)).mono ?_;rintro e p⟨⟨z,rfl⟩,V,G⟩)
 all_goals
  go_wp2;go_ret;have E:=(ê (P.o _)).trans G;exact⟨⟨rfl,f,wc,V,Q.o.W E,J⟩,E⟩
theorem Qc(B b s be bf)(hb:s<B/\be<B/\bf<B)(hB:B<=b)(ds a cap)(_hl:ſ ds<=400)(tx n A)(f:Nat->List Int->Except Int (List UInt8 × List Int))(hA:pA 280 B b s be bf ds a cap (⟨8,tx,n⟩::A) f):gY B b s be bf ds a cap (⟨8,tx,n⟩::A) (f):=by
 intro i r D Z wa wc l w Y X z N Q G E P;obtain⟨hi,o,q⟩:=iD (x:=⟨8,tx,n⟩) (A:=A++r) Y;obtain⟨o0,t,S,U,V⟩:=X.nd i hi;subst t;rw[o]at S U V;dsimp only at S U V;have c0:=G.c0;have c1:=G.c1;have c2:=G.c2;have c5:=G.c5;have Aa:=G.lt;have M:B<=w.heap.size:=by omega
 have g:=aa Y;have h:=aa q;have d:=aa X;have k:=aa z;have m:=aa G;have J:Hid (∀O:Obj,Î B w (w.alloc O)):=λO=>(Ù _ w).alloc M O
 have j:=aa hA;have L:=aa N;go_in;go_wp2_with fail;refine(j.o i r D Z wa wc l _ g.o (d.o.W hb (J.o _)) (k.o.W (J.o _)) L.o Q (m.o.alloc _) E P).mono ?_;rintro e w2⟨K,H⟩;cases C:f D Z with
 | error er=>
  rw[C]at K;obtain⟨I,rfl⟩:=K;have R:=aa I;rw[cN I];go_wp2;go_ret;refine⟨?_,((J.o _).trans H)⟩;rw[C];exact⟨R.o,by rw[cN R.o];rfl⟩
 | ok p=>
  obtain⟨u,v⟩:=p;rw[C]at K;obtain⟨rfl,y⟩:=K;have c:=aa y;go_wp2;go_ret;refine⟨?_,((J.o _).trans H)⟩;rw[C];exact⟨rfl,c.o⟩
theorem Qd(B b s be bf)(hb:s<B/\be<B/\bf<B)(hB:B<=b)(ds a cap)(_hl:ſ ds<=400)(tx n A C)(f:Nat->List Int->Except Int (List UInt8 × List Int))(hA:pA 280 B b s be bf ds a cap (⟨9,tx,n⟩::(A++C)) f):gY B b s be bf ds a cap (⟨9,tx,n⟩::(A++C)) (f):=by
 intro i r E c wa wc l w Z Y hI P R H G Q;obtain⟨hi,q,t⟩:=iD (x:=⟨9,tx,n⟩) (A:=(A++C)++r) Z;obtain⟨o0,y,U,V,X⟩:=Y.nd i hi;subst y;rw[q]at U V X;dsimp only at U V X;have c0:=H.c0;have c1:=H.c1;have c2:=H.c2;have c5:=H.c5;have Aa:=H.lt;have N:B<=w.heap.size:=by omega
 have h:=aa Z;have j:=aa t;have g:=aa Y;have m:=aa hI;have o:=aa H;have K:Hid (∀O:Obj,Î B w (w.alloc O)):=λO=>(Ù _ w).alloc N O
 have k:=aa hA;have M:=aa P;go_in;go_wp2_with fail;refine(k.o i r E c wa wc l _ h.o (g.o.W hb (K.o _)) (m.o.W (K.o _)) M.o R (o.o.alloc _) G Q).mono ?_;rintro e w2⟨L,I⟩;cases D:f E c with
 | error er=>
  rw[D]at L;obtain⟨J,rfl⟩:=L;have S:=aa J;rw[cN J];go_wp2;go_ret;refine⟨?_,((K.o _).trans I)⟩;rw[D];exact⟨S.o,by rw[cN S.o];rfl⟩
 | ok p=>
  obtain⟨u,v⟩:=p;rw[D]at L;obtain⟨rfl,z⟩:=L;have d:=aa z;go_wp2;go_ret;refine⟨?_,((K.o _).trans I)⟩;rw[D];exact⟨rfl,d.o⟩
theorem Qa(B b s be bf)(hb:s<B/\be<B/\bf<B)(hB:B<=b)(ds a cap)(hl:ſ ds<=400)(tx n A C)(f g:Nat->List Int->Except Int (List UInt8 × List Int))(hA:gY B b s be bf ds a cap A f)(hG:gY B b s be bf ds a cap C g)(hE:∀i r,ds.drop i=A++r->r≠[]->∃t:Tr,t.Wf/\A=t.N)(hp:C≠[])(K:∀a b u v,f a b=.ok (u,v)->a+8*ſ A<=3300->ſ u<=4000*ſ A)(Z:∀a b u v,ez b->f a b=.ok (u,v)->ez v):gY B b s be bf ds a cap (⟨6,tx,n⟩::(A++C)) (kM f g):=by
 intro i r deep ws wa wc l w hd hC hI k Ae P R Ac;obtain⟨hi,e1,e2⟩:=iD (x:=⟨6,tx,n⟩) (A:=(A++C)++r) hd;obtain⟨o0,ea,d1,d2,d3⟩:=hC.nd i hi;subst ea;rw[e1]at d1 d2 d3;dsimp only at d1 d2 d3;have c0:=P.c0;have c1:=P.c1;have c2:=P.c2;have c5:=P.c5;have Aj:=P.lt;have Ak:s<w.heap.size:=by omega
 have Ab:B<=w.heap.size:=by omega
 have Ai:(i:Int)<(ſ ds:Int):=by omega
 have HD:=aa hd;have y:=aa e2;have HC:=aa hC;have HI:=aa hI;have HW:=aa P;have m:Hid (∀O:Obj,Î B w (w.alloc O)):=λO=>(Ù _ w).alloc Ab O
 clear hC hI P hd e1 e2;simp only[Ó,Ê]at R Ac;have HF:=aa hA;have HG:=aa hG;have HX:Hid (((i+1:Nat):Int)=(i:Int)+1):=(show _=_ by omega);have X:=aa k;have H:=y.o;rw[à]at H;have M:=aa H;obtain⟨t,ht,et⟩:=hE _ _ H (λh=>hp (List.append_eq_nil_iff.1 h).1);have HT:Hid (t.Wf/\A=t.N):=⟨ht,et⟩
 have Ah:(i:Int)+1<(ſ ds:Int):=by
  have:=congrArg æ H
  have J:=List.length_pos_iff.2 hp;rw[List.length_drop,Ê,Ê]at this;omega
 have HL:=aa K;have q:=aa Z;clear hA hG k H ht et hE K Z hp;go_in;go_wp2_with fail;rw[<-HX.o];refine(HF.o (i+1) (C++r) deep ws wa wc l _ M.o (HC.o.W hb (m.o _)) (HI.o.W (m.o _)) X.o Ae (HW.o.alloc _) (by omega) (by omega)).mono ?_;rintro e w2⟨J,Q⟩;cases D:f deep ws with
 | error er=>
  rw[D]at J;obtain⟨E,rfl⟩:=J;have V:=aa E;rw[cN E];clear E;go_wp2;go_ret;refine⟨?_,(m.o _).trans Q⟩;rw[kM,D];exact⟨V.o,by rw[cN V.o];rfl⟩
 | ok p=>
  obtain⟨u0,o⟩:=p;rw[D]at J;obtain⟨rfl,Af,Ag,S,j,Ad⟩:=J;have L:=aa ((m.o _).trans Q);have U:=aa (HC.o.W hb L.o);have Aa:=aa S;have z:=aa j;have g1:=S.c1;have Al:=HL.o deep ws u0 o D (by omega);have Y:=aa (q.o deep ws u0 o X.o D)
  have ge:w2.cell? ⟨be,i+1,Ç⟩=Ä (Ð Ñ ((i+1+ſ A:Nat):Int)):=by
   have d:=M.o;rw[HT.o.2]at d⊢;exact(U.o.kn (i+1) t (C++r) (Þ _) HT.o.1 d).1
  have I:=aa D;clear S j Q D;go_wp2_with fail;refine(HG.o (i+1+ſ A) r deep o Af Ag (l++u0) _ (uP M.o) U.o z.o Y.o Ad Aa.o (by omega) (by rw[Ê];omega)).mono ?_;rintro e w3⟨J,c⟩;cases G:g deep o with
  | error er=>
   rw[G]at J;obtain⟨E,rfl⟩:=J;have V:=aa E;rw[cN E];clear E;go_wp2;go_ret;refine⟨?_,(L.o.trans c)⟩;rw[kM,I.o];dsimp only;rw[G];exact⟨V.o,by rw[cN V.o];rfl⟩
  | ok p=>
   obtain⟨u,v⟩:=p;rw[G]at J;obtain⟨rfl,h3⟩:=J;have H3:=aa h3;clear h3;go_wp2;go_ret;refine⟨?_,(L.o.trans c)⟩;rw[kM,I.o];dsimp only;rw[G];rw[à]at H3;exact⟨rfl,H3.o⟩
theorem Qb(B b s be bf)(hb:s<B/\be<B/\bf<B)(hB:B<=b)(ds a cap)(hl:ſ ds<=400)(tx n)(Ab:0<=n)(Ac:n<=8)(A)(f:Nat->List Int->Except Int (List UInt8 × List Int))(hA:gY B b s be bf ds a cap A f):gY B b s be bf ds a cap (⟨7,tx,n⟩::A) (λa b=>f (a+n.toNat) b):=by
 intro i r deep ws wa wc l w y X t N Q E D P;obtain⟨z,k,m⟩:=iD (x:=⟨7,tx,n⟩) (A:=A++r) y;obtain⟨o0,o,S,U,V⟩:=X.nd i z;subst o;rw[k]at S U V;dsimp only at S U V;have c0:=E.c0;have c1:=E.c1;have c2:=E.c2;have c5:=E.c5;have Aa:=E.lt;have M:B<=w.heap.size:=by omega
 have K:=aa m;have Z:=aa X;have d:=aa t;have g:=aa E;have I:Hid (∀O:Obj,Î B w (w.alloc O)):=λO=>(Ù _ w).alloc M O
 simp only[Ó]at D P;have c:=aa hA;have h:Hid (((i+1:Nat):Int)=(i:Int)+1):=(show _=_ by omega);have j:Hid (((deep+n.toNat:Nat):Int)=(deep:Int)+n):=(show _=_ by omega);have L:=aa N;go_in;go_wp2_with fail;rw[<-h.o,<-j.o];refine(c.o (i+1) r (deep+n.toNat) ws wa wc l _ K.o (Z.o.W hb (I.o _)) (d.o.W (I.o _)) L.o Q (g.o.alloc _) (by omega) (by omega)).mono ?_;rintro e w2⟨J,G⟩;cases C:f (deep+n.toNat) ws with
 | error er=>
  rw[C]at J;obtain⟨H,rfl⟩:=J;have R:=aa H;rw[cN H];go_wp2;go_ret;refine⟨?_,(I.o _).trans G⟩;rw[C];exact⟨R.o,by rw[cN R.o];rfl⟩
 | ok p=>
  obtain⟨u,v⟩:=p;rw[C]at J;obtain⟨rfl,q⟩:=J;have Y:=aa q;go_wp2;go_ret;refine⟨?_,(I.o _).trans G⟩;rw[C];exact⟨rfl,Y.o⟩
set_option maxHeartbeats 8000000
def eO(ps:List Nat)(k:Nat)(i:Nat):Nat:=(ps[i]?).getD k
theorem So{B v A w}(h:jm B v A w):mo B v (A.map λ(k:Nat)=>(k:Int)) w:=by
 have e:gO (A.map λ(k:Nat)=>(k:Int))=je A:=by simp[gO,je]
 show w.ownsRow _ _ _ _ _ _;rw[ß,e];exact h
theorem AM{w V:Û}{B X e R A D n a v U W J}(h:w.ownsRow B e A v n W)(Y:w.ownsRow X R D U a J)(I:e≠R)(Z:w.grownBy V U.ownBlock):V.ownsRow B e A v n W:=by
 refine⟨h.1,?_⟩;rcases h.2 with M|⟨g,c,G,O,N,H,E⟩
 .exact .inl M
 .refine .inr ⟨g,c,G,O,N,(Z.block g (Å.1 H).1 λS=>?_).trans H,E⟩;rcases Y.2 with⟨rfl,_⟩|⟨L,P,K,rfl,_,C,_⟩
  .cases S
  .have:g=L:=by simpa[Value.ownBlock]using S
   subst this;rw[H]at C;simp only[Option.some.injEq,Obj.cells.injEq]at C;exact I C.2.1
theorem AJ{w:Û}{B e n m c A O}(h:w.ownsRow B e 1 (À A m c) n O)(P:0<n):∃g,A=Ä ⟨g,0,Ç⟩/\B<=g/\g<w.heap.size/\n<=c/\∀i u,O[i]?=Ä u->w.cell? ⟨g,i,Ç⟩=Ä u:=by
 rcases h.2 with⟨_,M⟩|⟨g,L,H,G,I,E,D,_,K,C⟩
 .omega
 .simp only[Value.slice.injEq]at G;obtain⟨rfl,rfl,rfl⟩:=G;refine⟨g,rfl,I,(Å.1 E).1,D,λi u N=>?_⟩;rw[<-C]at N
  have J:i<m*1:=by
   have:=(List.getElem?_eq_some_iff.1 N).1
   rw[List.length_take]at this;omega
  rw[List.getElem?_take_of_lt J]at N;simp only[World.cell?,E];simpa using N
theorem Vl{B n A P V W ws ps}{k:Nat}{w}(Z:ſ ws=n)(C:n<=60000)(H:ſ ps=ſ ws)(X:cP B (À A (n+1) V) (ws.map ab++[⟨#[]⟩]) w)(Y:mo B (À P (n+1) W) ((ps.map λ(k:Nat)=>(k:Int))++[(k:Int)]) w):
  ∃U S,A=Ä ⟨U,0,Ç⟩/\P=Ä ⟨S,0,Ç⟩/\B<=U/\B<=S/\U<w.heap.size/\S<w.heap.size/\Ry ⟨U,V,S,W⟩ ws (eO ps k) w.heap.size 0 (w.alloc (Á #[À (Ä ⟨U,0,Ç⟩) (n+1) V,À (Ä ⟨S,0,Ç⟩) (n+1) W] 181)):=by
 subst Z;have D:(ws.map ab++[(⟨#[]⟩:ByteArray)]).length=ſ ws+1:=by simp
 have E:((ps.map λ(k:Nat)=>(k:Int))++[(k:Int)]).length=ſ ws+1:=by simp[H]
 obtain⟨U,rfl,L,J,N,Q⟩:=AJ X (by rw[D];omega);obtain⟨S,rfl,M,K,O,R⟩:=AJ Y (by rw[E];omega);rw[D]at N;rw[E]at O;have G:=Í w (Á #[À U (ſ ws+1) V,À S (ſ ws+1) W] 181);obtain⟨I,_⟩:=a9 (aC w (Á #[À U (ſ ws+1) V,À S (ſ ws+1) W] 181));refine⟨U,S,rfl,rfl,L,M,J,K,Þ _,by rw[È G];rfl,by rw[È G];rfl,⟨_,_,G,rfl⟩,λi hi=>?_,λi hi=>?_,by show U≠w.heap.size;omega,by show S≠w.heap.size;omega,by show (ſ ws)<V;omega,by show (ſ ws)<W;omega,C⟩
 .refine(I _ _ J).trans (Q i _ ?_);by_cases e:i<ſ ws
  .rw[iY e,lB,Ý (by simp[strCells];omega)];simp[strCells,e]
  .have:i=ſ ws:=by omega
   subst this;rw[mN Zl,lB,Ü (by simp[strCells])];simp[strCells];rfl
 .refine(I _ _ K).trans (R i _ ?_);unfold eO;by_cases e:i<ſ ps
  .rw[xN,Ý (by simp[gO];omega)];simp[gO,e]
  .have:i=ſ ps:=by omega
   subst this;rw[xN,Ü (by simp[gO])];simp[gO]
structure sM(K:ew)(ws:List Wd)(pl:Nat->Nat)(B H rb:Nat)(w:Û)(q:Nat)(pv:Bool)(acc:List (List Td))(v:Value)(wr:Û):Prop where
 rd:Ry K ws pl rb q wr
 o:bR (rb+1) v acc wr
 b0:wr.heap[H]?=Ä (Á #[v] 28 (0,0))
 b1:wr.heap[H+1]?=Ä (Á #[Ð Ñ 0] 3 (0,0))
 b2:wr.heap[H+2]?=Ä (Á #[É] 43 (0,0))
 bl:Î B w wr
 pg:∀r,PG pv acc (ws.drop q) r->PG false [] ws r
 nx:pv=true->∀x,ws[q]?=Ä x->x.headD 0≠35
 nl:ſ acc<=q
 sz:rb<wr.heap.size
theorem L7(w:Û)(a b c d):((((w.alloc a).alloc b).alloc c).alloc d).heap[w.heap.size]?=Ä a/\((((w.alloc a).alloc b).alloc c).alloc d).heap[w.heap.size+1]?=Ä b/\((((w.alloc a).alloc b).alloc c).alloc d).heap[w.heap.size+2]?=Ä c:=by
 have C:(w.alloc a).heap.size=w.heap.size+1:=Ã ..;have D:((w.alloc a).alloc b).heap.size=w.heap.size+2:=by rw[Ã,C]
 have E:(((w.alloc a).alloc b).alloc c).heap.size=w.heap.size+3:=by rw[Ã,D]
 have A:=Í (w.alloc a) b;have B:=Í ((w.alloc a).alloc b) c;rw[C]at A;rw[D]at B;exact⟨(Ï _ _ _ (by omega)).trans ((Ï _ _ _ (by omega)).trans ((Ï _ _ _ (by omega)).trans (Í w a))),(Ï _ _ _ (by omega)).trans ((Ï _ _ _ (by omega)).trans A),(Ï _ _ _ (by omega)).trans B⟩
theorem ak.undrew{B b w A}(h:ak B b w.drew A):ak B b w A:=⟨h.os,h.tape,h.output,h.size,h.block⟩
section
variable {K:ew} {ws:List Wd} {pl:Nat→Nat} {B H rb:Nat} {w wr:Û} {q:Nat} {pv:Bool} {acc:List (List Td)} {A:Option Addr} {n c:Nat}
structure sL(K:ew)(ws:List Wd)(pl:Nat->Nat)(B H rb:Nat)(w:Û)(q:Nat)(pv:Bool)(acc:List (List Td))(v:Value)(t:List Td)(g c4:Nat)(w4:Û):Prop where
 rd:Ry K ws pl rb q w4
 o:bR (rb+1) v acc w4
 tt:au (rb+1) (À (Ä ⟨g,0,Ç⟩) (ſ t) c4) t w4
 b0:w4.heap[H]?=Ä (Á #[v] 28 (0,0))
 b1:w4.heap[H+1]?=Ä (Á #[Ð Ñ 0] 3 (0,0))
 b2:w4.heap[H+2]?=Ä (Á #[É] 43 (0,0))
 bl:Î B w w4
 pg:∀r,PG pv (acc++[t]) (ws.drop q) r->PG false [] ws r
 nx:pv=true->∀x,ws[q]?=Ä x->x.headD 0≠35
 nl:ſ acc+1<=q
 sz:rb<w4.heap.size
theorem yU{O P t}{g N:Nat}{M}(h:sM K ws pl B H rb w q pv acc (À A n c) wr)(S:H+4<=rb)(D:B<=rb)(L:yB K ws pl rb q wr.drew P O t (À g (ſ t) N) M):sL K ws pl B H rb w P O acc (À A n c) t g N M:=by
 have J:=h.sz;have I:wr.heap.size<=M.heap.size:=L.bt.size;have C:ak wr rb wr M:=L.bt.undrew;have E:=L.lt;have G:=h.nl;refine⟨L.rd,h.o.but C (by omega),L.o.down (by show rb+1<=wr.heap.size;omega),(C.block _ (by omega) (by omega)).trans h.b0,(C.block _ (by omega) (by omega)).trans h.b1,(C.block _ (by omega) (by omega)).trans h.b2,h.bl.trans (C.low (by omega) D),λr R=>h.pg r (L.pg pv acc r h.nx R),L.nx,by omega,by omega⟩
theorem uk{t g Z U V W X O}(h:sL K ws pl B H rb w q pv acc (À A n c) t g Z U)(i:H+4<=rb)(M:B<=rb)(G:B<=H)(P:K.gw<rb)(N:K.ga<rb)(d:bR (rb+1) (À W (n+1) X) (acc++[t]) V)(Y:(U.alloc O).grownBy V (À A n c).ownBlock):sM K ws pl B H rb w q pv (acc++[t]) (À W (n+1) X) (V.setCell H (À W (n+1) X)):=by
 have S:=h.sz;have R:(U.alloc O).heap.size=U.heap.size+1:=Ã ..;have C:Î (rb+1) U V:=((aC U O).mono (by omega)).grown Y (by omega) (λk b=>h.o.own_le b);have D:∀j,j≠H->(V.setCell H (À W (n+1) X)).heap[j]?=V.heap[j]?:=λj a=>Õ _ _ _ _ a
 have I:=(C.block _ (by omega)).trans h.b0;have Q:=Y.size;have E:=gI h.b0
 have J:H≠K.gw:=λe=>by
  have:=h.rd.wd 0 (Þ _)
  rw[<-e,E]at this;cases this
 have L:H≠K.ga:=λe=>by
  have:=h.rd.pt 0 (Þ _)
  rw[<-e,E]at this;cases this
 refine⟨(h.rd.keepB C (by omega) (by omega) (by omega)).far (by omega) J L,d.kept λj f _=>D j (by omega),?_,(D _ (by omega)).trans ((C.block _ (by omega)).trans h.b1),(D _ (by omega)).trans ((C.block _ (by omega)).trans h.b2),(h.bl.trans (C.mono (by omega))).setCell (p:=⟨H,0,Ç⟩) G _,h.pg,h.nx,by rw[Ê];exact h.nl,by rw[Ë];omega⟩;simp[World.setCell,Array.getElem?_modify,I]
end
inductive mq (ws:List Wd) (pl:Nat->Nat) (B:Nat) (w:Û):Ending->Û->Prop where
 | ok {qs A c w'} (pg:PG false [] ws (.ok qs)) (hp:bP w' A qs) (hc:ſ qs<=c) (hb:Î B w w'):mq ws pl B w (Ô (Ú #[À A (ſ qs) c,Ð Ñ 0,É])) w'
 | bad {u w'} (pg:PG false [] ws (.bad u)) (hb:Î B w w'):mq ws pl B w (Ô (Ú #[À Ç 0 0,Ð Ñ (pl (ſ ws-ſ u):Int),Ø 50 (Ð Ñ 5)])) w'
theorem TC{B A P ac pc ws ps}{k:Nat}{w}(Bp:∀x∈ws,dR x)(An:(ws.map æ).sum<=60000)(Am:ſ ws<=60000)(Bk:ſ ps=ſ ws)(hB:B<=w.heap.size)
  (h1:cP B (À A (ſ ws) ac) (ws.map ab) w) (h2:jm B (À P (ſ ws) pc) ps w) (hT:∀a,Î B w a->eo a):
  ç prog 86 #[À A (ſ ws) ac,À P (ſ ws) pc,Ð Ñ (k:Int)] w λe a=>mq ws (eO ps k) B w e a:=by
 have B6:∀(fn:Fn)(first cap:Array Value)(w:Û),(Instr.makeFunc fn first cap).run prog w=.ok (.func fn first cap) w:=λ_ _ _ _=>rfl
 have HT:=aa hT;have A9:=aa Bp;have Bv:=aa An;have H1:=aa h1;have H2:=aa (So h2);have A2:Hid (ſ ps=ſ ws):=Bk;clear hT Bp An h1 h2 Bk;generalize Av:ſ ws=nl at H1 H2;have Ag:Hid (ſ ws=nl):=Av;rw[Av]at Am;clear Av;have A0:Hid ((ws.map ab).length=nl):=(show _=_ by rw[ß];exact Ag.o);go_enter_defers func86,ntmps86;have Ao:Hid (cP B (À A nl ac) (ws.map ab) ((((w.alloc (Á #[À Ç 0 0] 28)).alloc (Á #[Ð Ñ 0] 3)).alloc (Á #[É] 43)).alloc (Á #[Ö ⟨#[]⟩] 9))):=gN (gN (gN (gN H1.o (aC _ _)) (aC _ _)) (aC _ _)) (aC _ _);have A7:Hid (mo B (À P nl pc) (ps.map λ(k:Nat)=>(k:Int)) ((((w.alloc (Á #[À Ç 0 0] 28)).alloc (Á #[Ð Ñ 0] 3)).alloc (Á #[É] 43)).alloc (Á #[Ö ⟨#[]⟩] 9))):=gN (gN (gN (gN H2.o (aC _ _)) (aC _ _)) (aC _ _)) (aC _ _)
 have Bb:Hid (bN ((((w.alloc (Á #[À Ç 0 0] 28)).alloc (Á #[Ð Ñ 0] 3)).alloc (Á #[É] 43)).alloc (Á #[Ö ⟨#[]⟩] 9)) (Ä ⟨w.heap.size+1+1+1,0,Ç⟩) [⟨#[]⟩]):=by
  intro i hi;have As:i=0:=by simp at hi;omega
  subst As;refine⟨w.heap.size+1+1+1,0,rfl,by simp,?_⟩;simp[go_sem]
 have Ay:Hid (Î w w ((((w.alloc (Á #[À Ç 0 0] 28)).alloc (Á #[Ð Ñ 0] 3)).alloc (Á #[É] 43)).alloc (Á #[Ö ⟨#[]⟩] 9))):=(((Zb.alloc Zl _).alloc (by simp) _).alloc (by simp;omega) _).alloc (by simp;omega) _;have Ab:Hid (((((w.alloc (Á #[À Ç 0 0] 28)).alloc (Á #[Ð Ñ 0] 3)).alloc (Á #[É] 43)).alloc (Á #[Ö ⟨#[]⟩] 9)).heap.size=w.heap.size+1+1+1+1):=(show _=_ by simp);go_wp2_with(at_builtin;refine uF rfl _ _ rfl B _ (ws.map ab) rfl Ao.o (Ä ⟨w.heap.size+1+1+1,0,Ç⟩) 1 [⟨#[]⟩] rfl 1 rfl Bb.o (λe=>by cases e) (nl+1) (by rw[A0.o]) (by omega) (by rw[Ab.o];omega) ?_);intro A5 c5 Y Ae L;have At:∀a,(À A nl ac).ownBlock=Ä a->B<=a/\a<w.heap.size:=λk' hk=>World.ownsRow.lt H1.o k' hk
 have Au:∀a,(À P nl pc).ownBlock=Ä a->B<=a/\a<w.heap.size:=λk' hk=>World.ownsRow.lt H2.o k' hk
 have Bn:=L.size;rw[Ab.o]at Bn;have O:∀j,w.heap.size<=j->j<w.heap.size+4->Y.heap[j]?=((((w.alloc (Á #[À Ç 0 0] 28)).alloc (Á #[Ð Ñ 0] 3)).alloc (Á #[É] 43)).alloc (Á #[Ö ⟨#[]⟩] 9)).heap[j]?:=λj h1 h2=>L.block j (by rw[Ab.o];omega) (λe=>by have:=(At j e.symm).2;omega)
 have Aj:Hid (Y.heap[w.heap.size]?=Ä (Á #[À Ç 0 0] 28 (0,0))/\Y.heap[w.heap.size+1]?=Ä (Á #[Ð Ñ 0] 3 (0,0))/\Y.heap[w.heap.size+2]?=Ä (Á #[É] 43 (0,0))):=by
  obtain⟨e1,e2,e3⟩:=L7 w (Á #[À Ç 0 0] 28) (Á #[Ð Ñ 0] 3) (Á #[É] 43) (Á #[Ö ⟨#[]⟩] 9);exact⟨(O _ (by omega) (by omega)).trans e1,(O _ (by omega) (by omega)).trans e2,(O _ (by omega) (by omega)).trans e3⟩
 have Az:Hid (Î B w Y):=(Ay.o.mono hB).grown L (by rw[Ab.o];omega) (λa b=>(At a b).1);have A1:Hid (cP B (À A5 (nl+1) c5) (ws.map ab++[⟨#[]⟩]) (Y.alloc (Á #[Ð Ñ (k:Int)] 3))):=gN Ae (aC _ _);have Ap:Hid (mo B (À P nl pc) (ps.map λ(k:Nat)=>(k:Int)) (Y.alloc (Á #[Ð Ñ (k:Int)] 3))):=gN (AM A7.o Ao.o (by decide) L) (aC _ _)
 have Bc:Hid (eE (Y.alloc (Á #[Ð Ñ (k:Int)] 3)) (Ä ⟨Y,0,Ç⟩) [(k:Int)]):=by
  intro i hi;have As:i=0:=by simp at hi;omega
  subst As;refine⟨Y.heap.size,0,rfl,by simp,?_⟩;simp[go_sem]
 have Ac:Hid ((Y.alloc (Á #[Ð Ñ (k:Int)] 3)).heap.size=Y.heap.size+1):=Ã ..;have A3:Hid ((ps.map λ(k:Nat)=>(k:Int)).length=nl):=(show _=_ by rw[ß,A2.o,Ag.o]);clear Ae L O Ao A7 Bb Ay Ab;go_wp2_with(at_builtin;refine TI rfl _ _ rfl B _ (ps.map λ(k:Nat)=>(k:Int)) rfl Ap.o (Ä ⟨Y,0,Ç⟩) 1 [(k:Int)] rfl 1 rfl Bc.o (λe=>by cases e) (nl+1) (by rw[A3.o]) (by omega) (by rw[Ac.o];omega) ?_);intro P7 c7 w7 Af M;have Bo:=M.size;rw[Ac.o]at Bo;have Bh:=AM A1.o Ap.o (by decide) M;obtain⟨gw,ga,rfl,rfl,B5,B4,Br,Bq,Bm⟩:=Vl Ag.o Am A2.o Bh Af;have s:∀j,w.heap.size<=j->j<w.heap.size+4->w7.heap[j]?=Y.heap[j]?:=λj h1 h2=>(M.block j (by rw[Ac.o];omega) (λe=>by have:=(Au j e.symm).2;omega)).trans (Ï Y _ j (by omega))
 have Ba:Hid (sM ⟨gw,c5,ga,c7⟩ ws (eO ps k) B w.heap.size w7.heap.size w 0 false [] (À Ç 0 0) (w7.alloc (Á #[À (Ä ⟨gw,0,Ç⟩) (nl+1) c5,À (Ä ⟨ga,0,Ç⟩) (nl+1) c7] 181))):=by
  have Ar:∀j,w.heap.size<=j->j<w.heap.size+4->(w7.alloc (Á #[À (Ä ⟨gw,0,Ç⟩) (nl+1) c5,À (Ä ⟨ga,0,Ç⟩) (nl+1) c7] 181)).heap[j]?=Y.heap[j]?:=λj h1 h2=>(Ï w7 _ j (by omega)).trans (s j h1 h2)
  refine⟨Bm,bR.nil _ _,(Ar _ (by omega) (by omega)).trans Aj.o.1,(Ar _ (by omega) (by omega)).trans Aj.o.2.1,(Ar _ (by omega) (by omega)).trans Aj.o.2.2,?_,λr hr=>hr,(λe=>by cases e),Þ _,by rw[Ã];omega⟩;have Bw:Î B w w7:=(Az.o.alloc (by omega) _).grown M (by rw[Ac.o];omega) (λa b=>(Au a b).1);exact Bw.alloc (by omega) _
 have hH:w.heap.size+4<=w7.heap.size:=by omega
 clear Af M Bh Bm s Aj Az A1 Ap Bc Ac A3 H1 H2 A0;have m:gw<w7.heap.size:=Br;have d:ga<w7.heap.size:=Bq;have V:B<=w7.heap.size:=by omega
 have Ak:B<=w.heap.size:=hB;go_wp2_with fail;generalize Bl:w7.heap.size=rb at Ba hH m d V;have B3:Hid (w7.heap.size=rb):=Bl;clear Bl Br Bq At Au Bn Bo
 go_loopw [19] (λ_ wr=>∃(q:Nat)(pv:Bool)(I:List (List Td))(A:Option Addr)(n c:Nat),ſ I=n/\sM ⟨gw,c5,ga,c7⟩ ws (eO ps k) B w.heap.size rb w q pv I (À A n c) wr) (λ_ wr=>nU wr rb)
 case atStart=>exact⟨0,false,[],Ç,0,0,rfl,Ba.o⟩
 case round=>
  obtain⟨q,pv,I,A,n,c,b,X⟩:=hrel;have a:=aa X;have Z:Hid (ſ I=n):=b;have B1:=X.rd.le;have Bg:=X.nl;rw[b]at Bg;have B8:=X.sz;have e0:=gI X.b0;have f0:wr.frozen? ⟨w,0,Ç⟩=false:=Æ X.b0 0;have z:Hid (Cw 117 #[Â (Ä ⟨rb,0,Ç⟩)] wr (Ö (ab (ws.getD q [])))):=(oB X.rd).mono λ_ _ h=>⟨h.1,h.2.symm⟩
  have B2:=Ag.o;by_cases hq:q<ſ ws
  .rw[iY hq]at z
   have Be:¬(ab ws[q]).toList=[]:=by
    rw[ã];exact yv (A9.o _ (List.getElem_mem hq))
   have Bf:((ab ws[q]).toList==[])=false:=by
    cases h:((ab ws[q]).toList==[])with
    | false=>rfl
    | true=>exact absurd (by simpa using h) Be
   have B0:(⟨#[]⟩:ByteArray).toList=[]:=by rw[ã]
   have A8:Hid (Cp 118 #[Â (Ä ⟨rb,0,Ç⟩)] wr.drew λe a=>fD ⟨gw,c5,ga,c7⟩ ws (eO ps k) rb q wr.drew e a):=TD A9.o Bv.o hq (λa b=>HT.o a (X.bl.trans ((show ak wr rb wr a from b.undrew).low (by omega) V))) (X.rd.keep (ê Zb));generalize ab ws[q]=S at z Be Bf;clear X b;go_wp2_with fail;refine an z.o ?_;go_wp2_with fail;refine wp_region_any (by kernel_rfl) ?_
   try (change wpAny _ _ _ _ _ _ _ (World.drew _))
   refine Ì (rs:=[0,1]) (by kernel_rfl) (by simp) ?_;refine AllReady.cons rfl (λK hK=>?_) (AllReady.cons rfl (λK hK=>?_) AllReady.nil)
   .go_simp
    refine hK _ _ ?_;clear hK K;refine Ì (rs:=[1]) (by kernel_rfl) (by simp) ?_;refine AllReady.cons rfl (λK hK=>?_) AllReady.nil
    go_simp
    refine A8.o.mono ?_;intro e E hG;cases hG with
    | @bad u4 _ pg4 bt4=>
     have Aw:wr.heap.size<=E.heap.size:=bt4.size;have Q:ak wr rb wr E:=bt4.undrew;have x0:E.heap[w.heap.size]?=Ä (Á #[À A n c] 28 (0,0)):=(Q.block _ (by omega) (by omega)).trans a.o.b0;have x1:E.heap[w.heap.size+1]?=Ä (Á #[Ð Ñ 0] 3 (0,0)):=(Q.block _ (by omega) (by omega)).trans a.o.b1;have x2:E.heap[w.heap.size+2]?=Ä (Á #[É] 43 (0,0)):=(Q.block _ (by omega) (by omega)).trans a.o.b2;have Ad:Î B w E:=a.o.bl.trans (Q.low (by omega) V)
     have Aa:Hid (è prog 116 #[Â (Ä ⟨w,0,Ç⟩),Â (Ä ⟨w.heap.size+1,0,Ç⟩),Â (Ä ⟨w.heap.size+1+1,0,Ç⟩)] (.panicking [cD (eO ps k (ſ ws-ſ u4))]) E λe a b=>e=Ô (Ú #[])/\a=.panicking [{v:=Ø 178 (é #[Ð Ñ (eO ps k (ſ ws-ſ u4):Int)]),recovered:=true}]/\b.cell? ⟨w,0,Ç⟩=Ä (À Ç 0 0)/\b.cell? ⟨w.heap.size+1,0,Ç⟩=Ä (Ð Ñ (eO ps k (ſ ws-ſ u4):Int))/\b.cell? ⟨w.heap.size+1+1,0,Ç⟩=Ä (Ø 50 (Ð Ñ 5))/\mq ws (eO ps k) B w (Ô (Ú #[À Ç 0 0,Ð Ñ (eO ps k (ſ ws-ſ u4):Int),Ø 50 (Ð Ñ 5)])) b):=by
      refine(Jk w.heap.size (w.heap.size+1) (w.heap.size+1+1) _ E _ _ _ (by rw[È x0];rfl) (by rw[È x1];rfl) (by rw[È x2];rfl) (Æ x0 0) (Æ x1 0) (Æ x2 0) (by omega) (by omega) (by omega) (by omega) (by omega) (by omega)).mono ?_;rintro e u' w'⟨r1,r2,r3,r4,r5,r6⟩;exact⟨r1,r2,r3,r4,r5,.bad (a.o.pg _ (pg4 pv I)) (Ad.trans (r6 B (by omega) (by omega) (by omega)))⟩
     clear Q x0 x1 x2 Ad pg4 bt4 hK;generalize eO ps k (ſ ws-ſ u4)=pp at Aa⊢;go_wp2;refine á (f:=116) (args:=#[Â (Ä ⟨w,0,Ç⟩),Â (Ä ⟨w.heap.size+1,0,Ç⟩),Â (Ä ⟨w.heap.size+1+1,0,Ç⟩)]) (by simp) (by simp[go_sem]) ?_;refine Aa.o.mono ?_;rintro e u' w'⟨rfl,rfl,r3,r4,r5,r6⟩;simp[Leaves,settle,results,Tryz.results86,go_sem,r3,r4,r5];exact r6
    | @ok q4 n4 t A4 c4 _ hg=>
     obtain⟨g,rfl⟩:∃g,A4=Ä ⟨g,0,Ç⟩:=by
      cases t with
      | nil=>exact absurd rfl hg.ne
      | cons y r=>exact tE hg.o
     have D:Hid (sL ⟨gw,c5,ga,c7⟩ ws (eO ps k) B w.heap.size rb w q4 n4 I (À A n c) t g c4 E):=yU a.o hH V hg;have Ah:Hid (q<q4/\q4<=ſ ws):=⟨hg.lt,hg.rd.le⟩;have Aw:=D.o.sz;have e4:=gI D.o.b0;have Bz:w.heap.size<E.heap.size:=by omega
     have Ax:=hg.l;generalize R:ſ t=tl at Ax;have Ai:Hid (ſ t=tl):=R
     have U:Hid (bR (rb+1) (À A n c) I (E.alloc (Á #[À (Ä ⟨g,0,Ç⟩) tl c4] 82))/\au (rb+1) (À (Ä ⟨g,0,Ç⟩) tl c4) t (E.alloc (Á #[À (Ä ⟨g,0,Ç⟩) tl c4] 82))/\(E.alloc (Á #[À (Ä ⟨g,0,Ç⟩) tl c4] 82)).cell? ⟨E,0,Ç⟩=Ä (À (Ä ⟨g,0,Ç⟩) tl c4)):=by
      have h8:=sa D.o.o D.o.tt;rw[R]at h8;exact h8
     clear hg R;refine hK _ _ ?_;clear hK K;refine Ì (rs:=[2]) (by kernel_rfl) (by simp) ?_;refine AllReady.cons rfl (λK hK=>?_) AllReady.nil
     go_simp
     refine hK _ _ ?_;clear hK K;refine Ì (rs:=[3]) (by kernel_rfl) (by simp) ?_;refine AllReady.cons rfl (λK hK=>?_) AllReady.nil;refine wb rfl _ _ rfl (rb+1) (À A n c) I rfl U.o.1 E.heap.size g tl c4 t Ai.o rfl U.o.2.2 U.o.2.1 (n+1) (by rw[Z.o]) (by omega) (by rw[Ã];omega) ?_;intro A6 c6 u H C;have J:=uk D.o hH V Ak m d H C;have N:=aa J
     have d6:u.cell? ⟨w,0,Ç⟩=Ä (À A n c):=by
      have G:Î (rb+1) E u:=((aC E _).mono (by omega)).grown C (by rw[Ã];omega) (λk a=>D.o.o.own_le a);rw[È ((G.block _ (by omega)).trans D.o.b0)];rfl
     have f6:u.frozen? ⟨w,0,Ç⟩=false:=by
      have G:Î (rb+1) E u:=((aC E _).mono (by omega)).grown C (by rw[Ã];omega) (λk a=>D.o.o.own_le a);exact Æ ((G.block _ (by omega)).trans D.o.b0) 0
     clear J H C;refine hK _ _ ?_;clear hK K;refine Ì (rs:=[4]) (by kernel_rfl) (by simp) ?_;refine AllReady.cons rfl (λK hK=>?_) AllReady.nil
     go_simp
     refine hK _ _ ?_;clear hK K;refine ä (by kernel_rfl) ?_ _;go_wp2;refine⟨⟨_,_,I++[t],A6,n+1,c6,by rw[Ê,Z.o];rfl,N.o⟩,?_⟩;rw[N.o.rd.len_eq,a.o.rd.len_eq]
     have:=Ah.o
     omega
   .go_simp
    refine A8.o.mono ?_;intro e E hG;cases hG with
    | @bad u4 _ pg4 bt4=>
     have Aw:wr.heap.size<=E.heap.size:=bt4.size;have Q:ak wr rb wr E:=bt4.undrew;have x0:E.heap[w.heap.size]?=Ä (Á #[À A n c] 28 (0,0)):=(Q.block _ (by omega) (by omega)).trans a.o.b0;have x1:E.heap[w.heap.size+1]?=Ä (Á #[Ð Ñ 0] 3 (0,0)):=(Q.block _ (by omega) (by omega)).trans a.o.b1;have x2:E.heap[w.heap.size+2]?=Ä (Á #[É] 43 (0,0)):=(Q.block _ (by omega) (by omega)).trans a.o.b2;have Ad:Î B w E:=a.o.bl.trans (Q.low (by omega) V)
     have Aa:Hid (è prog 116 #[Â (Ä ⟨w,0,Ç⟩),Â (Ä ⟨w.heap.size+1,0,Ç⟩),Â (Ä ⟨w.heap.size+1+1,0,Ç⟩)] (.panicking [cD (eO ps k (ſ ws-ſ u4))]) E λe a b=>e=Ô (Ú #[])/\a=.panicking [{v:=Ø 178 (é #[Ð Ñ (eO ps k (ſ ws-ſ u4):Int)]),recovered:=true}]/\b.cell? ⟨w,0,Ç⟩=Ä (À Ç 0 0)/\b.cell? ⟨w.heap.size+1,0,Ç⟩=Ä (Ð Ñ (eO ps k (ſ ws-ſ u4):Int))/\b.cell? ⟨w.heap.size+1+1,0,Ç⟩=Ä (Ø 50 (Ð Ñ 5))/\mq ws (eO ps k) B w (Ô (Ú #[À Ç 0 0,Ð Ñ (eO ps k (ſ ws-ſ u4):Int),Ø 50 (Ð Ñ 5)])) b):=by
      refine(Jk w.heap.size (w.heap.size+1) (w.heap.size+1+1) _ E _ _ _ (by rw[È x0];rfl) (by rw[È x1];rfl) (by rw[È x2];rfl) (Æ x0 0) (Æ x1 0) (Æ x2 0) (by omega) (by omega) (by omega) (by omega) (by omega) (by omega)).mono ?_;rintro e u' w'⟨r1,r2,r3,r4,r5,r6⟩;exact⟨r1,r2,r3,r4,r5,.bad (a.o.pg _ (pg4 pv I)) (Ad.trans (r6 B (by omega) (by omega) (by omega)))⟩
     clear Q x0 x1 x2 Ad pg4 bt4 hK;generalize eO ps k (ſ ws-ſ u4)=pp at Aa⊢;go_wp2;refine á (f:=116) (args:=#[Â (Ä ⟨w,0,Ç⟩),Â (Ä ⟨w.heap.size+1,0,Ç⟩),Â (Ä ⟨w.heap.size+1+1,0,Ç⟩)]) (by simp) (by simp[go_sem]) ?_;refine Aa.o.mono ?_;rintro e u' w'⟨rfl,rfl,r3,r4,r5,r6⟩;simp[Leaves,settle,results,Tryz.results86,go_sem,r3,r4,r5];exact r6
    | @ok q4 n4 t A4 c4 _ hg=>
     obtain⟨g,rfl⟩:∃g,A4=Ä ⟨g,0,Ç⟩:=by
      cases t with
      | nil=>exact absurd rfl hg.ne
      | cons y r=>exact tE hg.o
     have D:Hid (sL ⟨gw,c5,ga,c7⟩ ws (eO ps k) B w.heap.size rb w q4 n4 I (À A n c) t g c4 E):=yU a.o hH V hg;have Ah:Hid (q<q4/\q4<=ſ ws):=⟨hg.lt,hg.rd.le⟩;have Aw:=D.o.sz;have e4:=gI D.o.b0;have Bz:w.heap.size<E.heap.size:=by omega
     have Ax:=hg.l;generalize R:ſ t=tl at Ax;have Ai:Hid (ſ t=tl):=R
     have U:Hid (bR (rb+1) (À A n c) I (E.alloc (Á #[À (Ä ⟨g,0,Ç⟩) tl c4] 82))/\au (rb+1) (À (Ä ⟨g,0,Ç⟩) tl c4) t (E.alloc (Á #[À (Ä ⟨g,0,Ç⟩) tl c4] 82))/\(E.alloc (Á #[À (Ä ⟨g,0,Ç⟩) tl c4] 82)).cell? ⟨E,0,Ç⟩=Ä (À (Ä ⟨g,0,Ç⟩) tl c4)):=by
      have h8:=sa D.o.o D.o.tt;rw[R]at h8;exact h8
     clear hg R;refine hK _ _ ?_;clear hK K;refine Ì (rs:=[0,2]) (by kernel_rfl) (by simp) ?_;refine AllReady.cons rfl (λK hK=>?_) (AllReady.cons rfl (λK hK=>?_) AllReady.nil)
     .go_simp
      refine hK _ _ ?_;clear hK K;refine Ì (rs:=[2]) (by kernel_rfl) (by simp) ?_;refine AllReady.cons rfl (λK hK=>?_) AllReady.nil
      go_simp
      refine hK _ _ ?_;clear hK K;refine Ì (rs:=[3]) (by kernel_rfl) (by simp) ?_;refine AllReady.cons rfl (λK hK=>?_) AllReady.nil;refine wb rfl _ _ rfl (rb+1) (À A n c) I rfl U.o.1 E.heap.size g tl c4 t Ai.o rfl U.o.2.2 U.o.2.1 (n+1) (by rw[Z.o]) (by omega) (by rw[Ã];omega) ?_;intro A6 c6 u H C;have J:=uk D.o hH V Ak m d H C;have N:=aa J
      have d6:u.cell? ⟨w,0,Ç⟩=Ä (À A n c):=by
       have G:Î (rb+1) E u:=((aC E _).mono (by omega)).grown C (by rw[Ã];omega) (λk a=>D.o.o.own_le a);rw[È ((G.block _ (by omega)).trans D.o.b0)];rfl
      have f6:u.frozen? ⟨w,0,Ç⟩=false:=by
       have G:Î (rb+1) E u:=((aC E _).mono (by omega)).grown C (by rw[Ã];omega) (λk a=>D.o.o.own_le a);exact Æ ((G.block _ (by omega)).trans D.o.b0) 0
      clear J H C;refine hK _ _ ?_;clear hK K;refine Ì (rs:=[4]) (by kernel_rfl) (by simp) ?_;refine AllReady.cons rfl (λK hK=>?_) AllReady.nil
      go_simp
      refine hK _ _ ?_;clear hK K;refine ä (by kernel_rfl) ?_ _;go_wp2;refine⟨⟨_,_,I++[t],A6,n+1,c6,by rw[Ê,Z.o];rfl,N.o⟩,?_⟩;rw[N.o.rd.len_eq,a.o.rd.len_eq]
      have:=Ah.o
      omega
     .go_simp
      refine hK _ _ ?_;clear hK K;refine Ì (rs:=[0]) (by kernel_rfl) (by simp) ?_;refine AllReady.cons rfl (λK hK=>?_) AllReady.nil
      go_simp
      refine hK _ _ ?_;clear hK K;refine Ì (rs:=[3]) (by kernel_rfl) (by simp) ?_;refine AllReady.cons rfl (λK hK=>?_) AllReady.nil;refine wb rfl _ _ rfl (rb+1) (À A n c) I rfl U.o.1 E.heap.size g tl c4 t Ai.o rfl U.o.2.2 U.o.2.1 (n+1) (by rw[Z.o]) (by omega) (by rw[Ã];omega) ?_;intro A6 c6 u H C;have J:=uk D.o hH V Ak m d H C;have N:=aa J
      have d6:u.cell? ⟨w,0,Ç⟩=Ä (À A n c):=by
       have G:Î (rb+1) E u:=((aC E _).mono (by omega)).grown C (by rw[Ã];omega) (λk a=>D.o.o.own_le a);rw[È ((G.block _ (by omega)).trans D.o.b0)];rfl
      have f6:u.frozen? ⟨w,0,Ç⟩=false:=by
       have G:Î (rb+1) E u:=((aC E _).mono (by omega)).grown C (by rw[Ã];omega) (λk a=>D.o.o.own_le a);exact Æ ((G.block _ (by omega)).trans D.o.b0) 0
      clear J H C;refine hK _ _ ?_;clear hK K;refine Ì (rs:=[4]) (by kernel_rfl) (by simp) ?_;refine AllReady.cons rfl (λK hK=>?_) AllReady.nil
      go_simp
      refine hK _ _ ?_;clear hK K;refine ä (by kernel_rfl) ?_ _;go_wp2;refine⟨⟨_,_,I++[t],A6,n+1,c6,by rw[Ê,Z.o];rfl,N.o⟩,?_⟩;rw[N.o.rd.len_eq,a.o.rd.len_eq]
      have:=Ah.o
      omega
  .have B7:q=ſ ws:=by omega
   rw[mN (by omega)]at z;have Al:ab []=⟨#[]⟩:=rfl;rw[Al]at z;have Bd:ws.drop q=[]:=List.drop_eq_nil_of_le (by omega);have Bj:=X.pg _ (by rw[Bd];exact .done);have x1:=X.b1;have x2:=X.b2;have e1:=gI x1;have e2:=gI x2;have f1:=Æ x1 0;have f2:=Æ x2 0;have Bu:=aa X.o;have Bs:=aa X.bl;have Bt:=aa Bj;clear X b Bd Bj Al x1 x2;go_wp2_with fail;refine an z.o ?_;go_wp2;generalize hW:((wr.setCell ⟨w,0,Ç⟩ (À A n c)).setCell ⟨w.heap.size+1,0,Ç⟩ (Ð Ñ 0)).setCell ⟨w.heap.size+1+1,0,Ç⟩ É=W;have hz:W.heap.size=wr.heap.size:=by rw[<-hW,Ë,Ë,Ë]
   have r1:W.cell? ⟨w,0,Ç⟩=Ä (À A n c):=by
    rw[<-hW];exact(af (.inl (by omega))).trans ((af (.inl (by omega))).trans (cF e0))
   have r2:W.cell? ⟨w.heap.size+1,0,Ç⟩=Ä (Ð Ñ 0):=by
    rw[<-hW];exact(af (.inl (by omega))).trans (cF ((af (.inl (by omega))).trans e1))
   have r3:W.cell? ⟨w.heap.size+1+1,0,Ç⟩=Ä É:=by
    rw[<-hW];exact cF ((af (.inl (by omega))).trans ((af (.inl (by omega))).trans e2))
   have By:∀j,rb+1<=j->W.heap[j]?=wr.heap[j]?:=λj hj=>by
    rw[<-hW];exact(Õ _ _ _ _ (by show j≠w.heap.size+1+1;omega)).trans ((Õ _ _ _ _ (by show j≠w.heap.size+1;omega)).trans (Õ _ _ _ _ (by show j≠w.heap.size;omega)))
   have Bx:Î B w W:=by
    rw[<-hW];exact((Bs.o.setCell (p:=⟨w,0,Ç⟩) Ak _).setCell (p:=⟨w.heap.size+1,0,Ç⟩) (by show B<=w.heap.size+1;omega) _).setCell (p:=⟨w.heap.size+1+1,0,Ç⟩) (by show B<=w.heap.size+1+1;omega) _
   have Bi:=Bu.o.kept λj h1 _=>By j h1
   clear hW;refine á (f:=116) (args:=#[Â (Ä ⟨w,0,Ç⟩),Â (Ä ⟨w.heap.size+1,0,Ç⟩),Â (Ä ⟨w.heap.size+1+1,0,Ç⟩)]) (by simp) (by simp[go_sem]) ?_;refine(M5 ⟨w,0,Ç⟩ ⟨w.heap.size+1,0,Ç⟩ ⟨w.heap.size+1+1,0,Ç⟩ W).mono ?_;rintro e u' w'⟨rfl,rfl,bW⟩;obtain⟨Aq,_⟩:=a9 bW;have q1:=(Aq w.heap.size 0 (by omega)).trans r1;have q2:=(Aq (w.heap.size+1) 0 (by omega)).trans r2;have q3:=(Aq (w.heap.size+1+1) 0 (by omega)).trans r3
   have J:mq ws (eO ps k) B w (Ô (Ú #[À A n c,Ð Ñ 0,É])) w':=by
    have hn:=Z.o;subst hn;exact .ok Bt.o (Bi.prg.W bW) Bi.cell.2.1 (Bx.trans (bW.mono (by omega)))
   simp[Leaves,settle,results,Tryz.results86,go_sem,q1,q2,q3];exact J
theorem Se{w0 b xt xn y k}(hX:gQ w0 b y k)(hz:(ap y k.D).N.length<=1000)(h8:xt.size<=8)(w)(hW:eS w0 b (⟨7,xt,xn⟩::(y::(k.N++[]))) w):
  ç prog 225 #[Â b] w λe a=>bY w0 b w (gp ⟨7,xt,xn⟩ (ap y k.D)).N [] e a:=by
 have a:=aa (lI hW);have G:Hid (∀W,eS w0 b (y::(k.N++[])) W->Cp 247 #[Â b] W λe a=>bY w0 b W (ap y k.D).N [] e a):=λW hW=>hX [] W hW
 have E:Hid ((gp ⟨7,xt,xn⟩ (ap y k.D)).N=⟨8,⟨#[]⟩,0⟩::(⟨6,⟨#[]⟩,0⟩::([⟨1,(⟨#[108,101,116,32]⟩:ByteArray)++xt++(⟨#[32,61]⟩:ByteArray),0⟩]++(⟨7,⟨#[]⟩,2⟩::(⟨6,⟨#[]⟩,0⟩::([⟨2,⟨#[]⟩,0⟩]++(⟨6,⟨#[]⟩,0⟩::((ap y k.D).N++[⟨1,⟨#[59]⟩,0⟩])))))))):=by
  show _=_
  have q:ab ([108,101,116,32]++ae xt++[32,61])=(⟨#[108,101,116,32]⟩:ByteArray)++xt++(⟨#[32,61]⟩:ByteArray):=by
   have q1:ab [108,101,116,32]++ab (ae xt)=ab ([108,101,116,32]++ae xt):=bn _ _;have q2:ab ([108,101,116,32]++ae xt)++ab [32,61]=ab ([108,101,116,32]++ae xt++[32,61]):=bn _ _;rw[<-q2,<-q1];rfl
  rw[<-q];rfl
 generalize(gp ⟨7,xt,xn⟩ (ap y k.D)).N=R at E⊢
 generalize(ap y k.D).N=xs at G E hz
 generalize y::(k.N++[])=r0 at a G;go_in;go_wp2_with fail;refine ai a.o λw1 h1=>?_
 have M:Hid (∃K,w1.alloc (Á #[Ð Ñ 7,Ö xt,xn] 81)=K/\Lk w0 b w r0 K/\K.heap[w1.heap.size]?=Ä (Á #[Ð Ñ 7,Ö xt,xn] 81 (0,0))):=⟨_,rfl,h1.step (aC w1 _),Í w1 _⟩;have U:w1.heap.size≠b:=by have:=h1.in;omega
 go_wp2_with fail;obtain⟨K,X,V,Y⟩:=M.o;rw[X];have A:=aa V;have B:=aa Y;go_wp2_with fail;refine(G.o _ A.o.ly).mono ?_;rintro e w3 r;obtain⟨v3,rfl,z,i⟩:=r.val;replace A:=aa (A.o.then i);replace B:=aa ((i.bt.block _ (Å.1 B.o).1 U).trans B.o);have L:=aa z;go_wp2_with fail;refine(ja _ _).mono ?_;rintro e w4 s;obtain⟨v4,rfl,n4,P⟩:=s.valB A.o.in;replace A:=aa (A.o.step P);replace B:=aa ((P.block _ (Å.1 B.o).1).trans B.o);replace L:=aa (L.o.bel P);have o:=aa n4;go_wp2_with fail;refine(gW _ L.o.val o.o.val (by first|(simp;done)|(simp;omega))).mono ?_;rintro e w5 t;obtain⟨v5,rfl,n5,c⟩:=t.valB A.o.in;replace A:=aa (A.o.step c);replace B:=aa ((c.block _ (Å.1 B.o).1).trans B.o);have H:=aa n5;have d0:=gI B.o;have d1:=i7 B.o;go_wp2_with fail;refine(ja _ _).mono ?_;rintro e w6 u;obtain⟨v6,rfl,n6,d⟩:=u.valB A.o.in;replace A:=aa (A.o.step d);replace H:=aa (H.o.bel d);have C:=aa n6;go_wp2_with fail;refine(xB _).mono ?_;rintro e w7 v;obtain⟨v7,rfl,n7,Q⟩:=v.valB A.o.in;replace A:=aa (A.o.step Q);replace H:=aa (H.o.bel Q);replace C:=aa (C.o.bel Q);have j:=aa n7;go_wp2_with fail;refine(gW _ j.o.val H.o.val (by first|(simp;done)|(simp;omega))).mono ?_;rintro e w8 h8;obtain⟨v8,rfl,n8,f⟩:=h8.valB A.o.in;replace A:=aa (A.o.step f);replace C:=aa (C.o.bel f);have n:=aa n8;go_wp2_with fail;refine(xm _ n.o.val (by first|(simp;done)|(simp;omega))).mono ?_;rintro e w9 x;obtain⟨v9,rfl,n9,g⟩:=x.valB A.o.in;replace A:=aa (A.o.step g);replace C:=aa (C.o.bel g);have l:=aa n9;go_wp2_with fail;refine(gW _ C.o.val l.o.val (by first|(simp;done)|(simp;omega))).mono ?_;rintro e Ac S;obtain⟨Aa,rfl,Z,O⟩:=S.valB A.o.in;replace A:=aa (A.o.step O);have m:=aa Z;go_wp2_with fail;refine(xC _ m.o.val (by first|(simp;done)|(simp;omega))).mono ?_;rintro e J I
 have p:Hid (bY w0 b w R [] e J):=by
  have h:=I.gof A.o;show bY w0 b w R [] e J;rw[E.o];exact h
 obtain⟨Ab,rfl,_,_⟩:=I.val;go_wp2;go_ret;exact p.o
theorem UP{p b r q y k}(x:gQ p b y k)(z:(ap y k.D).N.length<=1000)(w)(t:eS p b (⟨8,r,q⟩::(y::(k.N++[]))) w):
  ç prog 225 #[Â b] w λe u=>bY p b w (gp ⟨8,r,q⟩ (ap y k.D)).N [] e u:=by
 have U:=aa (lI t);have E:Hid (∀W,eS p b (y::(k.N++[])) W->Cp 247 #[Â b] W λe u=>bY p b W (ap y k.D).N [] e u):=λW t=>x [] W t
 have B:Hid ((gp ⟨8,r,q⟩ (ap y k.D)).N=⟨6,⟨#[]⟩,0⟩::((ap y k.D).N++[⟨1,⟨#[59]⟩,0⟩])):=rfl
 generalize(gp ⟨8,r,q⟩ (ap y k.D)).N=R at B⊢
 generalize(ap y k.D).N=xs at E B z
 generalize y::(k.N++[])=r0 at U E;go_in;go_wp2_with fail;refine ai U.o λs v=>?_
 have J:Hid (∃I,s.alloc (Á #[Ð Ñ 8,Ö r,q] 81)=I/\Lk p b w r0 I/\I.heap[s.heap.size]?=Ä (Á #[Ð Ñ 8,Ö r,q] 81 (0,0))):=⟨_,rfl,v.step (aC s _),Í s _⟩;have M:s.heap.size≠b:=by have:=v.in;omega
 go_wp2_with fail;obtain⟨I,P,O,Q⟩:=J.o;rw[P];have C:=aa O;have A:=aa Q;go_wp2_with fail;refine(E.o _ C.o.ly).mono ?_;rintro e m a;obtain⟨i,rfl,d,X⟩:=a.val;replace C:=aa (C.o.then X);replace A:=aa ((X.bt.block _ (Å.1 A.o).1 M).trans A.o);have H:=aa d;go_wp2_with fail;refine(ja _ _).mono ?_;rintro e n c;obtain⟨j,rfl,f,K⟩:=c.valB C.o.in;replace C:=aa (C.o.step K);replace A:=aa ((K.block _ (Å.1 A.o).1).trans A.o);replace H:=aa (H.o.bel K);have S:=aa f;go_wp2_with fail;refine(gW _ H.o.val S.o.val (by first|(simp;done)|(simp;omega))).mono ?_;rintro e Y L
 have Z:Hid (bY p b w R [] e Y):=by
  have h:=L.gof C.o;show bY p b w R [] e Y;rw[B.o];exact h
 obtain⟨l,rfl,_,V⟩:=L.val;have G:=(V.block _ (Å.1 A.o).1).trans A.o;have g:=gI G;clear L C B H S V G A;go_wp2;go_ret;exact Z.o
theorem Sd{t a d}{w:Û}{W b}(m:gH w)(h:ag t=0)(i:aR t≠9)(l:ſ t<=d)(j:aG w a t)(E:w.heap.size<=b)(n:W.heap[b]?=Ä (Á #[À a (ſ t) d] 301 (0,0)))(f:Î w w W):
  ç prog 225 #[Â b] W λe g=>bK w (aN t).N e g:=by
 obtain⟨M,V,_,_⟩:=lF h;obtain⟨x,y,k,rfl,H,I,S,K⟩:=tS h i;have B:ki w b (.cons y k .nil):=uW m _ H I (by simp only[Ó]at M;omega)
 have Q:(ap y k.D).N.length<=1000:=by
  have:=(rE y k .nil).2
  simp only[Ó]at M;omega
 have R:=tR H S;have J:x::(Fo.cons y k .nil).N=x::(y::(k.N++[])):=by simp[Fo.N]
 rw[R]
 have P:eS w b (x::(y::(k.N++[]))) W:=by
  rw[<-J];exact⟨a,d,n,l,j,f,E⟩
 have L:ç prog 225 #[Â b] W λe g=>bY w b W (gp x (ap y k.D)).N [] e g:=by
  obtain⟨Y,Z,X⟩:=x;rcases K with⟨C,G,_⟩|⟨C,_,_⟩
  .dsimp only at C G;subst C;have O:=jd G;rw[aw]at O;exact Se B.1 Q O W P
  .dsimp only at C;subst C;exact UP B.1 Q W P
 refine L.mono ?_;rintro e g⟨A,c,rfl,C,U⟩;exact⟨A,c,rfl,C.down f.size,f.trans ((U.bt.mono f.size).W E)⟩
theorem Sb(t a P)(w:Û)(d:gH w)(h:ag t=0)(R:aR t≠9)(Z:ſ t<=P)(X:aG w a t):ç prog 200 #[À a (ſ t) P] w λe S=>m9 t e S/\Î w w S:=by
 have B:Hid (∀(W:Û)(b:Nat),w.heap.size<=b->W.heap[b]?=Ä (Á #[À a (ſ t) P] 301 (0,0))->Î w w W->Cp 225 #[Â b] W λe S=>bK w (aN t).N e S):=λW b U f Y=>Sd d h R Z X U f Y
 have E:=(o4 h R).n;by_cases H:400<(aN t).N.length
 .obtain⟨K,D,_,_⟩:=UD h R H;have G:Hid (∀W,m9 t (Ô (Ú #[À Ç 0 0,aF 3])) W):=λW=>⟨Ç,0,by rw[K,D];rfl,by rw[D];exact λi hi=>by simp at hi,by rw[D];exact Nat.le_refl _⟩
  generalize(aN t).N=xs at B H E
  have M:(400:Int)<(ſ xs:Int):=by omega
  go_in;go_wp2_with fail;refine(B.o _ _ Zl (Í w _) (aC w _)).mono ?_;rintro e O⟨A,c,rfl,L,J⟩;have C:=aa J;go_wp2;go_ret2;exact⟨G.o _,C.o⟩
 .obtain⟨K,D,_,_⟩:=KH h R H;have G:Hid (∀A c W,aS W A (aN t).N->(aN t).N.length<=c->m9 t (Ô (Ú #[À A (aN t).N.length c,aF 0])) W):=λA c W h V=>⟨A,c,by rw[K,D],by rw[D];exact h,by rw[D];exact V⟩
  generalize(aN t).N=xs at B H E G
  have M:¬(400:Int)<(ſ xs:Int):=by omega
  go_in;go_wp2_with fail;refine(B.o _ _ Zl (Í w _) (aC w _)).mono ?_;rintro e O⟨A,c,rfl,L,J⟩;have C:=aa J;have I:=aa (G.o A c O L.nods (AN L).2.1);go_wp2;go_ret2;exact⟨I.o,C.o⟩
