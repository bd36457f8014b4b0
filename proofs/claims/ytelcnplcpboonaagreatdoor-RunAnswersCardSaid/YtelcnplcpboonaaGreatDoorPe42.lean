import Derived.Test.YtelcnplcpboonaaGreatDoorPe35
import Derived.Test.YtelcnplcpboonaaGreatDoorPe34
import Derived.Test.YtelcnplcpboonaaGreatDoorPe29
open Go.Proofs.Tryz
open List renaming length->ſ
open Go.Value renaming slice->À,tuple->Ã,string->Æ,nilIface->Õ,iface->Ö,int->Ú
open Go.Ending renaming returned->Á
open List renaming length_cons->Â,mem_singleton->Ä,mem_append->Ê,length_pos_iff->Ë,length_append->Í,getElem_cons_zero->Ð,length_nil->Ò,length_map->Ø,mem_cons->Ü
open Go.RowKit renaming Below->Å
open Nat renaming le_refl->Ç,zero_le->Ó,le_trans->Ô,add_zero->Ý
open Option renaming none->È,some->Ì
open Bool renaming and_eq_true->É,false->ß
open Go.Lib renaming fields->Î
open Go renaming World->Ï,bodyPost_ret->Ñ,Calls->Ù,heap_alloc_new->Û,results->Þ
namespace Go.Proofs.YtelcnplcpboonaaGreatDoor
open Go Go.RowKit
theorem Calls.valued{P fn args w}{Q:Value->Ï->Prop}{R:Ending->Ï->Prop}(h:Ù P fn args w λe A=>∃v,e=Á v/\Q v A)(B:∀v A,Q v A->R (Á v) A):Ù P fn args w R:=
 h.mono λ_ _⟨v,C,D⟩=>by rw[C];exact B v _ D
theorem yf{B b pl A l e D}(h:lm B b pl A l e D):∃v,e=Á v/\lm B b pl A l (Á v) D:=by
 cases A with
 | error er=>obtain⟨C,rfl⟩:=h;exact⟨_,rfl,C,rfl⟩
 | ok p=>obtain⟨rfl,C⟩:=h;exact⟨_,rfl,rfl,C⟩
theorem Tc(B b s be bf)(hb:s<B/\be<B/\bf<B)(hB:B<=b)(ds a cap)(hl:ſ ds<=400)(O:ſ ds<=cap)(tx n t)(ht:Tr.Wf (.one ⟨8,tx,n⟩ t))(f:Nat->List Int->Except Int (List UInt8 × List Int))(hA:gY B b s be bf ds a cap t.N f):
  pA 280 B b s be bf ds a cap (⟨8,tx,n⟩::t.N) (kJ f t.line t.isFlat):=by
 intro i r C G wa wc l w X q u S I E L k;have P:=X;obtain⟨hi,e1,e2⟩:=iD (x:=⟨8,tx,n⟩) (A:=t.N++r) X;obtain⟨o0,ea,Y,d2,d3⟩:=q.nd i hi;subst ea;rw[e1]at Y;have Ab:=E.lt;have H:∀v,Å B w (w.setCell (b,5) v):=λv=> Zb.setCell (p:=(b,5)) hB _
 simp only[Â]at L k;cases G with
 | nil=>
  refine an (BE i C w E.c5) ?_;exact⟨⟨by decide,rfl⟩,Below.refl _ _⟩
 | cons c G=>
  obtain⟨o,o1,Z,Aa,m⟩:=u 0 (by simp);subst Z;have y:=u.slid (by simpa using I);simp only[Ý,Ð]at m;simp only[Â]at E I;have U:ez G:=λd X=>S d (by simp[X])
  have R:ſ G<=wc-1:=by omega
  generalize V:(if wc=1 then Ì ((o,o1):Addr)else Ì ↑(o,o1+1))=wa' at y;have J:=q.W hb (H (À wa' (ſ G) (wc-1)));have M:=y.W (H (À wa' (ſ G) (wc-1)));have K:=E.stored (À wa' (ſ G) (wc-1));rcases S c (by simp)with j|j
  .subst j;refine Calls.valued (Q:=λv a=>lm B b (eM be bf (ſ ds) cap (Ì ↑(s,o0))) (kJ f t.line t.isFlat C (0::G)) l (Á v) a/\Å B w a) ?_ (λv a h=>h);refine PY (be:=be) i C (ſ G) w (by omega) (by omega) (by omega) hl (by omega) E.c0 Y E.c1 E.c5 E.f5 I m _ ?_;rw[V];cases z:t.isFlat with
   | false=>
    refine ai (VU B b s be bf ds _ cap i (.one ⟨8,tx,n⟩ t) r l _ _ ht P J K z) λw2 D=>?_
    refine⟨_,rfl,⟨?_,rfl⟩,(H _).trans D⟩;decide
   | true=>
    refine(Tk B b s be bf hb hB ds _ cap O hl i (.one ⟨8,tx,n⟩ t) r l _ _ ht P J K z (by omega)).mono ?_;rintro e w2⟨rfl,g,D⟩;exact⟨_,rfl,⟨rfl,wa',wc-1,g,M.W D,R⟩,(H _).trans D⟩
  .subst j;refine Calls.valued (Q:=λv a=>lm B b (eM be bf (ſ ds) cap (Ì ↑(s,o0))) (kJ f t.line t.isFlat C (1::G)) l (Á v) a/\Å B w a) ?_ (λv a h=>h);refine PZ (be:=be) i C (ſ G) w (by omega) (by omega) (by omega) hl (by omega) E.c0 Y E.c1 E.c5 E.f5 I m _ ?_;rw[V];refine(hA (i+1) r C G wa' (wc-1) l _ e2 J M U R K (by omega) (by omega)).mono ?_;rintro e w2⟨g,D⟩;obtain⟨v,rfl,h3⟩:=yf g;exact⟨v,rfl,h3,(H _).trans D⟩
theorem Te(B b s be bf)(hb:s<B/\be<B/\bf<B)(hB:B<=b)(ds a cap)(hl:ſ ds<=400)(tx n)(t t':Tr)(ht:t.Wf)(f g:Nat->List Int->Except Int (List UInt8 × List Int))(hA:gY B b s be bf ds a cap t.N f)(hG:gY B b s be bf ds a cap t'.N g):
  pA 280 B b s be bf ds a cap (⟨9,tx,n⟩::(t.N++t'.N)) (lH f g):=by
 intro i r C D wa wc l w m j y R H E K o;obtain⟨hi,e1,e0⟩:=iD (x:=⟨9,tx,n⟩) (A:=t.N++t'.N++r) m;have U:ds.drop (i+1)=t.N++(t'.N++r):=by rw[e0,List.append_assoc]
 have Ab:=mY U;obtain⟨o0,ea,V,d2,d3⟩:=j.nd i hi;subst ea;rw[e1]at V;have Ac:=E.lt;have G:∀v,Å B w (w.setCell (b,5) v):=λv=> Zb.setCell (p:=(b,5)) hB _
 have k1:=(j.kn (i+1) t _ (Ó _) ht U).1;simp only[Â,Í]at K o;cases D with
 | nil=>
  refine an (BE i C w E.c5) ?_;exact⟨⟨by decide,rfl⟩,Below.refl _ _⟩
 | cons c D=>
  obtain⟨u,o1,X,Aa,q⟩:=y 0 (by simp);subst X;have z:=y.slid (by simpa using H);simp only[Ý,Ð]at q;simp only[Â]at E H;have I:ez D:=λd m=>R d (by simp[m])
  have P:ſ D<=wc-1:=by omega
  generalize S:(if wc=1 then Ì ((u,o1):Addr)else Ì ↑(u,o1+1))=wa' at z;have L:=j.W hb (G (À wa' (ſ D) (wc-1)));have M:=z.W (G (À wa' (ſ D) (wc-1)));have O:=E.stored (À wa' (ſ D) (wc-1));rcases R c (by simp)with k|k
  .subst k;refine Calls.valued (Q:=λv a=>lm B b (eM be bf (ſ ds) cap (Ì ↑(s,o0))) (lH f g C (0::D)) l (Á v) a/\Å B w a) ?_ (λv a h=>h);refine P0 (be:=be) i C (ſ D) w (by omega) (by omega) (by omega) hl (by omega) E.c0 V E.c1 E.c5 E.f5 H q _ ?_;rw[S];refine(hA (i+1) _ C D wa' (wc-1) l _ U L M I P O (by omega) (by omega)).mono ?_;rintro e w2⟨Y,J⟩;obtain⟨v,rfl,Z⟩:=yf Y;exact⟨v,rfl,Z,(G _).trans J⟩
  .subst k;refine Calls.valued (Q:=λv a=>lm B b (eM be bf (ſ ds) cap (Ì ↑(s,o0))) (lH f g C (1::D)) l (Á v) a/\Å B w a) ?_ (λv a h=>h);refine P3 (be:=be) i C (ſ D) w (by omega) (by omega) (by omega) hl (by omega) (by omega) (i+1+ſ t.N) k1 E.c0 V E.c1 E.c5 E.f5 H q _ ?_;rw[S];refine(hG (i+1+ſ t.N) r C D wa' (wc-1) l _ (uP U) L M I P O (by omega) (by omega)).mono ?_;rintro e w2⟨Y,J⟩;obtain⟨v,rfl,Z⟩:=yf Y;exact⟨v,rfl,Z,(G _).trans J⟩
theorem Mw{t:Tr}{A ws u v}(h:ez ws)(e:t.lay A ws=.ok (u,v)):ez v:=by
 obtain⟨p,_,rfl⟩:=lL t A ws v u h e;exact λc B=>h c (by simp[B])
theorem mT(B b s E G:Nat)(I:s<B/\E<B/\G<B)(H:B<=b)(D:List Nd)(a:Option Addr)(A:Nat)(J:ſ D<=400)(C:ſ D<=A):∀t:Tr,t.Wf->gY B b s E G D a A t.N t.lay
 | .leaf ⟨op,tx,n⟩,h=>by
  obtain⟨_,_,_,_,P,_⟩:=fJ h.1;rcases iZ h.1 h.2 with e|e|e|e|e
  all_goals (simp only at e;subst e)
  .exact P4 B b s E G I H D a A J tx n (jS (P rfl)).2
  .exact P5 B b s E G I H D a A J tx n
  .exact P6 B b s E G I H D a A J tx n
  .exact P8 B b s E G I H D a A J tx n
  .exact P9 B b s E G I H D a A J tx n
 | .one ⟨op,tx,n⟩ a',h=>by
  obtain⟨_,_,_,_,_,M⟩:=fJ h.1;rcases jD h.2.1 with e|e
  all_goals (simp only at e;subst e)
  .exact Qb B b s E G I H D a A J tx n (M rfl).1 (M rfl).2 _ _ (mT B b s E G I H D a A J C a' h.2.2)
  .rw[CM (x:=⟨8,tx,n⟩) rfl];exact Qc B b s E G I H D a A J tx n _ _ (Tc B b s E G I H D a A J C tx n a' h _ (mT B b s E G I H D a A J C a' h.2.2))
 | .two ⟨op,tx,n⟩ a' c,h=>by
  rcases jj h.2.1 with e|e
  all_goals (simp only at e;subst e)
  .rw[F8 (x:=⟨6,tx,n⟩) rfl];exact Qa B b s E G I H D a A J tx n _ _ _ _ (mT B b s E G I H D a A J C a' h.2.2.1) (mT B b s E G I H D a A J C c h.2.2.2) (λ_ _ _ _=>⟨a',h.2.2.1,rfl⟩) (Ë.1 c.pos) (λK a u v L R=>jV a' K a u v h.2.2.1 L R) (λK a u v O L=>Mw O L)
  .rw[JC (x:=⟨9,tx,n⟩) rfl];exact Qd B b s E G I H D a A J tx n _ _ _ (Te B b s E G I H D a A J tx n a' c h.2.2.1 _ _ (mT B b s E G I H D a A J C a' h.2.2.1) (mT B b s E G I H D a A J C c h.2.2.2))
set_option maxRecDepth 100000
set_option maxHeartbeats 4000000
theorem Tt(C)(ws:List Int)(a G B wc)(w:Ï)(E:aS w a C)(h:bM C≠0):
  Cb 233 #[À a (ſ C) B,À G (ſ ws) wc] w (Ã #[Æ ⟨#[]⟩,aF (bM C)]):=by
 unfold Cb;have A:=aa E;have H:=aa h;rw[cN h];go_in;go_wp2_with fail;refine ai (lC C a B _ A.o) λI D=>?_
 rw[cN H.o];go_wp2;go_ret2;exact⟨rfl,D⟩
theorem M4(G ws a I E wc)(w:Ï)(M:aS w a G)(L:eE w I ws)(N:ſ ws<=9223372036854775807)(h:bM G=0)(K:¬ez ws):
  Cb 233 #[À a (ſ G) E,À I (ſ ws) wc] w (Ã #[Æ ⟨#[]⟩,aF 1]):=by
 unfold Cb;have D:=aa M;have C:=aa L;have H:=aa h;have B:=aa K;rw[o5];go_in;go_wp2_with fail;refine ai (lC G a E _ D.o) λO J=>?_
 rw[H.o,cS];have A:=aa (C.o.W J);go_wp2_with fail;refine an (Mc ws I wc _ A.o N B.o) ?_;go_wp2;go_ret2;exact⟨rfl,J⟩
theorem VV(ds)(t:Tr)(hd:ds=t.N)(ht:t.Wf)(ws a wa cap wc)(hc:ſ ds<=cap)(m:ſ ws<=wc)(w:Ï)(hN:aS w a ds)(hI:eE w wa ws)(hl:ſ ws<=9223372036854775807)(h:bM ds=0)(h1:ez ws):
  Cb 233 #[À a (ſ ds) cap,À wa (ſ ws) wc] w (Ã #[Æ (ei (t.show ws)),aF (qc (t.show ws))]):=by
 unfold Cb;have x:Hid (aS w a ds):=hN;have HI:Hid (eE w wa ws):=hI;have H:Hid (bM ds=0):=h;have q:Hid (ez ws):=h1;have HT:Hid (t.Wf):=ht;have d:Hid (ds=t.N):=hd;obtain⟨h4,_,_⟩:=mD h;have y:Hid (t.show ws=match t.lay 0 ws with| .error e=>.error e| .ok (s,[])=>.ok s| .ok (_,_::_)=>.error 2):=AW h1;have H0:Hid (ds≠[]):=(show ds≠[] by have:=t.pos;rw[<-hd]at this;exact Ë.1 this);clear hN hI h h1 ht hd;go_in;go_wp2_with fail;refine ai (lC ds a cap _ x.o) λw2 hB=>?_
 rw[H.o,cS];have HB:Hid (Å w w w2):=hB;have Q:Hid (eE w2 wa ws):=HI.o.W hB;obtain⟨s,l,Z⟩:=(x.o.W hB).s H0.o;have R:Hid (cO s w2 a ds):=Z;clear hB Z;go_wp2_with fail;refine an (Qn ws wa wc _ Q.o hl q.o) ?_;go_wp2_with fail;refine(MQ ds a cap s _ H.o R.o l).mono ?_;rintro e A⟨⟨J,K,rfl,V,X,Y⟩,C⟩;have P:Hid (Å w w A):=aH HB.o Zl C;have v:Hid (Å w2 w2 A):=C;have i:Hid (cO s A a ds):=R.o.kept (C.block s l);have f:Hid (eE A wa ws):=Q.o.W C;have g:Hid (hJ A J K ds 0):=Y;have b:s<A.heap.size:=Nat.lt_of_lt_of_le l C.size
 have HL:Hid (∀O,O=Obj.cells #[À a (ſ ds) cap,À (Ì ⟨J,0,È⟩) (ſ ds) (ſ ds),À (Ì ⟨K,0,È⟩) (ſ ds) (ſ ds),.pointer È,À È 0 0,À wa (ſ ws) wc] 337->
   Ù prog 261 #[.pointer (Ì ⟨A,0,È⟩),Ú .i64 0,Ú .i64 0] (A.alloc O) λe b=>lm A.heap.size A.heap.size (eM J K (ſ ds) cap a) (t.lay 0 ws) [] e b/\Å A A b):=by
  intro O hO;have S:Å A A (A.alloc O):= Zb.alloc Zl _;refine(mT A.heap.size A.heap.size s J K ⟨b,V,X⟩ Zl ds a cap h4 hc t HT.o 0 [] 0 ws wa wc [] (A.alloc O) (by rw[d.o];simp) ⟨i.o.kept (S.block s b),g.o.kept (S.block J V) (S.block K X)⟩ (eK.W f.o S) q.o m ?_ (by rw[<-d.o];omega) (by rw[<-d.o];simp;omega)).mono ?_
  .subst hO;exact cQ.unused 337 A.heap.size A.heap.size _ (eM J K (ſ ds) cap a) [À wa (ſ ws) wc] (Û A _)
  .rintro e w'⟨h1,h2⟩;exact⟨h1,S.trans h2⟩
 clear Y C;go_wp2_with fail;refine(HL.o _ rfl).mono ?_;rintro e w4⟨G,U⟩;have L:Hid (Å w w w4):=aH P.o Zl U;clear U;cases B:t.lay 0 ws with
 | error er=>
  rw[B]at G;have E:=y.o;rw[B]at E;have D:Hid (t.show ws=.error er):=E;obtain⟨M,rfl⟩:=G;have j:Hid (er≠0):=M;rw[cN M];clear M B E;go_wp2;go_ret2;refine⟨?_,L.o⟩;rw[D.o];show _=Á (Ã #[Æ ⟨#[]⟩,aF er]);rw[cN j.o];rfl
 | ok p=>
  obtain⟨u,r⟩:=p;rw[B]at G;have E:=y.o;rw[B]at E;obtain⟨rfl,n,o,I,_,_⟩:=G;have k:Hid (WS A.heap.size A.heap.size (eM J K (ſ ds) cap a) ([]++u) (À n (ſ r) o) w4):=I;have z:=I.c5;cases r with
  | nil=>
   have D:Hid (t.show ws=.ok u):=E;simp only[Ò]at z;clear B E I;go_wp2_with fail;refine ai (U6 337 A.heap.size A.heap.size 3 (eM J K (ſ ds) cap a) ([]++u) _ _ rfl k.o) λw5 hb5=>?_
   go_wp2;go_ret2;refine⟨?_,L.o.trans (hb5.mono P.o.size)⟩;rw[D.o];rfl
  | cons c r=>
   have D:Hid (t.show ws=.error 2):=E;simp only[Â]at z;have g0:(0:Int)<(ſ r:Int)+1:=by omega
   clear B E I;go_wp2;go_ret2;refine⟨?_,L.o⟩;rw[D.o];rfl
theorem Ts(E ws a G D wc)(K:ſ E<=D)(B:ſ ws<=wc)(J:ſ ws<=9223372036854775807)(w:Ï)(H:aS w a E)(I:eE w G ws):
  Cb 233 #[À a (ſ E) D,À G (ſ ws) wc] w (Ã #[Æ (ei (gn E ws)),aF (qc (gn E ws))]):=by
 unfold Cb;by_cases h:bM E=0
 .obtain⟨C,_,_⟩:=mD h;rw[xI (mX h) (my h) C];by_cases A:ez ws
  .exact VV E _ (my h) (mX h) ws a G D wc K B w H I J h A
  .have e:(lT E h).show ws=.error 1:=by
    unfold Tr.show;rw[if_neg (λL=>A (pC.1 L))]
   rw[e];exact M4 E ws a G D wc w H I J h A
 .rw[DR h];exact Tt E ws a G D wc w H h
theorem G1:∀W:List Wd,(∀w∈W,ſ w<=20)->eC W<=21*ſ W
 | [],_=>Ç _
 | x::r,h=>by
  have B:=G1 r λw A=>h w (by simp[A])
  have C:=h x (by simp);rw[ik,Â];omega
theorem ve{tx}(h:cX tx=0):Î (ae tx)=ar (ae tx)/\(ae tx).length<=2000/\∀b∈ae tx,b.toNat<128:=by
 obtain⟨I,E⟩:=qQ h;by_cases B:ae tx=[]
 .rw[B];exact⟨rfl,by simp,λb A=>by cases A⟩
 .have H:ar (ae tx)=bV (ae tx):=by rw[ar,if_neg B]
  rw[H]at I E⊢;have G:=pI (ae tx)
  have C:∀b∈ae tx,dW b=true:=by
   intro b A;rw[<-G]at A;refine uU (p:=dW) rfl (bV (ae tx)) (λw D b A=>?_) b A;have J:=(E w D).2.2 b A;simp only[gE,É,decide_eq_true_eq]at J;simp only[dW,É,decide_eq_true_eq];omega
  refine⟨?_,?_,λb A=>?_⟩
  .rw[xy λb A M=>yX (C b A) M,List.filter_eq_self];intro w D
   have:=(E w D).1
   cases w with
   | nil=>exact absurd rfl this
   | cons=>rfl
  .have K:=uc (bV (ae tx));have L:=G1 (bV (ae tx)) λw D=>(E w D).2.1
   rw[G]at K;omega
  .have:=C b A
   simp only[dW,É,decide_eq_true_eq]at this;omega
theorem Py{tx:ByteArray}(h:cX tx=0)(w:Ï)(J:eo w):Ù prog 182 #[Æ tx] w λe H=>(∃g,e=Á (À (Ì ⟨g,0,È⟩) (ar (ae tx)).length (ar (ae tx)).length)/\bN H (Ì ⟨g,0,È⟩) ((ar (ae tx)).map ab))/\Å w w H:=by
 obtain⟨B,C,D⟩:=ve h;rw[<-B];rw[aw]at C;refine(CG tx w (by omega) (λj c I=>D c (List.mem_of_getElem? I)) J.spc).mono ?_;rintro e H⟨rfl,rfl⟩;refine⟨⟨w.heap.size,rfl,?_⟩,aC w _⟩;intro i E;have A:i<(Î (ae tx)).length:=by simpa using E
 refine⟨w.heap.size,0,rfl,by rw[World.size_alloc];omega,?_⟩;rw[Nat.zero_add];have G:=Û w (.cells ((Î (ae tx)).map λl=>Æ ⟨l.toArray⟩).toArray 9);rw[Lib.cell_of_heap G]
 show((Î (ae tx)).map λl=>Æ ⟨l.toArray⟩).toArray[i]?=_
 rw[List.getElem?_toArray,List.getElem?_map,show(Î (ae tx))[i]?=Ì (Î (ae tx))[i]from List.getElem?_eq_getElem A];simp[ab]
theorem qS{t a w}(h:ag t=0)(E:aG w a t):0<ſ t/\∃b o,a=Ì ↑(b,o)/\b<w.heap.size/\w.cell? ↑(b,o)=Ì ↑(aR t)/\w.cell? ↑(b,o+1)=Ì (Æ (bg t)):=by
 have A:=qG h;obtain⟨b,o,e,D,B,C,_⟩:=E 0 A;refine⟨A,b,o,e,D,?_,?_⟩
 .rw[qR A];simpa using B
 .cases t with
  | nil=>simp at A
  | cons x r=>simpa[bg]using C
theorem I8{b o A n:Nat}{op:Int}{w}(B:0<n)(h:w.cell? (b,o)=Ì ↑op):Cw 195 #[À (Ì ↑(b,o)) n A] w (.bool (op==9)):=by
 unfold Cw;go_in;go_wp2;go_ret;exact⟨rfl,rfl⟩
theorem NH(t a f)(w:Ï)(n:gH w)(l:ſ t<=f)(k:aG w a t)(O:fU t):Ù prog 156 #[À a (ſ t) f] w λe g=>m9 t e g/\Å w w g:=by
 have J:=aa (ss t a f w l k O);have Q:=aa k;have R:=aa n;by_cases G:ag t=0
 .obtain⟨I,b,o,rfl,X,U,d⟩:=qS G Q.o;have K:Hid (∀W:Ï,Å w w W->Cw 195 #[À (Ì ↑(b,o)) (ſ t) f] W (.bool (aR t==9))):=λW h=>I8 I (((a9 h).1 _ _ X).trans U)
  rw[G]at J;by_cases L:aR t=9
  .obtain⟨N,E,_,_⟩:=uV G L;have D:Hid (∀W,m9 t (Á (Ã #[À È 0 0,aF 2])) W):=λW=>⟨È,0,by rw[N,E];rfl,by rw[E];exact λi hi=>by simp at hi,by rw[E];exact Ç _⟩
   rw[show(aR t==9)=true by simp[L]]at K;go_in;go_wp2_with fail;refine ai J.o λj b1=>?_
   rw[cS];have B:=aa b1;go_wp2_with fail;refine an (K.o _ B.o) ?_;go_wp2;go_ret2;exact⟨D.o _,B.o⟩
  .have C:Hid (∀W:Ï,Å w w W->Cp 200 #[À (Ì ↑(b,o)) (ſ t) f] W λe g=>(∃A c,e=Á (Ã #[À A (dt t).length c,aF (dZ t)])/\aS g A (dt t)/\(dt t).length<=c)/\Å W W g):=λW h=>Sb t _ f W (R.o.W h) G L l (Q.o.W h)
   have D:Hid (∀A c W,aS W A (dt t)->(dt t).length<=c->m9 t (Á (Ã #[À A (dt t).length c,aF (dZ t)])) W):=λA c W h m=>⟨A,c,rfl,h,m⟩
   rw[show(aR t==9)=ß by simp[L]]at K;generalize dt t=xs at C D;generalize aF (dZ t)=er at C D;go_in;go_wp2_with fail;refine ai J.o λj b1=>?_
   rw[cS];have B:=aa b1;go_wp2_with fail;refine an (K.o _ B.o) ?_;go_wp2_with fail;refine(C.o _ B.o).mono ?_;rintro e Z⟨⟨A,c,rfl,V,Y⟩,S⟩;have M:=aa (aH B.o Zl S);have H:=aa (D.o A c Z V Y);generalize (ſ xs)=nx at H⊢;go_wp2;go_ret2;exact⟨H.o,M.o⟩
 .obtain⟨N,E,_,_⟩:=F7 G;have P:=aa (cN G);have D:Hid (∀W,m9 t (Á (Ã #[À È 0 0,aF (ag t)])) W):=λW=>⟨È,0,by rw[N,E];rfl,by rw[E];exact λi hi=>by simp at hi,by rw[E];exact Ç _⟩
  go_in;go_wp2_with fail;refine ai J.o λj b1=>?_
  rw[P.o];go_wp2;go_ret2;exact⟨by have:=D.o j;rw[P.o]at this;exact this,b1⟩
theorem uq{t}(h:ag t=0)(A:aR t=9):cX (bg t)=0:=by grind [kL,aR,ag,cX,bg]
theorem Px(t a m)(w:Ï)(u:eo w)(s:ſ t<=m)(q:aG w a t)(S:fU t):Ù prog 153 #[À a (ſ t) m] w λe n=>rM t e n/\Å w w n:=by
 have P:=aa (ss t a m w s q S);have Y:=aa q;have Z:=aa u;by_cases E:ag t=0
 .obtain⟨O,b,o,rfl,X,f,V⟩:=qS E Y.o;have Q:Hid (∀W:Ï,Å w w W->Cw 195 #[À (Ì ↑(b,o)) (ſ t) m] W (.bool (aR t==9))):=λW h=>I8 O (((a9 h).1 _ _ X).trans f)
  have J:Hid (∀W:Ï,Å w w W->W.cell? (b,o+1)=Ì (Æ (bg t))):=λW h=>((a9 h).1 _ _ X).trans V
  rw[E]at P;by_cases M:aR t=9
  .obtain⟨_,_,H,C⟩:=uV E M;have N:=uq E M;have k:(bg t).size<=2000:=by rw[<-aw];exact(ve N).2.1
   have K:Hid (∀W:Ï,Cb 115 #[Æ (bg t)] W (Æ (bg t))):=λW=>sy _ W (by omega)
   have D:Hid (∀W:Ï,Å w w W->Cp 182 #[Æ (bg t)] W λe n=>(∃g,e=Á (À (Ì ⟨g,0,È⟩) (ar (ae (bg t))).length (ar (ae (bg t))).length)/\bN n (Ì ⟨g,0,È⟩) ((ar (ae (bg t))).map ab))/\Å W W n):=λW h=>Py N W (Z.o.W h)
   have G:Hid (∀A c W,bN W A ((ar (ae (bg t))).map ab)->(ar (ae (bg t))).length<=c->rM t (Á (Ã #[À A (ar (ae (bg t))).length c,aF 0])) W):=λA c W h r=>⟨A,c,by rw[H,C,Ø],by rw[C];exact h,by rw[C,Ø];exact r⟩
   rw[show(aR t==9)=true by simp[M]]at Q;generalize ar (ae (bg t))=ws at D G;generalize bg t=tx at D J K;go_in;go_wp2_with fail;refine ai P.o λp b1=>?_
   rw[cS];have V:=J.o p b1;have B:=aa b1;go_wp2_with fail;refine an (Q.o _ B.o) ?_;go_wp2_with fail;refine ai (K.o _) λv b3=>?_
   have I:=aa (aH B.o Zl b3);go_wp2_with fail;refine(D.o _ I.o).mono ?_;rintro e l⟨⟨g,rfl,j⟩,d⟩;have R:=aa (aH I.o Zl d);have L:=aa (G.o _ (ſ ws) l j Zl);generalize (ſ ws)=nw at L⊢;go_wp2;go_ret2;exact⟨L.o,R.o⟩
  .have G:Hid (∀W,rM t (Á (Ã #[À È 0 0,aF 2])) W):=λW=>by
    have H:iR t=2:=by rw[iR,if_neg (by simp[E]),if_neg M]
    have C:iS t=[]:=by rw[iS,if_neg (by rw[H];decide)]
    exact⟨È,0,by rw[H,C];rfl,by rw[C];exact λi hi=>by simp at hi,by rw[C];exact Ç _⟩
   rw[show(aR t==9)=ß by simp[M]]at Q;go_in;go_wp2_with fail;refine ai P.o λp b1=>?_
   rw[cS];have B:=aa b1;go_wp2_with fail;refine an (Q.o _ B.o) ?_;go_wp2;go_ret2;exact⟨G.o _,B.o⟩
 .obtain⟨_,_,H,C⟩:=F7 E;have U:=aa (cN E);have G:Hid (∀W,rM t (Á (Ã #[À È 0 0,aF (ag t)])) W):=λW=>⟨È,0,by rw[H,C];rfl,by rw[C];exact λi hi=>by simp at hi,by rw[C];exact Ç _⟩
  go_in;go_wp2_with fail;refine ai P.o λp b1=>?_
  rw[U.o];go_wp2;go_ret2;exact⟨by have:=G.o p;rw[U.o]at this;exact this,b1⟩
theorem BG(a b):(cK a b).length<=ſ a+ſ b+1:=by
 unfold cK
 split
 .simp only[Í,Â,Ò];omega
 .simp only[Í];omega
theorem zF:∀(ws:List Wd)(t:Wd),(ws.foldl cK t).length<=ſ t+eC ws
 | [],t=>by simp[eC]
 | x::r,t=>by
  have A:=zF r (cK t x);have B:=BG t x;rw[List.foldl_cons,ik];omega
theorem yq:∀s:Wd,eC (bV s)=ſ s+1
 | []=>rfl
 | c::r=>by
  have ih:=yq r;by_cases B:c=32
  .subst B;rw[ou,ik,ih];simp;omega
  .cases A:bV r with
   | nil=>exact absurd A (kN r)
   | cons x y=>
    rw[ow B A,ik];rw[A,ik]at ih;simp only[Â];omega
theorem Si{x}(h:x≠[]):(cI x).length<=ſ x:=by
 unfold cI gk;have A:=zF (ar (x.drop 1)) []
 have B:eC (ar (x.drop 1))<=(x.drop 1).length+1:=by
  unfold ar
  split
  .exact Ó _
  .rw[yq];exact Ç _
 rw[List.length_drop]at B;have C:0<ſ x:=Ë.2 h;simp only[Ò]at A;omega
theorem G2{u A}(h:u <:+ A):eC u<=eC A:=by
 obtain⟨t,rfl⟩:=h;rw[uA];omega
theorem He(x):(ab x).size=ſ x:=by rw[<-aw];rfl
theorem Lh{x}(h:bb x=true):(ab x).size<=8:=by
 simp only[bb,aL,É,decide_eq_true_eq]at h;exact h.1.1.2
theorem RY{A N}(h:∀t∈A,∀x∈t,x.tx.size<=N):(iF A).length<=N:=by
 unfold iF
 split
 .rename_i x r hx;have B:=List.mem_of_getLast? hx
  have:=h _ B x (by simp)
  rw[aw];exact this
 .exact Ó _
theorem QH{O C M r}(h:PG O C M r):∀N,8<=N->(∀t∈C,∀x∈t,x.tx.size<=N)->∀L,r=.ok L->∀t∈L,∀x∈t,x.tx.size<=N+eC M:=by
 induction h with
 | done=>
  intro N _ D L e t A x B;cases e
  have:=D t A x B
  omega
 | @note O C wd M r h0 _ ih=>
  intro N E D L e t A x B;have H:wd≠[]:=λe=>by rw[e]at h0;simp at h0
  have I:=Si H
  have:=ih (N+(ſ wd+1)) (by omega) (λt A x B=>by
   unfold gg at A
   split at A
   .rcases Ê.1 A with A|A
    .have:=D t ((List.dropLast_sublist C).subset A) x B
     omega
    .rw[Ä]at A;subst A;rw[Ä]at B;subst B
     show(ab _).size<=_
     rw[He];have J:=BG (iF C) (cI wd);have K:=RY D;omega
   .rcases Ê.1 A with A|A
    .have:=D t A x B
     omega
    .rw[Ä]at A;subst A;rw[Ä]at B;subst B
     show(ab _).size<=_
     rw[He]
     omega) L e t A x B
  rw[ik];omega
 | letN=>intro N _ _ L e;cases e
 | letE=>intro N _ _ L e;cases e
 | letB=>intro N _ _ L e;cases e
 | letX=>intro N _ _ L e;cases e
 | @letO O C nm M m ns u r hn hpr _ ih=>
  intro N E D L e t A x B;have G:=G2 (il hpr).1;simp only[Rs.rest]at G;rw[ik]at G
  have:=ih N E (λt A x B=>by
   rcases Ê.1 A with A|A
   .exact D t A x B
   .rw[Ä]at A;subst A;rcases Ü.1 B with rfl|B
    .exact Ô (Lh hn) E
    .exact Ô (ui hpr (λx B=>by cases B) _ _ _ rfl x B) E) L e t A x B
  rw[ik,ik,ik];omega
 | doB=>intro N _ _ L e;cases e
 | doX=>intro N _ _ L e;cases e
 | @doO O C wd M m ns u r h0 I hpr _ ih=>
  intro N E D L e t A x B;have G:=G2 (il hpr).1;simp only[Rs.rest]at G;rw[ik]at G
  have:=ih N E (λt A x B=>by
   rcases Ê.1 A with A|A
   .exact D t A x B
   .rw[Ä]at A;subst A;rcases Ü.1 B with rfl|B
    .exact Ó _
    .exact Ô (ui hpr (λx B=>by cases B) _ _ _ rfl x B) E) L e t A x B
  omega
theorem LJ(ws):eC ws=(ws.map List.length).sum+ſ ws:=by
 induction ws with
 | nil=>rfl
 | cons x r ih=>rw[ik,ih,List.map_cons,List.sum_cons,Â];omega
theorem IU(s w)(ht:eo w):Ù prog 63 #[Æ s] w λe r=>nh s w e r:=by
 have k:=aa (Tq s w);by_cases J:dc (ae s)=0
 .have p:=tr J;have V:=Ga J;have m:=Tg (ae s);have f:=aa (L1 (ae s));have n:=aa ht;have R:Hid (∀A P H I C,cP w (À A (aQ (ae s)).length H) ((aQ (ae s)).map ab) C->jm w.heap.size (À P (aQ (ae s)).length I) (ec (ae s)) C->Å w w C->Cp 86 #[À A (aQ (ae s)).length H,À P (aQ (ae s)).length I,(s.size:Int)] C λe r=>mq (aQ (ae s)) (eO (ec (ae s)) s.size) w.heap.size C e r):=λA P H I C S h B=>TC f.o (by omega) V (kX _).symm B.size S h (λr a=>n.o.W (B.trans a))
  have D:Hid (Cp 85 #[Æ s] w λe r=>∃A P H I,e=Á (Ã #[À A (aQ (ae s)).length H,À P (aQ (ae s)).length I,Ú .i64 0,Õ])/\(cP w (À A (aQ (ae s)).length H) ((aQ (ae s)).map ab) r/\jm w.heap.size (À P (aQ (ae s)).length I) (ec (ae s)) r/\Å w w r)):=by
   refine k.o.mono ?_;rintro e r⟨j,B⟩;rcases j with⟨i,_⟩|⟨_,A,P,H,I,rfl,S,h⟩
   .exact absurd J i
   .exact⟨A,P,H,I,rfl,S,h,B⟩
  have g:Hid (∀q,PG ß [] (aQ (ae s)) (.ok q)->∀t∈q,fU t):=λq y t ht x hx=>by
   have S:=QH y 8 Zl (λt a=>by cases a) q rfl t ht x hx;rw[LJ]at S;omega
  have Z:Hid (∀u C r,Å w w C->PG ß [] (aQ (ae s)) (.bad u)->Å w C r->nh s w (Á (Ã #[À È 0 0,Ú .i64 (eO (ec (ae s)) s.size ((aQ (ae s)).length-ſ u):Int),Ö 50 (Ú .i64 5)])) r):=λu C r hb1 y B=>⟨[],_,5,È,0,rfl,cJ.bad J y,bP.nil _ _,Ç _,hb1.trans B⟩
  have b:Hid (∀q A c r,PG ß [] (aQ (ae s)) (.ok q)->(aW q).2=0->bP r A q->ſ q<=c->Å w w r->nh s w (Á (Ã #[À A (ſ q) c,Ú .i64 0,Õ])) r):=λq A c r y L hP hc B=>⟨q,0,0,A,c,rfl,cJ.ok J y L,hP,hc,B⟩
  have a:Hid (∀q r,PG ß [] (aQ (ae s)) (.ok q)->(aW q).2≠0->Å w w r->nh s w (Á (Ã #[À È 0 0,Ú .i64 0,Ö 50 ((aW q).2)])) r):=λq r y L B=>⟨[],0,(aW q).2,È,0,by rw[cN L];rfl,cJ.full J y L,bP.nil _ _,Ç _,B⟩
  generalize(aQ (ae s)).length=nl at R D
  go_in;go_wp2_with fail;refine D.o.mono ?_;rintro e C⟨A,P,H,I,rfl,X⟩;have l:=aa X;have d:=aa (R.o A P H I C X.1 X.2.1 X.2.2);go_wp2_with fail;refine d.o.mono ?_;intro e Q o;cases o with
  | @bad u _ pg B=>
   have G:=aa (Z.o u C Q l.o.2.2 pg B);generalize eO (ec (ae s)) s.size ((aQ (ae s)).length-ſ u)=pp at G⊢;go_wp2;refine Ñ (v:=Ã #[À È 0 0,(pp:Int),Ö 50 (Ú .i64 5)]) (by simp[Þ,Tryz.results63,go_sem]) rfl ?_;exact G.o
  | @ok q A2 c2 _ pg hp hc B=>
   have U:=l.o.2.2.trans B;have M:=aa (DT q A2 c2 Q hc hp (g.o q pg));by_cases L:(aW q).2=0
   .have G:Hid (∀z,Å Q Q z->nh s w (Á (Ã #[À A2 (ſ q) c2,Ú .i64 0,Õ])) z):=λz hb3=>b.o q A2 c2 z pg L (hp.W hb3) hc (aH U Zl hb3)
    rw[L]at M
    generalize(aW q).1=K at M
    generalize (ſ q)=ql at M G⊢;go_wp2_with fail;refine ai M.o λz b3=>?_
    have N:=aa (G.o z b3);rw[cS];go_wp2;refine Ñ (v:=Ã #[À A2 ql c2,Ú .i64 0,Õ]) (by simp[Þ,Tryz.results63,go_sem]) rfl ?_;exact N.o
   .have G:Hid (∀z,Å Q Q z->nh s w (Á (Ã #[À È 0 0,Ú .i64 0,Ö 50 ((aW q).2)])) z):=λz hb3=>a.o q z pg L (aH U Zl hb3)
    have O:=aa (cN L)
    generalize(aW q).2=E at M O G
    generalize(aW q).1=K at M
    generalize (ſ q)=ql at M⊢;go_wp2_with fail;refine ai M.o λz b3=>?_
    have N:=aa (G.o z b3);rw[O.o];go_wp2;refine Ñ (v:=Ã #[À È 0 0,Ú .i64 0,Ö 50 E]) (by simp[Þ,Tryz.results63,go_sem]) rfl ?_;exact N.o
 .have D:Hid (Cb 85 #[Æ s] w (Ã #[À È 0 0,À È 0 0,((fX (ae s):Nat):Int),aF (dc (ae s))])):=by
   show Ù _ _ _ _ _;refine k.o.mono ?_;rintro e r⟨j,B⟩;rcases j with⟨_,rfl⟩|⟨i,_⟩
   .exact⟨rfl,B⟩
   .exact absurd i J
  have O:=aa (cN J);have G:Hid (∀r,Å w w r->nh s w (Á (Ã #[À È 0 0,((fX (ae s):Nat):Int),Ö 50 (dc (ae s))])) r):=λr B=>⟨[],_,_,È,0,by rw[O.o];rfl,cJ.lex J,bP.nil _ _,Ç _,B⟩
  generalize dc (ae s)=E at D O G
  generalize((fX (ae s):Nat):Int)=LK at D G
  go_in;go_wp2_with fail;refine ai D.o λC b1=>?_
  have Y:=aa (G.o C b1);rw[O.o];go_wp2;refine Ñ (v:=Ã #[À È 0 0,LK,Ö 50 E]) (by simp[Þ,Tryz.results63,go_sem]) rfl ?_;exact Y.o
