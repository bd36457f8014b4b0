import Derived.Test.YtelcnplcpboonaaGreatDoorPe37
open Go.Proofs.Tryz
open List renaming length->ſ
open Go.Value renaming string->À,slice->Ã,int->É
open Go.RowKit renaming Below->Á,intOf->Î
open Go.Obj renaming cells->Â
open List renaming length_append->Ä,length->Ç,append_nil->È,length_cons->Ë,getElem_cons_zero->Ì
open Go renaming World->Å
open Go.World renaming size_alloc->Æ
open Go.IntKind renaming i64->Ê
open Option renaming some->Í,none->Ï
namespace Go.Proofs.YtelcnplcpboonaaGreatDoor
open Go Go.RowKit
set_option maxRecDepth 100000
set_option maxHeartbeats 4000000
theorem m6(B b:Nat)(E:List Nd)(a:Option Addr)(D:Nat)(G:ſ E<=400):∀t:Tr,t.Wf->ſ t.N<=400->iI B b E a D t.N t.lay
 | .leaf ⟨op,tx,n⟩,h,hn=>by
  obtain⟨_,_,_,_,L,_⟩:=fJ h.1;rcases iZ h.1 h.2 with e|e|e|e|e
  all_goals (simp only at e;subst e)
  .exact Qt B b E a D tx n (jS (L rfl)).2
  .exact vR 2 (.inl rfl) B b E a D tx n
  .exact vR 3 (.inr (.inl rfl)) B b E a D tx n
  .exact vR 4 (.inr (.inr rfl)) B b E a D tx n
  .exact Qu B b E a D tx n
 | .one ⟨op,tx,n⟩ a',h,hn=>by
  obtain⟨_,_,_,_,_,K⟩:=fJ h.1;have H:ſ a'.N<=400:=by simp[Tr.N]at hn;omega
  rcases jD h.2.1 with e|e
  all_goals (simp only at e;subst e)
  .exact Qw B b E a D G tx n (K rfl).1 (K rfl).2 _ _ (m6 B b E a D G a' h.2.2 H)
  .rw[CM (x:=⟨8,tx,n⟩) rfl];exact Qx B b E a D G tx n _ _ _ _ (m6 B b E a D G a' h.2.2 H) (mB E a D G a' h.2.2 H) (by have:=lN a' h.2.2;rw[p4];omega)
 | .two ⟨op,tx,n⟩ a' c,h,hn=>by
  have A:ſ a'.N<=400:=by simp[Tr.N]at hn;omega
  have C:ſ c.N<=400:=by simp[Tr.N]at hn;omega
  rcases jj h.2.1 with e|e
  all_goals (simp only at e;subst e)
  .rw[F8 (x:=⟨6,tx,n⟩) rfl];exact Qv B b E a D G tx n _ _ _ _ (m6 B b E a D G a' h.2.2.1 A) (m6 B b E a D G c h.2.2.2 C) (λi r J=>oh h.2.2.1 J) c.pos (λI a u v M J=>jV a' I a u v h.2.2.1 M J)
  .rw[JC (x:=⟨9,tx,n⟩) rfl];exact Qy B b E a D G tx n _ _ _ _ (m6 B b E a D G a' h.2.2.1 A) (m6 B b E a D G c h.2.2.2 C) (λi r J=>oh h.2.2.1 J) c.pos
theorem Of(t:Tr)(ht:t.Wf)(ds)(hd:ds=t.N)(hl:ſ ds<=400)(a wa cap wc ws)(hw:ſ ws<=wc)(Ac:ſ ws<=9223372036854775807)(w:Å)(hN:aS w a ds)(hI:eE w wa ws):
  Cb 100 #[Ã a (ſ ds) cap,Ã wa (ſ ws) wc] w (.tuple #[À (ei (t.show ws)),É Ê (qc (t.show ws))]):=by
 unfold Cb;have HN:Hid (aS w a ds):=hN;have n:Hid (eE w wa ws):=hI;have X:Hid (ds=t.N):=hd;clear hN hI hd;go_in;go_wp2
 go_loopw [6] (λi wr=>wr=w/\∃k:Nat,k<=ſ ws/\i=É Ê k/\∀j(h:j<ſ ws),j<k->ws[j]=0\/ws[j]=1) (λi _=>ſ ws-(Î i).toNat)
 case atStart=>exact⟨rfl,0,Nat.zero_le _,rfl,λj _ g=>by omega⟩
 case round=>
  obtain⟨rfl,k,hk,rfl,J⟩:=hrel;have m:Hid (∀j(h:j<ſ ws),j<k->ws[j]=0\/ws[j]=1):=J;clear J;by_cases S:k<ſ ws
  .obtain⟨b0,o0,ea,Aa,o⟩:=n.o k S;subst ea;by_cases B:ws[k]=0\/ws[k]=1
   .have Z:Hid (∀j(h:j<ſ ws),j<k+1->ws[j]=0\/ws[j]=1):=λj h g=>by
     by_cases l:j=k
     .subst l;exact B
     .exact m.o j h (by omega)
    rcases B with B|B
    all_goals
     rw[B]at o;clear B;go_wp2
     go_roundw
     case rel=>exact⟨by trivial,k+1,by omega,by go_num,Z.o⟩
     case measure=>simp[Î];omega
   .have H:ws[k]≠0:=λh=>B (.inl h)
    have I:ws[k]≠1:=λh=>B (.inr h)
    have Y:Hid (t.show ws=.error 1):=Og S H I;generalize ws[k]=c at o H I;have y:(c != 0)=true:=by simp[H]
    have g1:(c != 1)=true:=by simp[I]
    clear H I B;go_wp2;go_ret2;exact⟨by rw[Y.o];rfl,Below.refl _ _⟩
  .have U:ez ws:=λc hc=>by
    obtain⟨j,g,rfl⟩:=List.getElem_of_mem hc;exact m.o j g (by omega)
   have Y:Hid (t.show ws=match t.lay 0 ws with| .error e=>.error e| .ok (s,[])=>.ok s| .ok (_,_::_)=>.error 2):=AW U;clear U;have Q:kp wr.heap.size wr a ds:=HN.o
   have d:Hid (di wr.heap.size wr.heap.size (Ã a (ſ ds) cap) (Ã wa (ſ ws) wc) ⟨#[]⟩ 0 (wr.alloc (Â #[Ã a (ſ ds) cap,Ã wa (ſ ws) wc,À ⟨#[]⟩,É Ê 0] 188))):=
    ⟨Nat.le_refl _,by simp,by simp[go_sem],by simp[go_sem],by simp[go_sem],by simp[go_sem],by simp[go_sem],by simp[go_sem],by simp[go_sem]⟩
   have P:Hid (∀O:Obj,Á wr wr (wr.alloc O)):=λO=> Zb.alloc Zl O
   have b:Hid (∀W:Å,di wr.heap.size wr.heap.size (Ã a (ſ ds) cap) (Ã wa (ſ ws) wc) ⟨#[]⟩ 0 W->Á wr wr W->
     Calls prog 126 #[.pointer (Í ⟨wr,0,Ï⟩),É Ê 0,É Ê 0] W λe b=>e=.returned (.tuple #[])/\Laid wr.heap.size wr.heap.size (Ã a (ſ ds) cap) (t.lay 0 ws) ⟨#[]⟩ b/\Á wr W b):=λW h1 h2=>
    m6 wr.heap.size wr.heap.size ds a cap hl t ht (by rw[<-X.o];exact hl) 0 [] 0 ws wa wc ⟨#[]⟩ W (by rw[X.o];simp) (Q.W h2) (eK.W n.o h2) hw h1 (by rw[<-X.o];omega) (by rw[<-X.o];show 0+4000*ſ ds<=1000000000;omega)
   clear Q;go_wp2_with fail;refine(b.o _ d.o (P.o _)).mono ?_;rintro e w2⟨rfl,G,R⟩;have K:Hid (Á wr wr w2):=(P.o _).trans R;clear R;cases A:t.lay 0 ws with
   | error e0=>
    rw[A]at G;have E:=Y.o;rw[A]at E;have D:Hid (t.show ws=.error e0):=E;obtain⟨M,v',s',C⟩:=G;obtain⟨_,k1,k0,k4,k2,k3,q,v,x⟩:=C;have y:(e0==0)=false:=by simp[M]
    have g1:(e0 != 0)=true:=by simp[M]
    clear M A E;go_wp2_with fail
    go_quiet (fail)
    go_wp2;go_ret2;exact⟨by rw[D.o];rfl,K.o.trans ⟨rfl,rfl,rfl,Nat.le_refl _,λ_ _=>rfl⟩⟩
   | ok p=>
    obtain⟨u,r⟩:=p;rw[A]at G;have E:=Y.o;rw[A]at E;obtain⟨Ad,Ae,s2,L,C,_,Ab⟩:=G;cases r with
    | nil=>
     have D:Hid (t.show ws=.ok u):=E;have V:s2=⟨u.toArray⟩:=ox (by rw[L];simp);have f:Hid (s2=⟨u.toArray⟩):=V;simp only[List.length_nil]at C;obtain⟨_,k1,k0,k4,k2,k3,q,v,x⟩:=C;clear A E L V;go_wp2;go_ret2;exact⟨by rw[D.o];exact congrArg (λz=>Ending.returned (.tuple #[À z,É Ê 0])) f.o,K.o⟩
    | cons c r=>
     have D:Hid (t.show ws=.error 2):=E;simp only[Ë]at C;obtain⟨h0,k1,k0,k4,k2,k3,q,v,x⟩:=C;have y:(0:Int)<(ſ r:Int)+1:=by omega
     clear A E L;go_wp2_with fail
     go_quiet (fail)
     go_wp2;go_ret2;exact⟨by rw[D.o];rfl,(K.o.setCell (p:=⟨wr,3,Ï⟩) Zl _).trans ⟨rfl,rfl,rfl,Nat.le_refl _,λ_ _=>rfl⟩⟩
def ra(ds:List Td)(a:Option Addr)(cap:Nat)(F:Fo)(tx:List UInt8):Prop:=∀i r,ds.drop i=F.N++r->∀W:Å,aG W a ds->gd ds a cap i tx W
def pa(ds:List Td)(a:Option Addr)(cap:Nat):Fo->Prop
 | .nil=>True
 | .cons x k n=>ra ds a cap (.cons x k n) (ao x k.R).tx/\pa ds a cap n
theorem DX{Z a Y}(c:iP Z){x k n}(H:(Fo.cons x k n).ok)(d:ma x)(e:x.op=1\/x.op=2):ra Z a Y (.cons x k n) (ao x k.R).tx:=by
 intro i r N W M;obtain⟨S,L,_,_,_⟩:=jq N H;obtain⟨b,o,rfl,V,D,K,J⟩:=M i S;have X:=c.l;rw[L]at D K J;have E:∀o:Obj,Á W W (W.alloc o):=λo=> Zb.alloc Zl _
 have B:=aa E;rcases iE d with⟨A,U,P,Q,_⟩|⟨A,_,_,_⟩|⟨A,_⟩|⟨A,_⟩|⟨A,_⟩|⟨A,_⟩
 .have C:Hid ((ao x k.R).tx=aA x.n.toNat):=by show _=_;simp[ao,bh,A]
  obtain⟨m,O⟩:∃m:Nat,x.n=(m:Int):=⟨x.n.toNat,by omega⟩;rw[A]at D;rw[O]at J C;have G:m<=999999:=by omega
  rw[Int.toNat_natCast]at C;unfold gd;rw[C.o];have I:Hid (∀W:Å,Cw 19 #[(m:Int)] W (À (ab (aA m)))):=λW=>qz m G W
  generalize ab (aA m)=T at I⊢;go_in;go_wp2_with fail;refine an (I.o _) ?_;go_wp2;go_ret;exact⟨rfl,B.o _⟩
 .have C:Hid (ab (ao x k.R).tx=x.tx):=by
   show _=_
   have:(ao x k.R).tx=ae x.tx:=by simp[ao,bh,A]
   rw[this];rfl
  rw[A]at D;unfold gd;rw[C.o];go_in;go_wp2;go_ret;exact⟨rfl,B.o _⟩
 all_goals (exfalso;omega)
theorem QG:∀(F:Fo)(t:Tn),t∈F.R->ſ t.ns<=ſ F.N:=by intro F;induction F<;>grind [Fo.R,ao,p8,Fo.N]
theorem KQ{A:List Td}{i}{F:Fo}{r}(h:A.drop i=F.N++r):ſ F.N<=ſ A:=by grind [Ç,List.length_drop,Ä]
theorem qI{G}(I:iP G){i}{F:Fo}{r}(h:G.drop i=F.N++r)(B:F.ok)(A:F.exs)(t)(H:t∈F.R):ſ t.tx<=640:=by
 have C:=rK F B A t H;have D:=QG F t H;have E:=KQ h
 have:=I.l
 omega
theorem BA{ds a cap}(hs:iP ds){x k n}(C:(Fo.cons x k n).ok)(f:(Fo.cons x k n).exs)(h2:x.op=5\/x.op=6)(hk:pa ds a cap k):ra ds a cap (.cons x k n) (ao x k.R).tx:=by
 intro i r hi W O;obtain⟨t,X,d,_,_⟩:=jq hi C
 have g:aE x=2:=by
  unfold aE;rcases h2 with h|h<;>rw[h]<;>rfl
 have m:k.len=2:=C.1.trans g;have K:k.exs:=λy hy=>f y (by simp[Fo.N,hy])
 obtain⟨G,D,H,E,rfl⟩:∃G D H E,k=.cons G D (.cons H E .nil):=by
  match k,m with
  | .cons G D (.cons H E .nil),_=>exact⟨G,D,H,E,rfl⟩
 have M:(Fo.cons G D (.cons H E .nil)).R=[ao G D.R,ao H E.R]:=rfl;have w:=qI hs d C.2.1 K (ao G D.R) (by rw[M];simp);have z:=qI hs d C.2.1 K (ao H E.R) (by rw[M];simp);obtain⟨p,ea,_,V,L⟩:=jq d C.2.1;obtain⟨q,s,_,_,_⟩:=jq L C.2.1.2.2;generalize hj:i+1+1+ſ D.N=j at V L q s;have HN:Hid (aG W a ds):=O;have hl:=hs.l
 have S:Hid (∀b:Å,Á W W b->Cb 54 #[Ã a (ſ ds) cap,↑(i:Int),↑((i:Int)+1),.bool false] b (À (ab (br (cW x.op false) (ao G D.R))))):=λW' P=>by
  have h:=I3 W' (O.W P) t p (by rw[X];exact h2) false (ao G D.R) (by rw[ea];rfl) (by omega) (hk.1 (i+1) _ d W' (O.W P)) (cap:=cap);rw[X,show((i+1:Nat):Int)=(i:Int)+1 by omega]at h;exact h
 have Z:Hid (∀b:Å,Á W W b->Cp 55 #[Ã a (ſ ds) cap,↑((i:Int)+1)] b λe a=>e=.returned ↑(j:Int)/\Á b b a):=λW' P=>by
  have h:=qt (cap:=cap) hs V p W' (O.W P);rw[show((i+1:Nat):Int)=(i:Int)+1 by omega]at h;exact h
 have U:Hid (∀b:Å,Á W W b->Cb 54 #[Ã a (ſ ds) cap,↑(i:Int),↑(j:Int),.bool true] b (À (ab (br (cW x.op true) (ao H E.R))))):=λW' P=>by
  have h:=I3 W' (O.W P) t q (by rw[X];exact h2) true (ao H E.R) (by rw[s];rfl) (by omega) (hk.2.1 j _ L W' (O.W P)) (cap:=cap);rw[X]at h;exact h
 have u:(ab (br (cW x.op false) (ao G D.R))).size<=1000:=by
  have:=o2 (cW x.op false) (ao G D.R)
  rw[cg];omega
 have v:(ab (br (cW x.op true) (ao H E.R))).size<=1000:=by
  have:=o2 (cW x.op true) (ao H E.R)
  rw[cg];omega
 have c:Hid (ab (ao x [ao G D.R,ao H E.R]).tx=ab (br (cW x.op false) (ao G D.R))++(if x.op=5 then⟨#[32,43,32]⟩else⟨#[32,42,32]⟩)++ab (br (cW x.op true) (ao H E.R))):=by
  show _=_;have q1:(⟨#[32,43,32]⟩:ByteArray)=ab [32,43,32]:=rfl;have q2:(⟨#[32,42,32]⟩:ByteArray)=ab [32,42,32]:=rfl;rcases h2 with h|h
  .rw[if_pos h,q1,bn,bn];simp[ao,bh,h,two2,cW]
  .rw[if_neg (by omega),q2,bn,bn];simp[ao,bh,h,two2,cW]
 obtain⟨b,o,rfl,P,c1,c2,c3⟩:=O i t;have Aa:(i:Int)<(ſ ds:Int):=by omega
 rw[X]at c1 c2 c3;rw[M];unfold gd;rw[c.o];clear c hk hi C f m K M w z X d V L ea s hj g O;generalize ab (br (cW x.op false) (ao G D.R))=A at S u⊢;generalize ab (br (cW x.op true) (ao H E.R))=B at U v⊢;obtain⟨xo,xt,xn⟩:=x;simp only at h2 c1 c2 c3⊢;rcases h2 with rfl|rfl
 .rw[if_pos rfl];go_in;go_wp2_with fail;refine ai (S.o _ (Zb.alloc Zl _)) λw1 b1=>?_
  have Y:Á W W w1:=ji Zb Zl b1;have I:=aa Y;clear b1 Y;go_wp2_with fail;refine ai (Z.o _ I.o) λw2 b2=>?_
  have J:=aa (aH I.o Zl b2);clear b2;go_wp2_with fail;refine ai (U.o _ J.o) λw3 b3=>?_
  have Q:=aa (aH J.o Zl b3);clear b3;go_wp2;go_ret;exact⟨rfl,Q.o⟩
 .rw[if_neg (by omega)];go_in;go_wp2_with fail;refine ai (S.o _ (Zb.alloc Zl _)) λw1 b1=>?_
  have Y:Á W W w1:=ji Zb Zl b1;have I:=aa Y;clear b1 Y;go_wp2_with fail;refine ai (Z.o _ I.o) λw2 b2=>?_
  have J:=aa (aH I.o Zl b2);clear b2;go_wp2_with fail;refine ai (U.o _ J.o) λw3 b3=>?_
  have Q:=aa (aH J.o Zl b3);clear b3;go_wp2;go_ret;exact⟨rfl,Q.o⟩
def pu:List Tn->List UInt8
 | []=>[]
 | t::r=>44::32::cm (t::r)
theorem zo(t r):cm (t::r)=t.tx++pu r:=by
 cases r with
 | nil=>simp[cm,pu]
 | cons u r=>simp[cm,pu]
def lh(q:Nat)(ks:List Tn):List UInt8:=if q=0 then cm ks else pu ks
structure oZ(ds:List Td)(a:Option Addr)(cap:Nat)(full:List UInt8)(N:Nat)(r:List Td)(q pos:Nat)(K:Fo)(s:List UInt8):Prop where
 n:K.len+q=N
 d:ds.drop pos=K.N++r
 ok:K.ok
 ex:K.exs
 tx:pa ds a cap K
 f:full=s++lh q K.R
theorem oZ.next{I a H B N r q A y J K s}(h:oZ I a H B N r q A (.cons y J K) s):
  oZ I a H B N r (q+1) (A+1+ſ J.N) K (s++(if q=0 then []else [44,32])++(ao y J.R).tx)/\A<ſ I/\bJ I A 1=Í (A+1+ſ J.N):=by
 obtain⟨G,_,_,D,E⟩:=jq h.d h.ok;refine⟨⟨?_,E,h.ok.2.2,λz L=>h.ex z (by simp[Fo.N,L]),h.tx.2,?_⟩,G,D⟩
 .have:=h.n
  simp only[Fo.len]at this;omega
 .rw[h.f,Fo.R,lh,lh,if_neg (by omega:¬q+1=0)];by_cases C:q=0
  .rw[if_pos C,if_pos C,zo];simp
  .rw[if_neg C,if_neg C,pu,zo];simp
theorem DY{ds a cap}(hs:iP ds){x k n}(Aa:(Fo.cons x k n).ok)(Ad:(Fo.cons x k n).exs)(h2:x.op=3\/x.op=4)(hk:pa ds a cap k):ra ds a cap (.cons x k n) (ao x k.R).tx:=by
 intro i r hi W hN;obtain⟨hp,e1,e2,_,_⟩:=jq hi Aa;have Ah:k.exs:=λy hy=>Ad y (by simp[Fo.N,hy])
 have hz:=qI hs hi Aa Ad (ao x k.R) (by rw[Fo.R];simp);have HN:=aa hN;have HS:=aa hs;have hl:=hs.l
 obtain⟨N,hn,Ao,Ak⟩:∃N:Nat,x.n=(N:Int)/\N<=6/\aE x=N:=by
  rcases iE (Ad x (by simp[Fo.N]))with⟨ho,_⟩|⟨ho,_⟩|⟨ho,_,h3,h4,h5⟩|⟨ho,_,h3,h4,h5⟩|⟨ho,_⟩|⟨ho,_⟩
  .omega
  .omega
  .exact⟨x.n.toNat,by omega,by omega,h5⟩
  .exact⟨x.n.toNat,by omega,by omega,h5⟩
  .omega
  .omega
 have An:=Aa.1.trans Ak
 have v:Hid (∀b:List UInt8,oZ ds a cap (b++cm k.R) N (n.N++r) 0 (i+1) k b):=λpre=>
  ⟨by omega,e2,Aa.2.1,Ah,hk,by rw[lh,if_pos rfl]⟩
 obtain⟨b,o,rfl,I,c1,c2,c3⟩:=hN i hp;rw[e1]at c1 c2 c3;rw[hn]at c3
 have Am:x.tx.size<=640\/x.op=4:=by
  rcases h2 with h|h
  .left
   have:(ao x k.R).tx.length=_:=congrArg Ç (show(ao x k.R).tx=ae x.tx++40::(cm k.R++[41]) by simp[ao,bh,h])
   rw[Ä,aw]at this;omega
  .exact .inr h
 have w:Hid (x.op=3->(ao x k.R).tx=(ae x.tx++[40])++cm k.R++[41]):=λh=>by simp[ao,bh,h]
 have z:Hid (x.op=4->(ao x k.R).tx=[91]++cm k.R++[93]):=λh=>by simp[ao,bh,h]
 unfold gd
 generalize(ao x k.R).tx=full at hz w z⊢
 generalize cm k.R=body at v w z;generalize n.N++r=r' at v;obtain⟨xo,M,xn⟩:=x;simp only at h2 c1 c2 c3 Am w z;rcases h2 with rfl|rfl
 .have HF:=(show Hid (_=_)from w.o rfl);have Z:=aa (v.o (ae M++[40]))
  have HP:Hid (M++(⟨#[40]⟩:ByteArray)=ab (ae M++[40])):=by
   show _=_;rw[<-bn];rfl
  go_in;go_wp2_with fail;have Ab:∀wr:Å,Á (W.heap.size+1) (W.alloc (Â #[É Ê 3,À M,(N:Int)] 81)) wr->wr.cell? (W.heap.size,2)=Í ↑(N:Int):=λwr I=>(I.cell (p:=(W.heap.size,2)) (Nat.lt_succ_self _)).trans (by simp[go_sem])
  have V:=aa Ab;have D:Hid (∀wr:Å,Á (W.heap.size+1) (W.alloc (Â #[É Ê 3,À M,(N:Int)] 81)) wr->Á W W wr):=λwr I=>(Zb.alloc Zl _).trans (I.mono (by omega))
  have X:Hid (Á (W.heap.size+1) (W.alloc (Â #[É Ê 3,À M,(N:Int)] 81)) (W.alloc (Â #[É Ê 3,À M,(N:Int)] 81))):=Below.refl _ _;have G:Hid (∀wr:Å,Á (W.heap.size+1) (W.alloc (Â #[É Ê 3,À M,(N:Int)] 81)) wr->W.heap.size+1<=wr.heap.size):=λwr I=>by have:=I.size;rw[Æ]at this;exact this
  generalize W.alloc (Â #[É Ê 3,À M,(N:Int)] 81)=W1 at V D X G⊢;rw[HP.o]
  go_loopw [6,8,9] (λs a q wr=>∃(q' B:Nat)(K:Fo)(t:List UInt8),s=À (ab t)/\a=(B:Int)/\q=(q':Int)/\oZ ds (Í ↑(b,o)) cap ((ae M++[40])++body) N r' q' B K t/\Á (W.heap.size+1) W1 wr) (λ_ _ q _=>N-(Î q).toNat)
  case atStart=>exact⟨0,i+1,k,(ae M++[40]),rfl,by go_num,rfl,Z.o,X.o⟩
  case round=>
   obtain⟨q,B,K,t,rfl,rfl,rfl,hM,hB⟩:=hrel;have J:=aa hM;have O:=aa hB;have Aj:=V.o wr hB;have L:=hM.n
   have U:(ab t).size<=640:=by
    have c:=congrArg Ç hM.f;have h2:=congrArg Ç HF.o;simp only[Ä]at c h2;rw[cg];omega
   by_cases hq:q<N
   .have Af:(q:Int)<(N:Int):=by omega
    match K,L,J with
    | .nil,L,_=>simp only[Fo.len]at L;exfalso;omega
    | .cons y ky K',_,J=>
     obtain⟨Ae,g,Ac⟩:=J.o.next;have Ag:=qI HS.o J.o.d J.o.ok J.o.ex (ao y ky.R) (by rw[Fo.R];simp);have E:=aa Ae;have H:Hid (∀e:Å,Á W W e->gd ds (Í ↑(b,o)) cap B (ao y ky.R).tx e):=λe I=>J.o.tx.1 B r' J.o.d e (HN.o.W I)
     have Q:Hid (∀e:Å,Á W W e->Cb 55 #[Ã (Í ↑(b,o)) (ſ ds) cap,(B:Int)] e ((B+1+ſ ky.N:Nat):Int)):=λe I=>qt HS.o Ac g e (HN.o.W I)
     have u:(ab (ao y ky.R).tx).size<=640:=by rw[cg];exact Ag
     unfold gd at H;generalize Al:B+1+ſ ky.N=ps at E Q;by_cases j:q=0
     .subst j
      have A:Hid (ab t++ab (ao y ky.R).tx=ab (t++(if 0=0 then []else [44,32])++(ao y ky.R).tx)):=by
       show _=_;rw[if_pos rfl,È,bn]
      generalize t++(if 0=0 then []else [44,32])++(ao y ky.R).tx=t' at E A;generalize ab (ao y ky.R).tx=Y at H A u;generalize ab t=S at A U⊢;go_wp2_with fail;refine ai (H.o _ (D.o _ O.o)) λw2 b2=>?_
      have C:=aa (O.o.trans (b2.mono (G.o _ O.o)));go_wp2_with fail;refine ai (Q.o _ (D.o _ C.o)) λw3 b3=>?_
      have P:=aa (C.o.trans (b3.mono (G.o _ C.o)));go_wp2;exact⟨⟨1,ps,K',t',by rw[A.o],rfl,rfl,E.o,P.o⟩,by simp[Î];omega⟩
     .have Ai:(0:Int)<(q:Int):=by omega
      have A:Hid (ab t++(⟨#[44,32]⟩:ByteArray)++ab (ao y ky.R).tx=ab (t++(if q=0 then []else [44,32])++(ao y ky.R).tx)):=by
       show _=_;rw[if_neg j,<-bn,<-bn];rfl
      have m:(ab t++(⟨#[44,32]⟩:ByteArray)).size<=1000:=by
       have e3:(⟨#[44,32]⟩:ByteArray).size=2:=rfl;rw[ByteArray.size_append,e3];omega
      generalize t++(if q=0 then []else [44,32])++(ao y ky.R).tx=t' at E A;generalize ab (ao y ky.R).tx=Y at H A u;generalize ab t=S at A U m⊢;go_wp2_with fail;refine ai (H.o _ (D.o _ O.o)) λw2 b2=>?_
      have C:=aa (O.o.trans (b2.mono (G.o _ O.o)));generalize S++(⟨#[44,32]⟩:ByteArray)=S2 at A m⊢;go_wp2_with fail;refine ai (Q.o _ (D.o _ C.o)) λw3 b3=>?_
      have P:=aa (C.o.trans (b3.mono (G.o _ C.o)));go_wp2;exact⟨⟨q+1,ps,K',t',by rw[A.o],rfl,by go_num,E.o,P.o⟩,by simp[Î];omega⟩
   .have Af:¬(q:Int)<(N:Int):=by omega
    have HE:Hid (ab t++(⟨#[41]⟩:ByteArray)=ab full):=by
     have hK:K=.nil:=by
      cases K with
      | nil=>rfl
      | cons y ky K'=>simp only[Fo.len]at L;omega
     have c:=J.o.f;rw[hK]at c
     have h2:lh q Fo.nil.R=[]:=by
      unfold lh
      split<;>rfl
     rw[h2,È]at c;show _=_;rw[HF.o,c,<-bn];rfl
    generalize ab t=S at HE U⊢;go_wp2;go_ret;exact⟨by rw[<-HE.o];rfl,D.o _ O.o⟩
 .have HF:=(show Hid (_=_)from z.o rfl);have Z:=aa (v.o [91]);go_in;go_wp2_with fail;have Ab:∀wr:Å,Á (W.heap.size+1) (W.alloc (Â #[É Ê 4,À M,(N:Int)] 81)) wr->wr.cell? (W.heap.size,2)=Í ↑(N:Int):=λwr I=>(I.cell (p:=(W.heap.size,2)) (Nat.lt_succ_self _)).trans (by simp[go_sem])
  have V:=aa Ab;have D:Hid (∀wr:Å,Á (W.heap.size+1) (W.alloc (Â #[É Ê 4,À M,(N:Int)] 81)) wr->Á W W wr):=λwr I=>(Zb.alloc Zl _).trans (I.mono (by omega))
  have X:Hid (Á (W.heap.size+1) (W.alloc (Â #[É Ê 4,À M,(N:Int)] 81)) (W.alloc (Â #[É Ê 4,À M,(N:Int)] 81))):=Below.refl _ _;have G:Hid (∀wr:Å,Á (W.heap.size+1) (W.alloc (Â #[É Ê 4,À M,(N:Int)] 81)) wr->W.heap.size+1<=wr.heap.size):=λwr I=>by have:=I.size;rw[Æ]at this;exact this
  generalize W.alloc (Â #[É Ê 4,À M,(N:Int)] 81)=W1 at V D X G⊢
  go_loopw [6,8,9] (λs a q wr=>∃(q' B:Nat)(K:Fo)(t:List UInt8),s=À (ab t)/\a=(B:Int)/\q=(q':Int)/\oZ ds (Í ↑(b,o)) cap ([91]++body) N r' q' B K t/\Á (W.heap.size+1) W1 wr) (λ_ _ q _=>N-(Î q).toNat)
  case atStart=>exact⟨0,i+1,k,[91],rfl,by go_num,rfl,Z.o,X.o⟩
  case round=>
   obtain⟨q,B,K,t,rfl,rfl,rfl,hM,hB⟩:=hrel;have J:=aa hM;have O:=aa hB;have Aj:=V.o wr hB;have L:=hM.n
   have U:(ab t).size<=640:=by
    have c:=congrArg Ç hM.f;have h2:=congrArg Ç HF.o;simp only[Ä]at c h2;rw[cg];omega
   by_cases hq:q<N
   .have Af:(q:Int)<(N:Int):=by omega
    match K,L,J with
    | .nil,L,_=>simp only[Fo.len]at L;exfalso;omega
    | .cons y ky K',_,J=>
     obtain⟨Ae,g,Ac⟩:=J.o.next;have Ag:=qI HS.o J.o.d J.o.ok J.o.ex (ao y ky.R) (by rw[Fo.R];simp);have E:=aa Ae;have H:Hid (∀e:Å,Á W W e->gd ds (Í ↑(b,o)) cap B (ao y ky.R).tx e):=λe I=>J.o.tx.1 B r' J.o.d e (HN.o.W I)
     have Q:Hid (∀e:Å,Á W W e->Cb 55 #[Ã (Í ↑(b,o)) (ſ ds) cap,(B:Int)] e ((B+1+ſ ky.N:Nat):Int)):=λe I=>qt HS.o Ac g e (HN.o.W I)
     have u:(ab (ao y ky.R).tx).size<=640:=by rw[cg];exact Ag
     unfold gd at H;generalize Al:B+1+ſ ky.N=ps at E Q;by_cases j:q=0
     .subst j
      have A:Hid (ab t++ab (ao y ky.R).tx=ab (t++(if 0=0 then []else [44,32])++(ao y ky.R).tx)):=by
       show _=_;rw[if_pos rfl,È,bn]
      generalize t++(if 0=0 then []else [44,32])++(ao y ky.R).tx=t' at E A;generalize ab (ao y ky.R).tx=Y at H A u;generalize ab t=S at A U⊢;go_wp2_with fail;refine ai (H.o _ (D.o _ O.o)) λw2 b2=>?_
      have C:=aa (O.o.trans (b2.mono (G.o _ O.o)));go_wp2_with fail;refine ai (Q.o _ (D.o _ C.o)) λw3 b3=>?_
      have P:=aa (C.o.trans (b3.mono (G.o _ C.o)));go_wp2;exact⟨⟨1,ps,K',t',by rw[A.o],rfl,rfl,E.o,P.o⟩,by simp[Î];omega⟩
     .have Ai:(0:Int)<(q:Int):=by omega
      have A:Hid (ab t++(⟨#[44,32]⟩:ByteArray)++ab (ao y ky.R).tx=ab (t++(if q=0 then []else [44,32])++(ao y ky.R).tx)):=by
       show _=_;rw[if_neg j,<-bn,<-bn];rfl
      have m:(ab t++(⟨#[44,32]⟩:ByteArray)).size<=1000:=by
       have e3:(⟨#[44,32]⟩:ByteArray).size=2:=rfl;rw[ByteArray.size_append,e3];omega
      generalize t++(if q=0 then []else [44,32])++(ao y ky.R).tx=t' at E A;generalize ab (ao y ky.R).tx=Y at H A u;generalize ab t=S at A U m⊢;go_wp2_with fail;refine ai (H.o _ (D.o _ O.o)) λw2 b2=>?_
      have C:=aa (O.o.trans (b2.mono (G.o _ O.o)));generalize S++(⟨#[44,32]⟩:ByteArray)=S2 at A m⊢;go_wp2_with fail;refine ai (Q.o _ (D.o _ C.o)) λw3 b3=>?_
      have P:=aa (C.o.trans (b3.mono (G.o _ C.o)));go_wp2;exact⟨⟨q+1,ps,K',t',by rw[A.o],rfl,by go_num,E.o,P.o⟩,by simp[Î];omega⟩
   .have Af:¬(q:Int)<(N:Int):=by omega
    have HE:Hid (ab t++(⟨#[93]⟩:ByteArray)=ab full):=by
     have hK:K=.nil:=by
      cases K with
      | nil=>rfl
      | cons y ky K'=>simp only[Fo.len]at L;omega
     have c:=J.o.f;rw[hK]at c
     have h2:lh q Fo.nil.R=[]:=by
      unfold lh
      split<;>rfl
     rw[h2,È]at c;show _=_;rw[HF.o,c,<-bn];rfl
    generalize ab t=S at HE U⊢;go_wp2;go_ret;exact⟨by rw[<-HE.o];rfl,D.o _ O.o⟩
theorem vw{I:List Td}{a:Option Addr}{cap:Nat}(C:iP I):∀F:Fo,F.ok->F.exs->pa I a cap F
 | .nil,_,_=>trivial
 | .cons x k n,hok,hex=>by
  have D:k.exs:=λy H=>hex y (by simp[Fo.N,H])
  have E:n.exs:=λy H=>hex y (by simp[Fo.N,H])
  have B:=vw (a:=a) (cap:=cap) C k hok.2.1 D;refine⟨?_,vw C n hok.2.2 E⟩;have G:=hex x (by simp[Fo.N]);rcases iE G with⟨A,_⟩|⟨A,_⟩|⟨A,_⟩|⟨A,_⟩|⟨A,_⟩|⟨A,_⟩
  .exact DX C hok G (.inl A)
  .exact DX C hok G (.inr A)
  .exact DY C hok hex (.inl A) B
  .exact DY C hok hex (.inr A) B
  .exact BA C hok hex (.inl A) B
  .exact BA C hok hex (.inr A) B
theorem QI{C}(h:ag C=0):iP C:=by
 obtain⟨A,B,_,_⟩:=lF h;exact⟨A,B⟩
theorem Pk(W:Å)(a b c t):(W.alloc (Â #[a,b,c] t)).cell? (W.heap.size,1)=Í b:=by
 have A:(W.alloc (Â #[a,b,c] t)).heap[W.heap.size]?=Í (Â #[a,b,c] t (0,0)):=by
  show(W.heap.push _)[W.heap.size]?=_
  simp
 have B:(W.alloc (Â #[a,b,c] t)).cell? ⟨W,1,Ï⟩=(match (W.alloc (Â #[a,b,c] t)).heap[W.heap.size]? with
  | some (Â c _ _)=>c[1]?
  | _=>Ï):=rfl
 rw[B,A];rfl
theorem LG{ds a cap}(h:ag ds=0)(W)(hN:aG W a ds):gd ds a cap 0 (aT ds) W:=by
 have E:=QI h;have L:∀o:Obj,Á W W (W.alloc o):=λo=> Zb.alloc Zl _
 have I:=aa L;rcases kL h with⟨x,rfl,A,_,V⟩|⟨x,F,rfl,G,M,c,u⟩
 .have U:(Fo.nil).len=aE x:=by unfold aE;rw[A];rfl
  have s:aT [x]=fT x []:=(jJ (x:=x) (F:=.nil) trivial U).1;have h2:=tQ V;obtain⟨b,o,rfl,z,S,g,i⟩:=hN 0 (by simp);simp only[Ì,Nat.zero_mul,Nat.add_zero]at S g i;rw[A]at S;rw[s];unfold fT gd;rw[if_neg (by omega),if_neg (by omega)];clear s U V h E L hN A;by_cases t:x.tx.size=0
  .rw[if_pos t];go_in;go_wp2;go_ret;exact⟨rfl,I.o _⟩
  .rw[if_neg t];have w:¬(x.tx.size:Int)=0:=by omega
   have H:Hid ((⟨#[35,32]⟩:ByteArray)++x.tx=ab ([35,32]++ae x.tx)):=by
    show _=_;rw[<-bn];rfl
   generalize ab ([35,32]++ae x.tx)=R at H⊢;go_in;go_wp2;go_ret;exact⟨by rw[<-H.o];rfl,I.o _⟩
 .obtain⟨y,k,rfl⟩:=wN c
  have U:(Fo.cons y k .nil).len=aE x:=by
   rw[c];unfold aE;rcases u with⟨A,_⟩|⟨A,_⟩<;>rw[A]<;>rfl
  have q:=Hy G M (by have:=E.l;simp only[Ë]at this;omega);have m:=(vw (a:=a) (cap:=cap) E _ G M).1 1 [] (by simp);rw[(jJ G U).1];have Q:∀o:Obj,aG (W.alloc o) a (x::(Fo.cons y k .nil).N):=λo=>hN.alloc o
  have J:=aa Q;obtain⟨b,o,rfl,z,S,g,i⟩:=hN 0 (by simp);simp only[Ì,Nat.zero_mul,Nat.add_zero]at S g i;have Aa:(0:Int)<((x::(Fo.cons y k .nil).N).length:Int):=by simp only[Ë];omega
  have Y:(ab (ao y k.R).tx).size<=640:=by rw[cg];exact q
  have Z:Hid (∀W:Å,aG W (Í ⟨b,o,Ï⟩) (x::(Fo.cons y k .nil).N)->gd (x::(Fo.cons y k .nil).N) (Í ⟨b,o,Ï⟩) cap 1 (ao y k.R).tx W):=m;unfold fT;rcases u with⟨A,X,_⟩|⟨A,_,_⟩
  .have h8:x.tx.size<=8:=by rw[<-aw];exact jd X
   have H:Hid ((⟨#[108,101,116,32]⟩:ByteArray)++x.tx++⟨#[32,61,32]⟩++ab (ao y k.R).tx++⟨#[59]⟩=ab ([108,101,116,32]++ae x.tx++[32,61,32]++iM (Fo.cons y k .nil).R++[59])):=by
    show _=_;rw[<-bn,<-bn,<-bn,<-bn];rfl
   rw[if_pos A];rw[A]at S
   generalize(x::(Fo.cons y k .nil).N)=ds at *
   unfold gd;generalize ab ([108,101,116,32]++ae x.tx++[32,61,32]++iM (Fo.cons y k .nil).R++[59])=R at H⊢;generalize D:ab (ao y k.R).tx=T at Y H;obtain⟨C,B⟩:∃C,C=W.alloc (Â #[É Ê 7,À x.tx,É Ê 0] 81):=⟨_,rfl⟩
   have O:Hid (Cp 37 #[Ã (Í ⟨b,o,Ï⟩) (ſ ds) cap,É Ê 1] C.drew λe a=>e=.returned (À T)/\Á C C a):=by
    have P:=Z.o C.drew (by rw[B];exact(J.o _).W Zb.drew);unfold gd at P;rw[D]at P;exact P.mono λ_ _ hh=>⟨hh.1,(Below.refl C.heap.size C).drew.trans hh.2⟩
   have d:Hid (Á W W C):=by rw[B];exact I.o _
   have n:W.heap.size<C.heap.size:=by rw[B,Æ];omega
   have r:C.cell? ⟨W,1,Ï⟩=Í (À x.tx):=by rw[B];exact Pk _ _ _ _ _
   have v:C.drew.cell? ⟨W,1,Ï⟩=Í (À x.tx):=r;have f:Hid (_=_):=B;have g1:¬9223372036854775807<4+x.tx.size:=by omega
   have g2:¬9223372036854775807<4+x.tx.size+3:=by omega
   have g3:¬9223372036854775807<4+x.tx.size+3+T.size:=by omega
   have g4:¬9223372036854775807<4+x.tx.size+3+T.size+1:=by omega
   clear D Z J Q m hN q U G M c X A E h L B;go_in;go_wp2_with fail;rw[<-f.o]
   go_region_held3 (λa=>a.cell? ⟨W,1,Ï⟩=Í (À x.tx))
    (first|with_reducible exact v|with_reducible exact r|with_reducible exact(K.cell (p:=⟨W,1,Ï⟩) n).trans r)
    ((go_at_call 37;refine O.o.mono ?_;rintro e w2⟨rfl,K⟩))
   all_goals
    go_wp2;go_ret;exact⟨by rw[<-H.o];rfl,d.o.trans (K.mono (by omega))⟩
  .have H:Hid (ab (ao y k.R).tx++⟨#[59]⟩=ab (iM (Fo.cons y k .nil).R++[59])):=by
    show _=_;rw[<-bn];rfl
   rw[if_neg (by omega),if_pos A];rw[A]at S
   generalize(x::(Fo.cons y k .nil).N)=ds at *
   unfold gd;generalize ab (iM (Fo.cons y k .nil).R++[59])=R at H⊢;generalize D:ab (ao y k.R).tx=T at Y H
   have O:Hid (∀a:Obj,Cp 37 #[Ã (Í ⟨b,o,Ï⟩) (ſ ds) cap,É Ê 1] (W.alloc a) λe a=>e=.returned (À T)/\Á W W a):=λo'=>by
    have j:=Z.o _ (J.o o');unfold gd at j;rw[D,Æ]at j;exact j.mono λ_ _ hh=>⟨hh.1,(I.o o').trans (hh.2.mono (by omega))⟩
   clear D Z J Q m hN q U G M c A E h L;go_in;go_wp2_with fail;refine ai (O.o _) λw2 K=>?_
   go_wp2;go_ret;exact⟨by rw[<-H.o];rfl,K⟩
