import Derived.Test.YtelcnplcpboonaaGreatDoorPe20
open Go.Proofs.Tryz
open List renaming length->ſ
open List renaming length_append->À,length_cons->Ã,length_nil->Ê,replicate->Í,append_assoc->Î,getElem_cons_zero->Ò,length_drop->Ö,length->Û
open Go.Ending renaming returned->Á
open Go.Value renaming int->Â,pointer->Å,string->Æ,slice->Ç,tuple->Ï,nilIface->Ñ,bool->Ô
open Go.IntKind renaming i64->Ä
open Go.RowKit renaming Below->È,intOf->Ù
open Go renaming World->É,results_none->Õ,Calls->Ø
open Option renaming none->Ë,some->Ì
open Go.Obj renaming cells->Ð
open Bool renaming false->Ó,true->Ú
namespace Go.Proofs.YtelcnplcpboonaaGreatDoor
open Go Go.RowKit
set_option maxRecDepth 100000
set_option maxHeartbeats 1000000
def di(B b:Nat)(d:Value)(v:Value)(s:ByteArray)(e:Int)(w:É):Prop:=
 B<=b/\b<w.heap.size/\w.cell? ⟨b,0,Ë⟩=Ì d/\w.cell? ⟨b,1,Ë⟩=Ì v/\w.cell? ⟨b,2,Ë⟩=Ì (Æ s)/\w.cell? ⟨b,3,Ë⟩=Ì (Â Ä e)
  /\w.frozen? ⟨b,1,Ë⟩=Ó/\w.frozen? ⟨b,2,Ë⟩=Ó/\w.frozen? ⟨b,3,Ë⟩=Ó
theorem di.W{B b d v s e w w'}(h:di B b d v s e w)(N:È w w w'):di B b d v s e w':=by
 obtain⟨M,A,E,G,H,I,J,K,L⟩:=h;obtain⟨C,D⟩:=a9 N
 have:=N.size
 exact⟨M,by omega,(C _ _ A).trans E,(C _ _ A).trans G,(C _ _ A).trans H,(C _ _ A).trans I,(D _ _ A).trans J,(D _ _ A).trans K,(D _ _ A).trans L⟩
theorem di.alloc{B b d v s e w}(h:di B b d v s e w)(O):di B b d v s e (w.alloc O):=h.W (Zb.alloc Zl _)
theorem di.drew{B b d v s e w}(h:di B b d v s e w):di B b d v s e w.drew:=h
theorem qD(w:É)(p v):(w.setCell p v).heap.size=w.heap.size:=by simp[World.setCell]
theorem di.text{B b d v s e w}(h:di B b d v s e w)(L):di B b d v L e (w.setCell (b,2) (Æ L)):=by
 obtain⟨J,K,A,C,D,E,G,H,I⟩:=h;exact⟨J,by rw[qD];exact K,(af (by omega)).trans A,(af (by omega)).trans C,cF D,(af (by omega)).trans E,gc.trans G,gc.trans H,gc.trans I⟩
theorem di.ways{B b d v s e w}(h:di B b d v s e w)(L):di B b d L s e (w.setCell (b,1) L):=by
 obtain⟨J,K,A,C,D,E,G,H,I⟩:=h;exact⟨J,by rw[qD];exact K,(af (by omega)).trans A,cF C,(af (by omega)).trans D,(af (by omega)).trans E,gc.trans G,gc.trans H,gc.trans I⟩
theorem di.fault{B b d v s e w}(h:di B b d v s e w)(L):di B b d v s L (w.setCell (b,3) L):=by
 obtain⟨J,K,A,C,D,E,G,H,I⟩:=h;exact⟨J,by rw[qD];exact K,(af (by omega)).trans A,(af (by omega)).trans C,(af (by omega)).trans D,cF E,gc.trans G,gc.trans H,gc.trans I⟩
theorem Ng(n:Nat)(G:n<=4000)(w):Cw 161 #[n] w (Æ ⟨(Í n 32).toArray⟩):=by
 unfold Cw;go_in;go_wp2
 go_loopw [3,4] (λs i wr=>wr=w/\∃(k:Nat)(t:ByteArray),k<=n/\i=k/\s=Æ t/\t.data.toList=Í k 32) (λ_ i _=>n-(Ù i).toNat)
 case atStart=>exact⟨rfl,0,⟨#[]⟩,Nat.zero_le _,rfl,rfl,rfl⟩
 case round=>
  obtain⟨rfl,k,t,E,rfl,rfl,A⟩:=hrel;have D:t.size<=4000:=by rw[<-fu,A,List.length_replicate];omega
  have B:Hid (t.data.toList=Í k 32):=A;clear A;by_cases C:k<n
  .go_wp2
   go_roundw
   case rel=>
    refine⟨by trivial,k+1,_,by omega,by go_num,rfl,?_⟩;simp[B.o,List.replicate_succ']
   case measure=>simp[Ù];omega
  .obtain rfl:k=n:=by omega
   have e:t=⟨(Í k 32).toArray⟩:=ox (by rw[B.o]);go_wp2;go_ret;exact⟨by rw[<-e];rfl,rfl⟩
theorem IZ{B b d N wc s w}(h:di B b d (Ç N 0 wc) s 0 w):
  Ø prog 162 #[Å b] w λe M=>e=Á (Â Ä 0)/\di B b d (Ç N 0 wc) s 2 M/\È B w M:=by
 have A:=aa h;obtain⟨C,L,D,E,G,H,I,J,K⟩:=h;go_in;go_wp2;go_ret;exact⟨rfl,A.o.fault 2,Zb.setCell (p:=(b,3)) C _⟩
theorem pP{B b d i wc s w}(c ws)(h:di B b d (Ç i (ſ ws+1) wc) s 0 w)(g:eK B w i (c::ws))(j:ſ ws+1<=wc):
  Ø prog 162 #[Å b] w λe f=>e=Á c/\(∃Z a,di B b d (Ç Z (ſ ws) a) s 0 f/\eK B f Z ws/\(ſ ws)<=a)/\È B w f:=by
 have G:=aa h;obtain⟨N,Y,K,L,J⟩:=g 0 (by simp);subst K;have H:=aa (g.slid j);obtain⟨I,X,O,P,Q,R,S,U,V⟩:=h;simp only[Nat.add_zero,Ò]at J;by_cases E:wc=1
 .have M:=aa E;have A:=H.o;rw[if_pos E]at A;have C:=aa A;go_in;go_wp2;go_ret;have D:∀v,È B w (w.setCell (b,1) v):=λv=> Zb.setCell (p:=(b,1)) I _
  exact⟨rfl,⟨_,_,G.o.ways _,C.o.W (D _),by omega⟩,D _⟩
 .have A:=H.o;rw[if_neg E]at A;have C:=aa A;go_in;go_wp2;go_ret;have D:∀v,È B w (w.setCell (b,1) v):=λv=> Zb.setCell (p:=(b,1)) I _
  exact⟨rfl,⟨_,_,G.o.ways _,C.o.W (D _),by omega⟩,D _⟩
set_option maxHeartbeats 8000000
theorem tK{C}(E:iP C){i}{F:Fo}{r}(h:C.drop i=F.N++r):eR F.D<=800:=by
 have B:=o3 F;have A:=congrArg Û h;rw[Ö,À]at A
 have:=E.l
 omega
abbrev fp(W w:É):Prop:=w.cell? ⟨W.heap.size+1+1+1,0,Ë⟩=Ì (Â Ä 8)/\w.cell? ⟨W.heap.size+1+1+1,1,Ë⟩=Ì (Æ ⟨#[]⟩)/\w.cell? ⟨W.heap.size+1+1+1,2,Ë⟩=Ì (Â Ä 0)/\w.cell? ⟨W.heap.size+1+1+1+1,0,Ë⟩=Ì (Â Ä 7)/\w.cell? ⟨W.heap.size+1+1+1+1,1,Ë⟩=Ì (Æ ⟨#[]⟩)/\w.cell? ⟨W.heap.size+1+1+1+1,2,Ë⟩=Ì (Â Ä 2)
theorem cc.six{W x w}(h:cc W x w):fp W w:=⟨h.gr.2.1,h.gr.2.2.1,h.gr.2.2.2,h.dp.2.1,h.dp.2.2.1,h.dp.2.2.2⟩
theorem FL{ds a cap}(hs:iP ds){x k n}(c:(Fo.cons x k n).ok)(Ay:(Fo.cons x k n).exs)(h2:x.op=5\/x.op=6)(hk:qY ds a cap k):tU ds a cap (.cons x k n) (ap x k.D):=by
 intro i r hi W v;obtain⟨hp,e1,e2,_,_⟩:=jq hi c
 have Az:aE x=2:=by
  unfold aE;rcases h2 with h|h<;>rw[h]<;>rfl
 have A0:k.len=2:=c.1.trans Az
 obtain⟨C,M,E,O,rfl⟩:∃C M E O,k=.cons C M (.cons E O .nil):=by
  match k,A0 with
  | .cons C M (.cons E O .nil),_=>exact⟨C,M,E,O,rfl⟩
 have Aw:(Fo.cons C M (.cons E O .nil)).D=[(C,ap C M.D),(E,ap E O.D)]:=rfl;have hz:=tK hs e2;rw[Aw,jc,jc]at hz;obtain⟨A3,ea,_,Av,q⟩:=jq e2 c.2.1;obtain⟨A4,eb,_,_,_⟩:=jq q c.2.1.2.2;generalize hj:i+1+1+ſ M.N=j at Av q A4 eb;have HN:Hid (aG W a ds):=v;have hl:=hs.l;have A7:(ap C M.D).N.length<=800:=by simp only at hz;omega
 have A8:(ap E O.D).N.length<=800:=by simp only at hz;omega
 have Q:Hid (∀b:É,È W W b->Cp 95 #[Ç a (ſ ds) cap,Â Ä (i:Int),Â Ä ((i:Int)+1),Ô Ó] b λe a=>bK b (bm (cW x.op Ó) C (ap C M.D)).N e a):=λW' w=>by
  have h:=JA W' (v.W w) hp A3 (by rw[e1];exact h2) Ó (ap C M.D) (by omega) (hk.1 (i+1) _ e2 W' (v.W w)) (cap:=cap);rw[e1,ea,show((i+1:Nat):Int)=(i:Int)+1 by omega]at h;exact h
 have m:Hid (∀b:É,È W W b->Cb 55 #[Ç a (ſ ds) cap,Â Ä ((i:Int)+1)] b (Â Ä (j:Int))):=λW' w=>by
  have h:=qt (cap:=cap) hs Av A3 W' (v.W w);rw[show((i+1:Nat):Int)=(i:Int)+1 by omega]at h;exact h
 have R:Hid (∀b:É,È W W b->Cp 95 #[Ç a (ſ ds) cap,Â Ä (i:Int),Â Ä (j:Int),Ô Ú] b λe a=>bK b (bm (cW x.op Ú) E (ap E O.D)).N e a):=λW' w=>by
  have h:=JA W' (v.W w) hp A4 (by rw[e1];exact h2) Ú (ap E O.D) (by omega) (hk.2.1 j _ q W' (v.W w)) (cap:=cap);rw[e1,eb]at h;exact h
 have A1:=nS (cW x.op Ó) C (ap C M.D);have A2:=nS (cW x.op Ú) E (ap E O.D)
 have Ax:Hid ((ap x [(C,ap C M.D),(E,ap E O.D)]).N=⟨8,⟨#[]⟩,0⟩::(⟨6,⟨#[]⟩,0⟩::((bm (cW x.op Ó) C (ap C M.D)).N++(⟨7,⟨#[]⟩,2⟩::(⟨6,⟨#[]⟩,0⟩::([⟨2,⟨#[]⟩,0⟩]++(⟨6,⟨#[]⟩,0⟩::([⟨1,(if x.op=5 then⟨#[43,32]⟩else⟨#[42,32]⟩),0⟩]++(bm (cW x.op Ú) E (ap E O.D)).N)))))))):=by
  show _=_;rcases h2 with h|h
  .rw[if_pos h];simp[ap,h,iH,cW,Tr.N];rfl
  .rw[if_neg (by omega)];simp[ap,h,iH,cW,Tr.N];rfl
 obtain⟨b,o,rfl,w,c1,c2,c3⟩:=v i hp;have A6:(i:Int)<(ſ ds:Int):=by omega
 rw[e1]at c1 c2 c3;have X:Hid (cc W x (l9 W x.op x.tx x.n)):=pE W x;unfold nB;rw[Aw,Ax.o]
 generalize(bm (cW x.op Ó) C (ap C M.D)).N=ls at Q A1⊢
 generalize(bm (cW x.op Ú) E (ap E O.D)).N=rs at R A2⊢
 have hx:=iE (Ay x (by simp[Fo.N]));clear v e1 e2 hi c Ay hk hj Aw hz Av q ea eb Ax Az A0;obtain⟨xo,xt,xn⟩:=x;simp only at c1 c2 c3 X h2 hx A1 A2⊢
 have A5:xt=⟨#[]⟩/\xn=0:=by
  rcases hx with⟨ho,_⟩|⟨ho,_⟩|⟨ho,_⟩|⟨ho,_⟩|⟨_,s,t,_⟩|⟨_,s,t,_⟩
  .omega
  .omega
  .omega
  .omega
  .exact⟨s,t⟩
  .exact⟨s,t⟩
 obtain⟨rfl,rfl⟩:=A5;clear hx;rcases h2 with rfl|rfl
 .simp only[if_true];go_in;go_wp2_with fail;have A:=(show Hid (cc W ⟨5,⟨#[]⟩,0⟩ (l9 W 5 ⟨#[]⟩ 0))from X.o);clear X;refine(Q.o _ A.o.b).mono ?_;rintro e w1 s;obtain⟨L,rfl,n1,b1⟩:=s.val;have G:Hid (cc W ⟨5,⟨#[]⟩,0⟩ w1):=A.o.W b1;have Y:Hid (aM w1 L ls):=n1;clear s n1 b1 A;go_wp2_with fail;refine ai (m.o _ G.o.b) λw2 b2=>?_
  have H:Hid (cc W ⟨5,⟨#[]⟩,0⟩ w2):=G.o.W b2;have Z:Hid (aM w2 L ls):=Y.o.W b2;clear b2 G Y;go_wp2_with fail;refine(R.o _ H.o.b).mono ?_;rintro e B t;obtain⟨v3,rfl,n3,b3⟩:=t.val;have I:Hid (cc W ⟨5,⟨#[]⟩,0⟩ B):=H.o.W b3;have y:Hid (aM B L ls):=Z.o.W b3;have Ad:Hid (aM B v3 rs):=n3;have An:Hid (fp W B):=I.o.six;have Au:Hid (fp W B.drew):=I.o.six;have Ag:Hid (È B B B.drew):= Zb.drew;clear t n3 b3 H Z Q R m HN;go_wp2_with fail
  go_region_held3 (λa=>fp W a) (first|with_reducible exact Au.o|with_reducible exact An.o|with_reducible exact Ao.o|with_reducible exact Ap.o|with_reducible exact Aq.o|with_reducible exact Ar.o|with_reducible exact As.o|with_reducible exact At.o)
   (first
     | (go_at_call 96;refine((lE ⟨8,⟨#[]⟩,0⟩ (u) Aj.o (by simp<;>omega))).mono ?_;rintro e w9 h9;have Al:Hid (bK W (⟨8,⟨#[]⟩,0⟩::(⟨6,⟨#[]⟩,0⟩::(ls++(⟨7,⟨#[]⟩,2⟩::(⟨6,⟨#[]⟩,0⟩::([⟨2,⟨#[]⟩,0⟩]++(⟨6,⟨#[]⟩,0⟩::([⟨1,⟨#[43,32]⟩,0⟩]++rs)))))))) e w9):=h9.from K.o.b;obtain⟨v9,rfl,n9,b9⟩:=h9.val;have Ak:Hid (cc W ⟨5,⟨#[]⟩,0⟩ w9):=K.o.W b9;have At:Hid (fp W w9):=Ak.o.six;clear h9 n9 b9)
     | (go_at_call 97;refine((gl (g) Ac.o Ai.o (by simp<;>omega))).mono ?_;rintro e u h8;obtain⟨v8,rfl,n8,b8⟩:=h8.val;have K:Hid (cc W ⟨5,⟨#[]⟩,0⟩ u):=V.o.W b8;have As:Hid (fp W u):=K.o.six;have Aj:Hid (aM u v8 (⟨6,⟨#[]⟩,0⟩::(ls++(⟨7,⟨#[]⟩,2⟩::(⟨6,⟨#[]⟩,0⟩::([⟨2,⟨#[]⟩,0⟩]++(⟨6,⟨#[]⟩,0⟩::([⟨1,⟨#[43,32]⟩,0⟩]++rs)))))))):=n8;clear h8 n8 b8)
     | (go_at_call 96;refine((lE ⟨7,⟨#[]⟩,2⟩ (f) Ah.o (by simp<;>omega))).mono ?_;rintro e g h7;obtain⟨v7,rfl,n7,b7⟩:=h7.val;have V:Hid (cc W ⟨5,⟨#[]⟩,0⟩ g):=U.o.W b7;have Ar:Hid (fp W g):=V.o.six;have Ac:Hid (aM g L (ls)):=Ab.o.W b7;have Ai:Hid (aM g v7 (⟨7,⟨#[]⟩,2⟩::(⟨6,⟨#[]⟩,0⟩::([⟨2,⟨#[]⟩,0⟩]++(⟨6,⟨#[]⟩,0⟩::([⟨1,⟨#[43,32]⟩,0⟩]++rs)))))):=n7;clear h7 n7 b7)
     | (go_at_call 97;refine((gl (d) J.o.bl Af.o (by simp<;>omega))).mono ?_;rintro e f h6;obtain⟨v6,rfl,n6,b6⟩:=h6.val;have U:Hid (cc W ⟨5,⟨#[]⟩,0⟩ f):=J.o.W b6;have Aq:Hid (fp W f):=U.o.six;have Ab:Hid (aM f L (ls)):=Aa.o.W b6;have Ah:Hid (aM f v6 (⟨6,⟨#[]⟩,0⟩::([⟨2,⟨#[]⟩,0⟩]++(⟨6,⟨#[]⟩,0⟩::([⟨1,⟨#[43,32]⟩,0⟩]++rs))))):=n6;clear h6 n6 b6)
     | (go_at_call 97;refine((gl (P) Am.o Ae.o (by simp<;>omega))).mono ?_;rintro e d h5;obtain⟨v5,rfl,n5,b5⟩:=h5.val;have J:Hid (cc W ⟨5,⟨#[]⟩,0⟩ d):=S.o.W b5;have Ap:Hid (fp W d):=J.o.six;have Aa:Hid (aM d L (ls)):=z.o.W b5;have Af:Hid (aM d v5 (⟨6,⟨#[]⟩,0⟩::([⟨1,⟨#[43,32]⟩,0⟩]++rs))):=n5;clear h5 n5 b5)
     | (go_at_call 94;refine((iW _ (B.drew)).mono λ_ _ h=>h.from Ag.o).mono ?_;rintro e P h4;obtain⟨v4,rfl,n4,p⟩:=h4.val;have S:Hid (cc W ⟨5,⟨#[]⟩,0⟩ P):=I.o.W p;have Ao:Hid (fp W P):=S.o.six;have z:Hid (aM P L (ls)):=y.o.W p;have Ae:Hid (aM P v3 (rs)):=Ad.o.W p;have Am:Hid (aM P v4 ([⟨1,⟨#[43,32]⟩,0⟩])):=n4;clear h4 n4 p))
  all_goals
   go_wp2;go_ret;exact Al.o
 .simp only[show ¬(6:Int)=5 by decide,if_false];go_in;go_wp2_with fail;have A:=(show Hid (cc W ⟨6,⟨#[]⟩,0⟩ (l9 W 6 ⟨#[]⟩ 0))from X.o);clear X;refine(Q.o _ A.o.b).mono ?_;rintro e w1 s;obtain⟨L,rfl,n1,b1⟩:=s.val;have G:Hid (cc W ⟨6,⟨#[]⟩,0⟩ w1):=A.o.W b1;have Y:Hid (aM w1 L ls):=n1;clear s n1 b1 A;go_wp2_with fail;refine ai (m.o _ G.o.b) λw2 b2=>?_
  have H:Hid (cc W ⟨6,⟨#[]⟩,0⟩ w2):=G.o.W b2;have Z:Hid (aM w2 L ls):=Y.o.W b2;clear b2 G Y;go_wp2_with fail;refine(R.o _ H.o.b).mono ?_;rintro e B t;obtain⟨v3,rfl,n3,b3⟩:=t.val;have I:Hid (cc W ⟨6,⟨#[]⟩,0⟩ B):=H.o.W b3;have y:Hid (aM B L ls):=Z.o.W b3;have Ad:Hid (aM B v3 rs):=n3;have An:Hid (fp W B):=I.o.six;have Au:Hid (fp W B.drew):=I.o.six;have Ag:Hid (È B B B.drew):= Zb.drew;clear t n3 b3 H Z Q R m HN;go_wp2_with fail
  go_region_held3 (λa=>fp W a) (first|with_reducible exact Au.o|with_reducible exact An.o|with_reducible exact Ao.o|with_reducible exact Ap.o|with_reducible exact Aq.o|with_reducible exact Ar.o|with_reducible exact As.o|with_reducible exact At.o)
   (first
     | (go_at_call 96;refine((lE ⟨8,⟨#[]⟩,0⟩ (u) Aj.o (by simp<;>omega))).mono ?_;rintro e w9 h9;have Al:Hid (bK W (⟨8,⟨#[]⟩,0⟩::(⟨6,⟨#[]⟩,0⟩::(ls++(⟨7,⟨#[]⟩,2⟩::(⟨6,⟨#[]⟩,0⟩::([⟨2,⟨#[]⟩,0⟩]++(⟨6,⟨#[]⟩,0⟩::([⟨1,⟨#[42,32]⟩,0⟩]++rs)))))))) e w9):=h9.from K.o.b;obtain⟨v9,rfl,n9,b9⟩:=h9.val;have Ak:Hid (cc W ⟨6,⟨#[]⟩,0⟩ w9):=K.o.W b9;have At:Hid (fp W w9):=Ak.o.six;clear h9 n9 b9)
     | (go_at_call 97;refine((gl (g) Ac.o Ai.o (by simp<;>omega))).mono ?_;rintro e u h8;obtain⟨v8,rfl,n8,b8⟩:=h8.val;have K:Hid (cc W ⟨6,⟨#[]⟩,0⟩ u):=V.o.W b8;have As:Hid (fp W u):=K.o.six;have Aj:Hid (aM u v8 (⟨6,⟨#[]⟩,0⟩::(ls++(⟨7,⟨#[]⟩,2⟩::(⟨6,⟨#[]⟩,0⟩::([⟨2,⟨#[]⟩,0⟩]++(⟨6,⟨#[]⟩,0⟩::([⟨1,⟨#[42,32]⟩,0⟩]++rs)))))))):=n8;clear h8 n8 b8)
     | (go_at_call 96;refine((lE ⟨7,⟨#[]⟩,2⟩ (f) Ah.o (by simp<;>omega))).mono ?_;rintro e g h7;obtain⟨v7,rfl,n7,b7⟩:=h7.val;have V:Hid (cc W ⟨6,⟨#[]⟩,0⟩ g):=U.o.W b7;have Ar:Hid (fp W g):=V.o.six;have Ac:Hid (aM g L (ls)):=Ab.o.W b7;have Ai:Hid (aM g v7 (⟨7,⟨#[]⟩,2⟩::(⟨6,⟨#[]⟩,0⟩::([⟨2,⟨#[]⟩,0⟩]++(⟨6,⟨#[]⟩,0⟩::([⟨1,⟨#[42,32]⟩,0⟩]++rs)))))):=n7;clear h7 n7 b7)
     | (go_at_call 97;refine((gl (d) J.o.bl Af.o (by simp<;>omega))).mono ?_;rintro e f h6;obtain⟨v6,rfl,n6,b6⟩:=h6.val;have U:Hid (cc W ⟨6,⟨#[]⟩,0⟩ f):=J.o.W b6;have Aq:Hid (fp W f):=U.o.six;have Ab:Hid (aM f L (ls)):=Aa.o.W b6;have Ah:Hid (aM f v6 (⟨6,⟨#[]⟩,0⟩::([⟨2,⟨#[]⟩,0⟩]++(⟨6,⟨#[]⟩,0⟩::([⟨1,⟨#[42,32]⟩,0⟩]++rs))))):=n6;clear h6 n6 b6)
     | (go_at_call 97;refine((gl (P) Am.o Ae.o (by simp<;>omega))).mono ?_;rintro e d h5;obtain⟨v5,rfl,n5,b5⟩:=h5.val;have J:Hid (cc W ⟨6,⟨#[]⟩,0⟩ d):=S.o.W b5;have Ap:Hid (fp W d):=J.o.six;have Aa:Hid (aM d L (ls)):=z.o.W b5;have Af:Hid (aM d v5 (⟨6,⟨#[]⟩,0⟩::([⟨1,⟨#[42,32]⟩,0⟩]++rs))):=n5;clear h5 n5 b5)
     | (go_at_call 94;refine((iW _ (B.drew)).mono λ_ _ h=>h.from Ag.o).mono ?_;rintro e P h4;obtain⟨v4,rfl,n4,p⟩:=h4.val;have S:Hid (cc W ⟨6,⟨#[]⟩,0⟩ P):=I.o.W p;have Ao:Hid (fp W P):=S.o.six;have z:Hid (aM P L (ls)):=y.o.W p;have Ae:Hid (aM P v3 (rs)):=Ad.o.W p;have Am:Hid (aM P v4 ([⟨1,⟨#[42,32]⟩,0⟩])):=n4;clear h4 n4 p))
  all_goals
   go_wp2;go_ret;exact Al.o
theorem MR(c:Int)(h:c=0\/c=1)(w):Cw 259 #[c] w (Ô Ó):=by
 unfold Cw;rcases h with rfl|rfl
 all_goals
  go_in;go_wp2;go_ret;exact⟨rfl,rfl⟩
theorem Pb(c:Int)(C:c≠0)(D:c≠1)(w):Cw 259 #[c] w (Ô Ú):=by
 unfold Cw;have A:(c != 0)=true:=by simp[C]
 have B:(c != 1)=true:=by simp[D]
 clear C D;go_in;go_wp2;go_ret;exact⟨rfl,rfl⟩
theorem II(ws S wc w)(U:eE w S ws)(X:ſ ws<=9223372036854775807):
  Ø prog 277 #[Ç S (ſ ws) wc,.func (.func 259) #[] #[]] w λe W=>((ez ws/\e=Á (Â Ä (-1)))\/(¬ez ws/\∃k:Nat,e=Á (Â Ä k)))/\w=W:=by
 have L:=aa U;go_in;go_wp2_with fail
 go_loopw [8] (λi wr=>wr=w/\∃k:Nat,k<=ſ ws/\i=k/\∀j(h:j<ſ ws),j<k->ws[j]=0\/ws[j]=1) (λi _=>ſ ws-(Ù i).toNat)
 case atStart=>exact⟨rfl,0,Nat.zero_le _,rfl,λj _ I=>by omega⟩
 case round=>
  obtain⟨rfl,k,Q,rfl,D⟩:=hrel;have K:=aa D;by_cases E:k<ſ ws
  .obtain⟨O,R,M,N,P⟩:=L.o k E;subst M;by_cases A:ws[k]=0\/ws[k]=1
   .have G:Hid (∀j(h:j<ſ ws),j<k+1->ws[j]=0\/ws[j]=1):=λj h I=>by
     by_cases J:j=k
     .subst J;exact A
     .exact K.o j h (by omega)
    have C:=aa A;go_wp2_with fail;refine an (MR _ C.o _) ?_;go_wp2
    go_roundw
    case rel=>exact⟨by trivial,k+1,by omega,by go_num,G.o⟩
    case measure=>simp[Ù];omega
   .have C:=aa A;go_wp2_with fail;refine an (Pb _ (λh=>C.o (.inl h)) (λh=>C.o (.inr h)) _) ?_;go_wp2;go_ret;exact⟨.inr ⟨λB=>C.o (B _ (List.getElem_mem E)),k,rfl⟩,rfl⟩
  .have B:ez ws:=λc V=>by
    obtain⟨j,I,rfl⟩:=List.getElem_of_mem V;exact K.o j I (by omega)
   have H:Hid (ez ws):=B;go_wp2;go_ret;exact⟨.inl ⟨H.o,rfl⟩,rfl⟩
theorem Qn(ws D wc w)(E:eE w D ws)(G:ſ ws<=9223372036854775807)(h:ez ws):
  Cw 258 #[Ç D (ſ ws) wc,.func (.func 259) #[] #[]] w (Ô Ó):=by
 unfold Cw;have B:=aa E;have H:=aa h;go_in;go_wp2_with fail;refine(II ws D wc _ B.o G).mono ?_;rintro e C⟨A,rfl⟩;rcases A with⟨_,rfl⟩|⟨A,_⟩
 .go_wp2;go_ret;exact⟨rfl,rfl⟩
 .exact absurd H.o A
theorem Mc(ws E wc w)(G:eE w E ws)(I:ſ ws<=9223372036854775807)(h:¬ez ws):
  Cw 258 #[Ç E (ſ ws) wc,.func (.func 259) #[] #[]] w (Ô Ú):=by
 unfold Cw;have B:=aa G;have H:=aa h;go_in;go_wp2_with fail;refine(II ws E wc _ B.o I).mono ?_;rintro e D⟨A,rfl⟩;rcases A with⟨A,_⟩|⟨_,k,rfl⟩
 .exact absurd A H.o
 .have C:(0:Int)<=(k:Int):=by omega
  go_wp2;go_ret;exact⟨rfl,rfl⟩
def qd(ks:List Tn):List UInt8:=match ks with
 | []=>[]
 | _::_=>44::32::cm ks
def nK(i:Nat)(ks:List Tn):List UInt8:=if i=0 then cm ks else qd ks
theorem Ke(t r):cm (t::r)=t.tx++qd r:=by
 cases r<;>rfl
structure sH(w0:É)(b:Nat)(rest:List Td)(T:List UInt8)(n:Nat)(i:Nat)(G:Fo)(bs:List UInt8)(w:É):Prop where
 n:i+G.len=n
 e:mf w0 b G
 w:a7 w0 b bs (G.N++rest) w
 t:bs++nK i G.R=T
theorem EA{w0 b F}(hE:mf w0 b F)(hn:F.len<=1000)(o z):tV w0 b F o z:=by
 intro I B w hl O;obtain⟨A,c,h⟩:=O
 have n:Hid (Cp 132 #[Å (Ì ⟨b,0,Ë⟩),Â .u8 (o.toNat:Int)] w λe D=>e=Á Ñ/\a7 w0 b (I++[o]) (F.N++B) D):=by
  refine ai (p9 h o (by omega)) λD K=>?_
  exact⟨rfl,_,_,K⟩
 have p:Hid (∀W:É,a7 w0 b (I++[o]++cm F.R) B W->CallsD prog 132 #[Å (Ì ⟨b,0,Ë⟩),Â .u8 (z.toNat:Int)] .returning W λe l D=>l=.returning/\(e=Á Ñ/\a7 w0 b (I++o::(cm F.R++[z])) B D)):=λW O=>by
  obtain⟨A,c,h⟩:=O;refine(DZ h z .returning (by simp only[À,Ã,Ê];omega)).mono ?_;rintro e l D⟨rfl,rfl,K⟩;refine⟨rfl,rfl,A,c,?_⟩;have V:I++o::(cm F.R++[z])=I++[o]++cm F.R++[z]:=by simp
  rw[V];exact K
 have Y:Hid (∀a,a7 w0 b (I++[o]) (F.N++B) a->sH w0 b B (I++[o]++cm F.R) F.len 0 F (I++[o]) a):=λw1 K=>⟨by omega,hE,K,rfl⟩
 have U:Hid ((I++[o]++cm F.R).length<=500000):=(show _<=_ by simp only[À,Ã,Ê];omega);clear h hE hl;generalize F.len=fn at Y hn⊢;generalize I++[o]++cm F.R=T at Y p U;go_enter_defers func207,ntmps207;go_wp2_with fail;refine ai n.o λw1 K=>?_
 have d:=aa (Y.o w1 K);clear K n Y;go_wp2_with fail
 go_loopw [19] (λx wr=>∃(i:Nat)(G:Fo)(C:List UInt8),x=Â Ä (i:Int)/\sH w0 b B T fn i G C wr) (λx _=>fn-(Ù x).toNat)
 case atStart=>exact⟨0,F,_,rfl,d.o⟩
 case round=>
  obtain⟨i,G,C,rfl,s⟩:=hrel;have S:=U.o;cases G with
  | nil=>
   obtain⟨P,_,L,H⟩:=s;have Ac:¬(i:Int)<(fn:Int):=by simp only[Fo.len]at P;omega
   have X:C=T:=by
    rw[<-H];unfold nK
    split<;>simp[Fo.R,cm,qd]
   have g:Hid (a7 w0 b T B wr):=(show a7 w0 b T B wr by rw[<-X];exact L);clear L H X P;go_wp2;refine leaves_cons (f:=132) (args:=#[Å (Ì ⟨b,0,Ë⟩),Â .u8 (z.toNat:Int)]) (by simp) (by simp[go_sem]) ?_;refine(p.o _ g.o).mono ?_;rintro e l Ae⟨rfl,rfl,h5⟩;exact⟨_,Õ rfl _ _ _,rfl,h5⟩
  | cons y k G'=>
   obtain⟨P,hE,L,H⟩:=s;have Ad:(i:Int)<(fn:Int):=by simp only[Fo.len]at P;omega
   have Ab:i+1+G'.len=fn:=by simp only[Fo.len]at P;omega
   have Z:Hid (iJ w0 b y k):=hE.1;have m:Hid (mf w0 b G'):=hE.2;have j:(Fo.cons y k G').R=ao y k.R::G'.R:=rfl;have V:(Fo.cons y k G').N++B=y::(k.N++(G'.N++B)):=by simp[Fo.N]
   rw[V]at L;rw[j]at H;have E:=Ke (ao y k.R) G'.R;have Q:(ao y k.R).tx=bh y k.R:=rfl;rw[Q]at E;by_cases r:i=0
   .subst r;rw[nK,if_pos rfl,E]at H
    have M:Hid (∀W,a7 w0 b C (y::(k.N++(G'.N++B))) W->Cp 168 #[Å (Ì ⟨b,0,Ë⟩)] W λe D=>e=Á (Ï #[])/\sH w0 b B T fn 1 G' (C++bh y k.R) D):=λW O=>by
     refine ai (Z.o C (G'.N++B) W (by rw[<-H]at S;simp only[À]at S;omega) O) λD h6=>?_
     exact⟨rfl,by omega,m.o,h6,by rw[nK,if_neg (by omega),Î];exact H⟩
    have v:=aa L;clear L H E j V hE Z P Q;go_wp2_with fail;refine ai (M.o _ v.o) λw2 a=>?_
    go_wp2;refine⟨⟨1,G',_,rfl,a⟩,?_⟩;simp[Ù];omega
   .rw[nK,if_neg r]at H
    have J:C++[44,32]++(bh y k.R++qd G'.R)=T:=by
     rw[<-H,<-E];simp[qd]
    have Aa:0<(i:Int):=by omega
    have u:Hid (Cp 10 #[Å (Ì ⟨b,0,Ë⟩),Æ ⟨#[44,32]⟩] wr λe D=>(∃z,e=Á (Ï #[z,Ñ]))/\a7 w0 b (C++[44,32]) (y::(k.N++(G'.N++B))) D):=by
     obtain⟨A,c,h⟩:=L;refine(mL h ⟨#[44,32]⟩ (by rw[<-J]at S;simp only[À]at S;omega) (by decide)).mono ?_;rintro e D⟨rfl,h,_⟩;exact⟨⟨_,rfl⟩,_,_,h⟩
    have M:Hid (∀W,a7 w0 b (C++[44,32]) (y::(k.N++(G'.N++B))) W->Cp 168 #[Å (Ì ⟨b,0,Ë⟩)] W λe D=>e=Á (Ï #[])/\sH w0 b B T fn (i+1) G' (C++[44,32]++bh y k.R) D):=λW O=>by
     refine ai (Z.o (C++[44,32]) (G'.N++B) W (by rw[<-J]at S;simp only[À]at S⊢;omega) O) λD h6=>?_
     exact⟨rfl,by omega,m.o,h6,by rw[nK,if_neg (by omega),Î];exact J⟩
    clear L H J E j V hE Z P Q;go_wp2_with fail;refine u.o.mono ?_;rintro e w2⟨⟨q,rfl⟩,a⟩;have t:=aa a;clear a;go_wp2_with fail;refine ai (M.o _ t.o) λw3 h3=>?_
    go_wp2;refine⟨⟨i+1,G',_,by go_num,h3⟩,?_⟩;simp[Ù];omega
theorem EB{j b y k}(r:iJ j b y k)(op:Int)(I:op=5\/op=6)(s bs rest w)(p:ſ bs+(br ((op-5).toNat+s.toNat) (ao y k.R)).length<=500000)(l:a7 j b bs (y::(k.N++rest)) w):
  Ø prog 234 #[Å b,op,Ô s] w λe i=>e=Á (Ï #[])/\a7 j b (bs++br ((op-5).toNat+s.toNat) (ao y k.R)) rest i:=by
 have B:Hid (∀W,Cp 262 #[y.op,op,Ô s] W λe i=>e=Á (Ô (decide (da y<(op-5).toNat+s.toNat)))/\i=W):=λW=>DG y op I s W
 have K:=aa r;obtain⟨A,c,h⟩:=l;obtain⟨Z,a,rfl,X,Q,_,_⟩:=h.td 0 (by simp);simp only[Ò,Nat.zero_mul,Nat.add_zero]at Q;obtain⟨g,_⟩:=a9 h.bl;have P:w.cell? (b,2)=Ì (Ç (Ì ↑(Z,a)) (y::(k.N++rest)).length c):=h.x.cellR 0;generalize Y:(y::(k.N++rest)).length=n at P;have U:0<n:=by rw[<-Y];simp
 have H:br ((op-5).toNat+s.toNat) (ao y k.R)=if da y<(op-5).toNat+s.toNat then 40::(bh y k.R++[41])else bh y k.R:=rfl
 rw[H]at p⊢;by_cases D:da y<(op-5).toNat+s.toNat
 .rw[if_pos D]at p⊢;rw[decide_eq_true D]at B;simp only[Ã,À,Ê]at p
  have M:Hid (Cp 132 #[Å b,Â .u8 40] w λe i=>e=Á Ñ/\a7 j b (bs++[40]) (y::(k.N++rest)) i):=by
   refine ai (p9 h 40 (by omega)) λi G=>?_
   exact⟨rfl,_,_,G⟩
  have C:Hid (∀W,a7 j b (bs++[40]) (y::(k.N++rest)) W->Cp 168 #[Å b] W λe i=>e=Á (Ï #[])/\a7 j b (bs++[40]++bh y k.R) rest i):=λW l=>K.o (bs++[40]) rest W (by simp only[À,Ã,Ê];omega) l
  have O:Hid (∀W:É,a7 j b (bs++[40]++bh y k.R) rest W->CallsD prog 132 #[Å b,Â .u8 41] .returning W λe J i=>J=.returning/\(e=Á Ñ/\a7 j b (bs++40::(bh y k.R++[41])) rest i)):=λW l=>by
   obtain⟨A,c,h⟩:=l;refine(DZ h 41 .returning (by simp only[À,Ã,Ê];omega)).mono ?_;rintro e J i⟨rfl,rfl,G⟩;refine⟨rfl,rfl,A,c,?_⟩;have S:bs++40::(bh y k.R++[41])=bs++[40]++bh y k.R++[41]:=by simp
   rw[S];exact G
  go_enter_defers func234,ntmps234;go_wp2_with fail;refine gv (B.o _) ?_;go_wp2_with fail;refine ai M.o λu q=>?_
  have L:=aa q;clear q;go_wp2_with fail;refine ai (C.o _ L.o) λt m=>?_
  have E:=aa m;clear m;go_wp2;refine leaves_cons (f:=132) (args:=#[Å b,Â .u8 41]) (by simp) (by simp[go_sem]) ?_;refine(O.o _ E.o).mono ?_;rintro e J d⟨rfl,rfl,V⟩;exact⟨_,Õ rfl _ _ _,rfl,V⟩
 .rw[if_neg D]at p⊢;rw[decide_eq_false D]at B;have C:=aa (K.o bs rest w (by omega) ⟨_,_,h⟩);go_enter_defers func234,ntmps234;go_wp2_with fail;refine gv (B.o _) ?_;go_wp2_with fail;refine ai C.o λt m=>?_
  have E:=aa m;go_wp2;exact⟨_,Õ rfl _ _ _,rfl,E.o⟩
theorem OG{O b y z k l}(V:iJ O b y k)(Y:iJ O b z l)(op:Int)(B:op=5\/op=6)(m)(a:m.size=3)(bs rest w)
  (Z:ſ bs+(br (op-5).toNat (ao y k.R)).length+(br ((op-5).toNat+1) (ao z l.R)).length+3<=500000) (S:a7 O b bs (y::(k.N++(z::(l.N++rest)))) w):
  Ø prog 208 #[Å b,op,Æ m] w λe P=>e=Á (Ï #[])/\a7 O b (bs++(br (op-5).toNat (ao y k.R)++ae m++br ((op-5).toNat+1) (ao z l.R))) rest P:=by
 have C:(ae m).length=3:=by rw[aw,a]
 have D:Hid (Cp 234 #[Å b,op,Ô Ó] w λe P=>e=Á (Ï #[])/\a7 O b (bs++br (op-5).toNat (ao y k.R)) (z::(l.N++rest)) P):=EB V op B Ó bs _ w (by simp only[Bool.toNat_false,Nat.add_zero];omega) S;generalize br (op-5).toNat (ao y k.R)=X at D Z⊢
 have G:Hid (∀W,a7 O b (bs++X) (z::(l.N++rest)) W->Cp 10 #[Å b,Æ m] W λe P=>(∃z,e=Á (Ï #[z,Ñ]))/\a7 O b (bs++X++ae m) (z::(l.N++rest)) P):=λW S=>by
  obtain⟨A,c,h⟩:=S;refine(mL h m (by simp only[À];omega) (by omega)).mono ?_;rintro e P⟨rfl,h,_⟩;exact⟨⟨_,rfl⟩,_,_,h⟩
 have H:Hid (∀W,a7 O b (bs++X++ae m) (z::(l.N++rest)) W->Cp 234 #[Å b,op,Ô Ú] W λe P=>e=Á (Ï #[])/\a7 O b (bs++X++ae m++br ((op-5).toNat+1) (ao z l.R)) rest P):=λW S=>EB Y op B Ú _ _ W (by simp only[À,Bool.toNat_true];omega) S
 clear S Z V Y C a;go_in;go_wp2_with fail;refine ai D.o λf U=>?_
 have I:=aa U;clear U;go_wp2_with fail;refine(G.o _ I.o).mono ?_;rintro e M⟨⟨q,rfl⟩,L⟩;have J:=aa L;go_wp2_with fail;refine ai (H.o _ J.o) λg d=>?_
 have K:=aa d;go_wp2
 go_end0
 refine⟨rfl,?_⟩;have E:=K.o;simp only[Î]at E⊢;exact E
theorem VT{V b y z k l}(d:iJ V b y k)(f:iJ V b z l)(op)(J:op=5\/op=6)(tx n):iJ V b ⟨op,tx,n⟩ (.cons y k (.cons z l .nil)):=by
 intro C B w H E;obtain⟨A,c,h⟩:=E;have P:(Fo.cons y k (.cons z l .nil)).N++B=y::(k.N++(z::(l.N++B))):=by simp[Fo.N]
 rw[P]at h;have Q:=aa (mJ h);have I:=aa (λm g W H E=>OG d f op J m g C B W H E);rcases J with rfl|rfl
 .have L:Hid (bh ⟨5,tx,n⟩ (Fo.cons y k (.cons z l .nil)).R=br 0 (ao y k.R)++32::43::32::br 1 (ao z l.R)):=rfl;rw[L.o]at H⊢;simp only[À,Ã]at H
  have D:Hid (∀W:É,a7 V b C (y::(k.N++(z::(l.N++B)))) W->Cp 208 #[Å b,Â Ä 5,Æ ⟨#[32,43,32]⟩] W λe X=>e=Á (Ï #[])/\a7 V b (C++(br 0 (ao y k.R)++32::43::32::br 1 (ao z l.R))) B X):=λW E=>by
   refine ai (I.o ⟨#[32,43,32]⟩ rfl W (by show (ſ C)+(br 0 _).length+(br 1 _).length+3<=500000;omega) E) λX Z=>?_
   refine⟨rfl,?_⟩;have M:br 0 (ao y k.R)++32::43::32::br 1 (ao z l.R)=br ((5:Int)-5).toNat (ao y k.R)++ae ⟨#[32,43,32]⟩++br (((5:Int)-5).toNat+1) (ao z l.R):=by simp;rfl
   rw[M];exact Z
  go_in;go_wp2_with fail;refine Q.o.mono ?_;rintro e G⟨rfl,S,U,O⟩;have K:Hid (∀W:É,È G G W->a7 V b C (y::(k.N++(z::(l.N++B)))) W):=λW a=>⟨_,_,O.grew a⟩
  go_wp2_with fail;refine ai (D.o _ (K.o _ (aC G _))) λi Y=>?_
  go_wp2
  go_end0
  exact⟨rfl,Y⟩
 .have L:Hid (bh ⟨6,tx,n⟩ (Fo.cons y k (.cons z l .nil)).R=br 1 (ao y k.R)++32::42::32::br 2 (ao z l.R)):=rfl;rw[L.o]at H⊢;simp only[À,Ã]at H
  have D:Hid (∀W:É,a7 V b C (y::(k.N++(z::(l.N++B)))) W->Cp 208 #[Å b,Â Ä 6,Æ ⟨#[32,42,32]⟩] W λe X=>e=Á (Ï #[])/\a7 V b (C++(br 1 (ao y k.R)++32::42::32::br 2 (ao z l.R))) B X):=λW E=>by
   refine ai (I.o ⟨#[32,42,32]⟩ rfl W (by show (ſ C)+(br 1 _).length+(br 2 _).length+3<=500000;omega) E) λX Z=>?_
   refine⟨rfl,?_⟩;have M:br 1 (ao y k.R)++32::42::32::br 2 (ao z l.R)=br ((6:Int)-5).toNat (ao y k.R)++ae ⟨#[32,42,32]⟩++br (((6:Int)-5).toNat+1) (ao z l.R):=by simp;rfl
   rw[M];exact Z
  go_in;go_wp2_with fail;refine Q.o.mono ?_;rintro e G⟨rfl,S,U,O⟩;have K:Hid (∀W:É,È G G W->a7 V b C (y::(k.N++(z::(l.N++B)))) W):=λW a=>⟨_,_,O.grew a⟩
  go_wp2_with fail;refine ai (D.o _ (K.o _ (aC G _))) λi Y=>?_
  go_wp2
  go_end0
  exact⟨rfl,Y⟩
theorem vx{I:É}{b:Nat}(J:gH I):∀F:Fo,F.ok->F.exs->mf I b F
 | .nil,_,_=>trivial
 | .cons x k n,hok,hex=>by
  have H:mf I b k:=vx J k hok.2.1 λy K=>hex y (by simp[Fo.N,K])
  have L:mf I b n:=vx J n hok.2.2 λy K=>hex y (by simp[Fo.N,K])
  refine⟨?_,L⟩;have M:=hex x (by simp[Fo.N]);have A:=hok.1;obtain⟨op,tx,m⟩:=x;rcases iE M with⟨B,G,D,E,C⟩|⟨B,G,D,C⟩|⟨B,G,D,E,C⟩|⟨B,G,D,E,C⟩|⟨B,G,D,C⟩|⟨B,G,D,C⟩
  .rw[C]at A;cases k with
   | cons=>simp[Fo.len]at A
   | nil=>
    dsimp only at B D E;subst B;exact VS J m D E tx
  .rw[C]at A;cases k with
   | cons=>simp[Fo.len]at A
   | nil=>
    dsimp only at B;subst B;exact Tj tx m
  .rw[C]at A;dsimp only at B D E A;subst B
   have:m=(k.len:Int):=by omega
   subst this;exact Th tx (EA H (by omega) 40 41)
  .rw[C]at A;dsimp only at B D E A;subst B
   have:m=(k.len:Int):=by omega
   subst this;exact Ti tx (EA H (by omega) 91 93)
  all_goals
   rw[C]at A;dsimp only at B;cases k with
   | nil=>simp[Fo.len]at A
   | cons y ky r=>
    cases r with
    | nil=>simp[Fo.len]at A
    | cons z kz r2=>
     cases r2 with
     | cons=>simp[Fo.len]at A
     | nil=>exact VT H.1 H.2.1 op (by omega) tx m
theorem CJ:∀n:Fo,n.len<=ſ n.N
 | .nil=>Nat.le_refl _
 | .cons x k m=>by
  have:=CJ m
  simp only[Fo.len,Fo.N,Ã,À];omega
theorem I4{ds:List Td}{a:Option Addr}{cap:Nat}(hs:iP ds):∀(K:Fo)(pos:Nat)(r:List Td),ds.drop pos=K.N++r->K.ok->qY ds a cap K->K.len≠0->∀W:É,aG W a ds->
  Ø prog 98 #[Ç a (ſ ds) cap,Â Ä (pos:Int),Â Ä (K.len:Int)] W λe a=>bK W (df K.D).N e a
 | .nil,_,_,_,_,_,h0,_,_=>absurd rfl h0
 | .cons y ky .nil,pos,r,hd,hok,hk,_,W,hN=>by
  have HD:Hid (Cp 68 #[Ç a (ſ ds) cap,Â Ä (pos:Int)] W λe a=>bK W (ap y ky.D).N e a):=hk.1 pos r hd W hN;show Ø prog 98 #[Ç a (ſ ds) cap,Â Ä (pos:Int),Â Ä 1] W λe w'=>bK W (ap y ky.D).N e w'
  generalize(ap y ky.D).N=xs at HD⊢
  clear hd hok hk hN;go_in;go_wp2_with fail;refine HD.o.mono ?_;rintro e w1 h1;have HR:Hid (bK W xs e w1):=h1;obtain⟨v1,rfl,_,_⟩:=h1.val;clear h1;go_wp2;go_ret;exact HR.o
 | .cons y ky (.cons z kz n),pos,r,hd,hok,hk,_,W,hN=>by
  have hz:=tK hs hd;obtain⟨hp,ey,_,ene,edn⟩:=jq hd hok;generalize hj:pos+1+ſ ky.N=j at ene edn;have HD:Hid (∀b:É,È W W b->Cp 68 #[Ç a (ſ ds) cap,Â Ä (pos:Int)] b λe a=>bK b (ap y ky.D).N e a):=λW' hb=>hk.1 pos r hd W' (hN.W hb)
  have HEN:Hid (∀b:É,È W W b->Cb 55 #[Ç a (ſ ds) cap,Â Ä (pos:Int)] b (Â Ä (j:Int))):=λW' hb=>qt (cap:=cap) hs ene hp W' (hN.W hb)
  have HKS:Hid (∀b:É,È W W b->Cp 98 #[Ç a (ſ ds) cap,Â Ä (j:Int),Â Ä ((n.len:Int)+1)] b λe a=>bK b (df (Fo.cons z kz n).D).N e a):=λW' hb=>by
   have h:=I4 hs (.cons z kz n) j r edn hok.2.2 hk.2 (by simp[Fo.len]) W' (hN.W hb);have e:(((Fo.cons z kz n).len:Nat):Int)=(n.len:Int)+1:=by simp[Fo.len]
   rw[e]at h;exact h
  have Aa:n.len<=100:=by
   have g:=congrArg Û hd;rw[Ö,À]at g;have x:ſ n.N<=(Fo.cons y ky (.cons z kz n)).N.length:=by simp only[Fo.N,Ã,À];omega
   have i:=CJ n
   have:=hs.l
   omega
  have P:(ap y ky.D).N.length<=800/\(df (Fo.cons z kz n).D).N.length<=801:=by
   have h1:=nT (Fo.cons z kz n).D;have w:eR (Fo.cons y ky (.cons z kz n)).D=(ap y ky.D).N.length+5+eR (Fo.cons z kz n).D:=by rw[Fo.D,jc]
   omega
  have V:Hid ((df (Fo.cons y ky (.cons z kz n)).D).N=⟨6,⟨#[]⟩,0⟩::((⟨6,⟨#[]⟩,0⟩::((ap y ky.D).N++[⟨1,⟨#[44]⟩,0⟩]))++(⟨6,⟨#[]⟩,0⟩::([⟨2,⟨#[]⟩,0⟩]++(df (Fo.cons z kz n).D).N)))):=rfl;have H:(((Fo.cons y ky (.cons z kz n)).len:Nat):Int)=(n.len:Int)+1+1:=by simp[Fo.len]
  rw[V.o,H]
  generalize(ap y ky.D).N=xs at HD P⊢
  generalize(df (Fo.cons z kz n).D).N=ks at HKS P⊢
  generalize n.len=m at HKS Aa⊢;have Ac:((m:Int)+1+1==1)=false:=beq_false_of_ne (by omega);have Ad:¬(m:Int)+1+1=1:=by omega
  obtain⟨Ae,Ab⟩:=P;clear hd hok hk hN hz ey ene edn hj V H;go_in;go_wp2_with fail;refine(HD.o _ Zb).mono ?_;rintro e w1 h1;obtain⟨v1,rfl,n1,b1⟩:=h1.val;have c:aM (w1.alloc (Ð #[Â Ä 2,Æ ⟨#[]⟩,Â Ä 0] 150)) (Ç (Ì ⟨w1,0,Ë⟩) 1 1) [⟨2,⟨#[]⟩,0⟩]:=(cY.one w1 ⟨2,⟨#[]⟩,0⟩).val;have O:È w1 w1 (w1.alloc (Ð #[Â Ä 2,Æ ⟨#[]⟩,Â Ä 0] 150)):= Zb.alloc Zl _;have A:=(show Hid (aM (w1.alloc (Ð #[Â Ä 2,Æ ⟨#[]⟩,Â Ä 0] 150)) (Ç (Ì ⟨w1,0,Ë⟩) 1 1) [⟨2,⟨#[]⟩,0⟩])from c);have M:Hid (aM (w1.alloc (Ð #[Â Ä 2,Æ ⟨#[]⟩,Â Ä 0] 150)) v1 xs):=n1.W O;have I:Hid (È W W (w1.alloc (Ð #[Â Ä 2,Æ ⟨#[]⟩,Â Ä 0] 150))):=aH b1 Zl O;clear h1 n1 b1 c O;go_wp2_with fail;generalize w1.alloc (Ð #[Â Ä 2,Æ ⟨#[]⟩,Â Ä 0] 150)=w2 at A M I⊢;refine(iW _ _).mono ?_;rintro e o h3;obtain⟨v3,rfl,n3,d⟩:=h3.val;have Q:Hid (È W W o):=aH I.o Zl d;have X:Hid (aM o v1 xs):=M.o.W d;have S:Hid (aM o v3 [⟨1,⟨#[44]⟩,0⟩]):=n3;have B:Hid (aM o (Ç (Ì ⟨w1,0,Ë⟩) 1 1) [⟨2,⟨#[]⟩,0⟩]):=A.o.W d;clear h3 n3 d I M A;go_wp2_with fail;refine(gl _ X.o S.o (by simp;omega)).mono ?_;rintro e w4 w;obtain⟨k,rfl,n4,u⟩:=w.val;have J:Hid (È W W w4):=aH Q.o Zl u;have Y:Hid (aM w4 k (⟨6,⟨#[]⟩,0⟩::(xs++[⟨1,⟨#[44]⟩,0⟩]))):=n4;have C:Hid (aM w4 (Ç (Ì ⟨w1,0,Ë⟩) 1 1) [⟨2,⟨#[]⟩,0⟩]):=B.o.W u;clear w n4 u Q X S B;go_wp2_with fail;refine ai (HEN.o _ J.o) λw5 b5=>?_
  have L:Hid (È W W w5):=aH J.o Zl b5;have Z:Hid (aM w5 k (⟨6,⟨#[]⟩,0⟩::(xs++[⟨1,⟨#[44]⟩,0⟩]))):=Y.o.W b5;have E:Hid (aM w5 (Ç (Ì ⟨w1,0,Ë⟩) 1 1) [⟨2,⟨#[]⟩,0⟩]):=C.o.W b5;clear b5 J Y C;go_wp2_with fail;refine(HKS.o _ L.o).mono ?_;rintro e p g;obtain⟨v6,rfl,n6,f⟩:=g.val;have R:Hid (È W W p):=aH L.o Zl f;have b:Hid (aM p k (⟨6,⟨#[]⟩,0⟩::(xs++[⟨1,⟨#[44]⟩,0⟩]))):=Z.o.W f;have U:Hid (aM p v6 ks):=n6;have G:Hid (aM p (Ç (Ì ⟨w1,0,Ë⟩) 1 1) [⟨2,⟨#[]⟩,0⟩]):=E.o.W f;clear g n6 f L Z E;go_wp2_with fail;refine(gl _ G.o U.o (by simp;omega)).mono ?_;rintro e w7 x;obtain⟨v7,rfl,n7,v⟩:=x.val;have q:Hid (È W W w7):=aH R.o Zl v;have t:Hid (aM w7 k (⟨6,⟨#[]⟩,0⟩::(xs++[⟨1,⟨#[44]⟩,0⟩]))):=b.o.W v;have s:Hid (aM w7 v7 (⟨6,⟨#[]⟩,0⟩::([⟨2,⟨#[]⟩,0⟩]++ks))):=n7;clear x n7 v R b U G;go_wp2_with fail;refine(gl _ t.o s.o (by simp;omega)).mono ?_;rintro e w8 i;have HR:Hid (bK W (⟨6,⟨#[]⟩,0⟩::((⟨6,⟨#[]⟩,0⟩::(xs++[⟨1,⟨#[44]⟩,0⟩]))++(⟨6,⟨#[]⟩,0⟩::([⟨2,⟨#[]⟩,0⟩]++ks)))) e w8):=i.from q.o;obtain⟨v8,rfl,_,_⟩:=i.val;clear i;go_wp2;go_ret;exact HR.o
set_option maxHeartbeats 16000000
abbrev ie(W:É)(N:Nat)(w:É):Prop:=fp W w/\w.cell? ⟨W,2,Ë⟩=Ì (Â Ä ((N:Nat):Int))
theorem cc.sev{W o t N w}(h:cc W ⟨o,t,((N:Nat):Int)⟩ w):ie W N w:=⟨h.six,h.n.2.2.2⟩
theorem LZ(t c):t++(⟨#[c]⟩:ByteArray)=ab (ae t++[c]):=by
 have e:ab (ae t)++ab [c]=ab (ae t++[c]):=bn _ _;exact e
theorem DC(op cl):(dm op cl []).N=[⟨1,ab (op++cl),0⟩]:=rfl
theorem DB{op cl ps}(h:ſ ps≠0):(dm op cl ps).N=⟨8,⟨#[]⟩,0⟩::(⟨6,⟨#[]⟩,0⟩::([⟨1,ab op,0⟩]++(⟨6,⟨#[]⟩,0⟩::((⟨7,⟨#[]⟩,2⟩::(⟨6,⟨#[]⟩,0⟩::([⟨3,⟨#[]⟩,0⟩]++(df ps).N)))++(⟨6,⟨#[]⟩,0⟩::([⟨3,⟨#[]⟩,0⟩]++[⟨1,ab cl,0⟩])))))):=by
 rw[dm,if_neg h];rfl
theorem zx(k){o xu l rb}{ds:List Td}{a cap i N xt}(hk:k=0/\o=3/\xt=xu/\l=xt++(⟨#[40]⟩:ByteArray)/\rb=41\/k=1/\o=4/\xu=⟨#[]⟩/\l=⟨#[91]⟩/\rb=93)(hl:ſ ds<=40)(hi:i<ſ ds)(Ax:N<=6)(A2:xt.size<=8)(W:É)(hN:aG W a ds)(he:ds[i]=⟨o,xu,((N:Nat):Int)⟩)(ks)(Az:ſ ks<=900)
  (hK:N≠0->∀b:É,È W W b->Ø prog 98 #[Ç a (ſ ds) cap,Â Ä ((i:Int)+1),Â Ä ((N:Nat):Int)] b λe a=>bK b ks e a):
  Ø prog 68 #[Ç a (ſ ds) cap,Â Ä (i:Int)] W λe a=>bK W (if N=0 then [⟨1,(l)++(⟨#[rb]⟩:ByteArray),0⟩]else⟨8,⟨#[]⟩,0⟩::(⟨6,⟨#[]⟩,0⟩::([⟨1,l,0⟩]++(⟨6,⟨#[]⟩,0⟩::((⟨7,⟨#[]⟩,2⟩::(⟨6,⟨#[]⟩,0⟩::([⟨3,⟨#[]⟩,0⟩]++ks)))++(⟨6,⟨#[]⟩,0⟩::([⟨3,⟨#[]⟩,0⟩]++[⟨1,(⟨#[rb]⟩:ByteArray),0⟩]))))))) e a:=by
 have A:lZ k:=.mk;rcases hk with⟨rfl,rfl,rfl,rfl,rfl⟩|⟨rfl,rfl,rfl,rfl,rfl⟩
 all_goals
  obtain⟨b,o,rfl,hb,c1,c2,c3⟩:=hN i hi;have Ay:(i:Int)<(ſ ds:Int):=by omega
  rw[he]at c1 c2 c3;simp only at c1 c2 c3;have Q:Hid (cc W ⟨↑(bI A (3:Int) 4),↑(bI A xt ⟨#[]⟩),((N:Nat):Int)⟩ (l9 W ↑(bI A (3:Int) 4) ↑(bI A xt ⟨#[]⟩) ((N:Nat):Int))):=pE W ⟨↑(bI A (3:Int) 4),↑(bI A xt ⟨#[]⟩),((N:Nat):Int)⟩;have A0:(xt++(⟨#[40]⟩:ByteArray)).size=xt.size+1:=by rw[ByteArray.size_append];rfl
  have g1:¬(9223372036854775807:Int)<(xt.size:Int)+1:=by omega
  have g2:¬(9223372036854775807:Int)<(xt.size:Int)+1+1:=by omega
  have A1:IntKind.i64.wrap ((i:Int)+1)=(i:Int)+1:=by rw[IntKind.wrap_i64];omega
  have d:Hid (N≠0->∀a:É,È W W a->Cp 98 #[Ç (Ì ⟨b,o,Ë⟩) (ſ ds) cap,Â Ä ((i:Int)+1),Â Ä ((N:Nat):Int)] a λe b=>bK a ks e b):=hK;clear hN he hK;by_cases h0:N=0
  .subst h0;rw[if_pos rfl];go_in;go_wp2_with fail;refine(iW _ _).mono ?_;rintro e E h3;have HR:Hid (bK W [⟨1,(↑(bI A (xt++(⟨#[40]⟩:ByteArray)) ⟨#[91]⟩))++(⟨#[↑(bI A (41:UInt8) 93)]⟩:ByteArray),0⟩] e E):=h3.from Q.o.b;obtain⟨v3,rfl,_,_⟩:=h3.val;clear h3;go_wp2;go_ret;exact HR.o
  .rw[if_neg h0];have Av:(((N:Nat):Int)==0)=false:=beq_false_of_ne (by omega);have Aw:¬((N:Nat):Int)=0:=by omega
   have f:Hid (∀a:É,È W W a->Cp 98 #[Ç (Ì ⟨b,o,Ë⟩) (ſ ds) cap,Â Ä ((i:Int)+1),Â Ä ((N:Nat):Int)] a λe b=>bK a ks e b):=d.o h0;clear d h0;go_in;go_wp2_with fail;generalize Aa:((((W.alloc (Ð #[Â Ä ↑(bI A (3:Int) 4),Æ ↑(bI A xt ⟨#[]⟩),Â Ä ((N:Nat):Int)] 81)).alloc (Ð #[Â Ä 2,Æ ⟨#[]⟩,Â Ä 0] 150)).alloc (Ð #[Â Ä 3,Æ ⟨#[]⟩,Â Ä 0] 150)).alloc (Ð #[Â Ä 8,Æ ⟨#[]⟩,Â Ä 0] 150)).alloc (Ð #[Â Ä 7,Æ ⟨#[]⟩,Â Ä 2] 150)=E
   have C:Hid (cc W ⟨↑(bI A (3:Int) 4),↑(bI A xt ⟨#[]⟩),((N:Nat):Int)⟩ E):=by
    show cc _ _ _;rw[<-Aa];exact Q.o
   have s:Hid (ie W N E):=C.o.sev;have I:Hid (ie W N E.drew):=C.o.sev;have G:Hid (È E E E.drew):= Zb.drew;have Y:Hid (È W W E.drew):=C.o.b.drew;clear Aa Q c1 c2 c3
   go_region_held3 (λa=>ie W N a) (first|with_reducible exact I.o|with_reducible exact s.o|with_reducible exact t.o|with_reducible exact u.o|with_reducible exact v.o)
    (first
      | (go_at_call 96;refine((lE ⟨7,⟨#[]⟩,2⟩ (w5) Ad.o (by simp<;>omega))).mono ?_;rintro e L h6;obtain⟨v6,rfl,n6,b6⟩:=h6.val;have O:Hid (cc W ⟨↑(bI A (3:Int) 4),↑(bI A xt ⟨#[]⟩),((N:Nat):Int)⟩ L):=M.o.W b6;have v:Hid (ie W N L):=O.o.sev;have Ag:Hid (aM L v6 (⟨7,⟨#[]⟩,2⟩::(⟨6,⟨#[]⟩,0⟩::([⟨3,⟨#[]⟩,0⟩]++ks)))):=n6;clear h6 n6 b6)
      | (go_at_call 97;refine((gl (w4) H.o.sf Ak.o (by simp<;>omega))).mono ?_;rintro e w5 h5;obtain⟨v5,rfl,n5,b5⟩:=h5.val;have M:Hid (cc W ⟨↑(bI A (3:Int) 4),↑(bI A xt ⟨#[]⟩),((N:Nat):Int)⟩ w5):=H.o.W b5;have u:Hid (ie W N w5):=M.o.sev;have Ad:Hid (aM w5 v5 (⟨6,⟨#[]⟩,0⟩::([⟨3,⟨#[]⟩,0⟩]++ks))):=n5;clear h5 n5 b5)
      | (go_at_call 98;refine((f.o (E.drew) Y.o).mono λ_ _ h=>h.from G.o).mono ?_;rintro e w4 h4;obtain⟨v4,rfl,n4,b4⟩:=h4.val;have H:Hid (cc W ⟨↑(bI A (3:Int) 4),↑(bI A xt ⟨#[]⟩),((N:Nat):Int)⟩ w4):=C.o.W b4;have t:Hid (ie W N w4):=H.o.sev;have Ak:Hid (aM w4 v4 (ks)):=n4;clear h4 n4 b4))
   all_goals
    clear I G Y;have I:Hid (ie W N L.drew):=O.o.sev;have G:Hid (È L L L.drew):= Zb.drew;clear f s t u C H M;go_wp2_with fail
    go_region_held3 (λa=>ie W N a) (first|with_reducible exact I.o|with_reducible exact v.o|with_reducible exact Ap.o|with_reducible exact Aq.o|with_reducible exact Ar.o|with_reducible exact p.o|with_reducible exact q.o|with_reducible exact r.o)
     (first
      | (go_at_call 96;refine((lE ⟨8,⟨#[]⟩,0⟩ (J) c.o (by simp<;>omega))).mono ?_;rintro e U S;have Ao:Hid (bK W (⟨8,⟨#[]⟩,0⟩::(⟨6,⟨#[]⟩,0⟩::([⟨1,↑(bI A (xt++(⟨#[40]⟩:ByteArray)) ⟨#[91]⟩),0⟩]++(⟨6,⟨#[]⟩,0⟩::((⟨7,⟨#[]⟩,2⟩::(⟨6,⟨#[]⟩,0⟩::([⟨3,⟨#[]⟩,0⟩]++ks)))++(⟨6,⟨#[]⟩,0⟩::([⟨3,⟨#[]⟩,0⟩]++[⟨1,(⟨#[↑(bI A (41:UInt8) 93)]⟩:ByteArray),0⟩]))))))) e U):=S.from B.o.b;obtain⟨A3,rfl,As,x⟩:=S.val;have j:Hid (cc W ⟨↑(bI A (3:Int) 4),↑(bI A xt ⟨#[]⟩),((N:Nat):Int)⟩ U):=B.o.W x;have r:Hid (ie W N U):=j.o.sev;clear S As x)
      | (go_at_call 97;refine((gl (D) g.o Z.o (by simp<;>omega))).mono ?_;rintro e J z;obtain⟨Au,rfl,Ac,w⟩:=z.val;have B:Hid (cc W ⟨↑(bI A (3:Int) 4),↑(bI A xt ⟨#[]⟩),((N:Nat):Int)⟩ J):=K.o.W w;have q:Hid (ie W N J):=B.o.sev;have c:Hid (aM J Au (⟨6,⟨#[]⟩,0⟩::([⟨1,↑(bI A (xt++(⟨#[40]⟩:ByteArray)) ⟨#[91]⟩),0⟩]++(⟨6,⟨#[]⟩,0⟩::((⟨7,⟨#[]⟩,2⟩::(⟨6,⟨#[]⟩,0⟩::([⟨3,⟨#[]⟩,0⟩]++ks)))++(⟨6,⟨#[]⟩,0⟩::([⟨3,⟨#[]⟩,0⟩]++[⟨1,(⟨#[↑(bI A (41:UInt8) 93)]⟩:ByteArray),0⟩]))))))):=Ac;clear z Ac w)
      | (go_at_call 97;refine((gl (X) Aj.o Af.o (by simp<;>omega))).mono ?_;rintro e D y;obtain⟨At,rfl,Ab,R⟩:=y.val;have K:Hid (cc W ⟨↑(bI A (3:Int) 4),↑(bI A xt ⟨#[]⟩),((N:Nat):Int)⟩ D):=n.o.W R;have p:Hid (ie W N D):=K.o.sev;have g:Hid (aM D v7 ([⟨1,↑(bI A (xt++(⟨#[40]⟩:ByteArray)) ⟨#[91]⟩),0⟩])):=An.o.W R;have Z:Hid (aM D At (⟨6,⟨#[]⟩,0⟩::((⟨7,⟨#[]⟩,2⟩::(⟨6,⟨#[]⟩,0⟩::([⟨3,⟨#[]⟩,0⟩]++ks)))++(⟨6,⟨#[]⟩,0⟩::([⟨3,⟨#[]⟩,0⟩]++[⟨1,(⟨#[↑(bI A (41:UInt8) 93)]⟩:ByteArray),0⟩]))))):=Ab;clear y Ab R)
      | (go_at_call 97;refine((gl (V) P.o.sf Ae.o (by simp<;>omega))).mono ?_;rintro e X h9;obtain⟨v9,rfl,n9,b9⟩:=h9.val;have n:Hid (cc W ⟨↑(bI A (3:Int) 4),↑(bI A xt ⟨#[]⟩),((N:Nat):Int)⟩ X):=P.o.W b9;have Ar:Hid (ie W N X):=n.o.sev;have Aj:Hid (aM X v6 (⟨7,⟨#[]⟩,2⟩::(⟨6,⟨#[]⟩,0⟩::([⟨3,⟨#[]⟩,0⟩]++ks)))):=Ai.o.W b9;have An:Hid (aM X v7 ([⟨1,↑(bI A (xt++(⟨#[40]⟩:ByteArray)) ⟨#[91]⟩),0⟩])):=Am.o.W b9;have Af:Hid (aM X v9 (⟨6,⟨#[]⟩,0⟩::([⟨3,⟨#[]⟩,0⟩]++[⟨1,(⟨#[↑(bI A (41:UInt8) 93)]⟩:ByteArray),0⟩]))):=n9;clear h9 n9 b9)
      | (go_at_call 94;refine((iW _ (w7))).mono ?_;rintro e V h8;obtain⟨v8,rfl,n8,b8⟩:=h8.val;have P:Hid (cc W ⟨↑(bI A (3:Int) 4),↑(bI A xt ⟨#[]⟩),((N:Nat):Int)⟩ V):=m.o.W b8;have Aq:Hid (ie W N V):=P.o.sev;have Ai:Hid (aM V v6 (⟨7,⟨#[]⟩,2⟩::(⟨6,⟨#[]⟩,0⟩::([⟨3,⟨#[]⟩,0⟩]++ks)))):=Ah.o.W b8;have Am:Hid (aM V v7 ([⟨1,↑(bI A (xt++(⟨#[40]⟩:ByteArray)) ⟨#[91]⟩),0⟩])):=Al.o.W b8;have Ae:Hid (aM V v8 ([⟨1,(⟨#[↑(bI A (41:UInt8) 93)]⟩:ByteArray),0⟩])):=n8;clear h8 n8 b8)
      | (go_at_call 94;refine((iW _ (L.drew)).mono λ_ _ h=>h.from G.o).mono ?_;rintro e w7 h7;obtain⟨v7,rfl,n7,b7⟩:=h7.val;have m:Hid (cc W ⟨↑(bI A (3:Int) 4),↑(bI A xt ⟨#[]⟩),((N:Nat):Int)⟩ w7):=O.o.W b7;have Ap:Hid (ie W N w7):=m.o.sev;have Ah:Hid (aM w7 v6 (⟨7,⟨#[]⟩,2⟩::(⟨6,⟨#[]⟩,0⟩::([⟨3,⟨#[]⟩,0⟩]++ks)))):=Ag.o.W b7;have Al:Hid (aM w7 v7 ([⟨1,↑(bI A (xt++(⟨#[40]⟩:ByteArray)) ⟨#[91]⟩),0⟩])):=n7;clear h7 n7 b7))
    all_goals
     go_wp2;go_ret;exact Ao.o
