import Derived.Test.YtelcnplcpboonaaGreatDoorPe17
import Derived.Test.YtelcnplcpboonaaGreatDoorPe16
import Derived.Laws.Strings2
import Derived.Test.YtelcnplcpboonaaGreatDoorPe13
open Go.Proofs.Tryz
open List renaming length->ſ
open Go.RowKit.Below renaming refl->À
open Go.Value renaming slice->Á,pointer->Ç,int->É,string->Í,bool->ß,tuple->é
open List renaming drop_eq_getElem_cons->Â,length_append->Ã,length_cons->Ä,length_drop->Ð,getElem?_eq_some_iff->Ó,getElem_map->Ù,length_map->Û,take_length->á,length_nil->â,mem_cons->å,length->ç
open Option renaming none->Å,some->Ô
open Go renaming World->Æ,madeCells->Ò,Calls->Ú,heap_alloc_new->ã,size_madeCells->ä,Addr->æ
open Bool renaming false_eq_true->È,false->Ì,true->Ü,not_false->Þ,not_true->à
open Go.Ending renaming returned->Ê
open Go.IntKind renaming i64->Ë
open Go.Lib renaming toList_data->Î
open Go.World renaming cell?_of_block->Ï,size_setCell->Õ,size_alloc->Ø
open Go.World.ownsRow renaming lt->Ñ
open Go.Obj renaming cells->Ö
open Nat renaming le_refl->Ý,zero_le->è
namespace Go.Proofs.YtelcnplcpboonaaGreatDoor
open Go Go.RowKit
set_option maxRecDepth 100000
set_option maxHeartbeats 1000000
def px(w:Æ)(b:Nat):Nat:=match w.cell? ⟨b,1,Å⟩with
 | some (É _ n)=>n.toNat
 | _=>0
theorem Rd.at_eq{w b A c ws B C}(h:Rd w b A c ws B C):px w b=B:=by
 unfold px;rw[h.c1];simp
def Rs.isBad:Rs->Bool
 | .ok _ _ _=>Ì
 | .bad _=>Ü
structure gq(b:Nat)(A:Option æ)(c:Nat)(ws:List Wd)(j:dO)(p:Nat)(w:Æ)(r:Rs)(ns:List Td)(v:Value)(w':Æ):Prop where
 pr:PR j (ws.drop p) r
 o:au w v ns w'
 n:ſ ns+ſ r.rest<=(ws.drop p).length
 e:∀m ms u,r=.ok m ms u->ms=ns
 rd:Rd w' b A c ws (ſ ws-ſ r.rest) r.isBad
 bt:ak w b w w'
abbrev ii(b:Nat)(A:Option æ)(c:Nat)(ws:List Wd)(k p:Nat):Prop:=∀w:Æ,Rd w b A c ws p Ì->Ú prog 35 #[Ç (Ô ⟨b,0,Å⟩),É Ë (k:Int)] w λe a=>∃r d f g,e=Ê (Á f (ſ d) g)/\gq b A c ws (.level k) p w r d (Á f (ſ d) g) a
abbrev kO(b:Nat)(A:Option æ)(c:Nat)(ws:List Wd)(p:Nat):Prop:=∀w:Æ,Rd w b A c ws p Ì->Ú prog 52 #[Ç (Ô ⟨b,0,Å⟩)] w λe a=>∃r d f g,e=Ê (Á f (ſ d) g)/\gq b A c ws .single p w r d (Á f (ſ d) g) a
abbrev q9(b:Nat)(A:Option æ)(c:Nat)(ws:List Wd)(p:Nat)(w:Æ)(e:Ending)(w':Æ):Prop:=e=Ê (Á Å 0 0)/\Rd w' b A c ws p Ü/\ak w b w w'
theorem Oi{w b A c ws p}(h:Rd w b A c ws p Ü):Ú prog 52 #[Ç b] w λe J=>q9 b A c ws p w e J:=by
 have C:=aa h;obtain⟨G,H,I,B,_,_⟩:=h;have D:w.frozen? (b,2)=false:=B.frozen;have E:Hid (∀q,(w.drewN q).frozen? (b,2)=Ì):=λq=>D
 clear B;go_in;go_wp2_with fail
 go_quiet (fail)
 go_wp2;go_ret;exact⟨rfl,(C.o.keep (aP (À _ w) _)).setBad Ü,(ak.of (aP (À _ w) _)).setCell (p:=(b,2)) (.inl rfl) _⟩
theorem au.nil(B w):au B (Á Å 0 0) [] w:=⟨rfl,.inl ⟨rfl,rfl⟩⟩
theorem NJ{w b A c ws p}(h:Rd w b A c ws p Ü):Ú prog 35 #[Ç b,É Ë 2] w λe G=>q9 b A c ws p w e G:=by
 have B:=aa (Oi h);go_in;go_wp2_with fail;refine B.o.mono ?_;rintro e E⟨rfl,D,C⟩;go_wp2;go_ret;exact⟨rfl,D,C⟩
theorem NI{w b A c ws p}(h:Rd w b A c ws p Ü):Ú prog 35 #[Ç b,É Ë 1] w λe J=>q9 b A c ws p w e J:=by
 have E:=aa (NJ h);go_in;go_wp2_with fail;refine E.o.mono ?_;rintro e H⟨rfl,B,G⟩;have I:=B.c2;have D:=aa B;have C:=aa G;go_wp2_with fail
 go_loopw [5] (λx wr=>wr=H/\x=Á Å 0 0) (λ_ _=>0)
 case atStart=>exact⟨rfl,rfl⟩
 case round=>
  obtain⟨rfl,rfl⟩:=hrel;go_wp2;go_ret;exact⟨rfl,D.o,C.o⟩
theorem JE{w b A c ws p}(h:Rd w b A c ws p Ü):Ú prog 35 #[Ç b,É Ë 0] w λe J=>q9 b A c ws p w e J:=by
 have E:=aa (NI h);go_in;go_wp2_with fail;refine E.o.mono ?_;rintro e H⟨rfl,B,G⟩;have I:=B.c2;have D:=aa B;have C:=aa G;go_wp2_with fail
 go_loopw [5] (λx wr=>wr=H/\x=Á Å 0 0) (λ_ _=>0)
 case atStart=>exact⟨rfl,rfl⟩
 case round=>
  obtain⟨rfl,rfl⟩:=hrel;go_wp2;go_ret;exact⟨rfl,D.o,C.o⟩
set_option maxHeartbeats 16000000
theorem dE{ws:List Wd}{p}(_h:p<=ſ ws):(ws.drop p).length=ſ ws-p:=Ð
theorem mF(ws:List Wd)(p):(ws.drop p).head?=ws[p]?:=List.head?_drop
theorem qU{ws:List Wd}{p r}(h:r <:+ ws.drop p):ws.drop (ſ ws-ſ r)=r:=by
 obtain⟨t,A⟩:=h.trans (List.drop_suffix p ws);have B:=congrArg ç A;rw[Ã]at B;have e:ſ ws-ſ r=ſ t:=by omega
 rw[e,<-A,List.drop_left]
theorem CP{b A c ws p}(K:kO b A c ws p):ii b A c ws 2 p:=by
 intro w h;have H:=aa (K w h);show Ú prog 35 #[Ç b,É Ë 2] w _;go_in;go_wp2_with fail;refine H.o.mono ?_;rintro e J⟨r,C,D,E,rfl,B⟩;have G:Hid (gq b A c ws (.level 2) p w r C (Á D (ſ C) E) J):=⟨.lev2 B.pr,B.o,B.n,B.e,B.rd,B.bt⟩;generalize I:ſ C=m;go_wp2;go_ret;exact⟨r,C,D,E,by rw[I];rfl,G.o⟩
theorem au.but{B b v C}{w:Æ}{A}(h:au B v C w)(E:ak w b w A)(H:b<B):au B v C A:=h.kept λg G D=>E.block g D (by omega)
structure sJ(b:Nat)(A:Option æ)(c:Nat)(ws:List Wd)(k p:Nat)(w:Æ)(q:Nat)(bad:Bool)(acc:List Td)(v:Value)(wr:Æ):Prop where
 le:q<=ſ ws
 lt:p<q\/bad=Ü
 pq:p<=q
 n:ſ acc+(ſ ws-q)<=ſ ws-p
 o:au w v acc wr
 rd:Rd wr b A c ws q bad
 bt:ak w b w wr
 ok:bad=Ì->∀r,PR (.loop k acc) (ws.drop q) r->PR (.level k) (ws.drop p) r
 bd:bad=Ü->PR (.level k) (ws.drop p) (.bad (ws.drop q))
theorem UQ{b A c ws k p w r L v M}(J:k<2)(I:p<=ſ ws)(h:gq b A c ws (.level (k+1)) p w r L v M):sJ b A c ws k p w (ſ ws-ſ r.rest) r.isBad L v M:=by
 have B:=il h.pr;have C:=qU B.1
 have H:ſ r.rest<=ſ ws-p:=by
  have:=h.n
  rw[dE I]at this;omega
 have G:=h.n;rw[dE I]at G;cases r with
 | bad u=>
  simp only[Rs.rest,Rs.isBad]at *;exact⟨by omega,.inr rfl,by omega,by omega,h.o,h.rd,h.bt,(λe=>by cases e),(λ_=>by rw[C];exact .levB J h.pr)⟩
 | ok m ms u=>
  have E:=h.e m ms u rfl;subst E;have D:=B.2 m ms u rfl;rw[dE I]at D;simp only[Rs.rest,Rs.isBad,dO.eats]at *;exact⟨by omega,.inl (by omega),by omega,by omega,h.o,h.rd,h.bt,(λ_ r K=>by rw[C]at K;exact .levO J h.pr K),(λe=>by cases e)⟩
theorem K4{b A c ws k p}{w:Æ}{q B v wr W f X r S g d}(U:sJ b A c ws k p w q Ì B v wr)(h:q<ſ ws)(Z:ws.drop q=jk k::ws.drop (q+1))
  (G:ak w b w W) (I:w.heap.size<=W.heap.size) (R:gq b A c ws (.level (k+1)) (q+1) W r S g f) (H:b<w.heap.size) (Y:Below w f X) (V:au w d (([dB k]++B)++S) X):
  sJ b A c ws k p w (ſ ws-ſ r.rest) r.isBad (dB k::(B++S)) d X/\q<ſ ws-ſ r.rest:=by
 have J:=il R.pr;have K:=qU J.1;have P:=R.n;rw[dE (by omega)]at P;have M:=U.n;have N:=U.pq;have E:=R.rd.keepB Y H;have D:=(G.trans (R.bt.mono I)).trans (ak.of Y);have L:(([dB k]++B)++S)=dB k::(B++S):=by simp
 rw[L]at V;have C:(dB k::(B++S)).length=1+ſ B+ſ S:=by simp;omega
 cases r with
 | bad u=>
  simp only[Rs.rest,Rs.isBad]at *;exact⟨⟨by omega,.inr rfl,by omega,by rw[C];omega,V,E,D,(λe=>by cases e),(λ_=>by rw[K];exact U.ok rfl _ (by rw[Z];exact .lopB R.pr))⟩,by omega⟩
 | ok m ms u=>
  have O:=R.e m ms u rfl;subst O;simp only[Rs.rest,Rs.isBad]at *;exact⟨⟨by omega,.inl (by omega),by omega,by rw[C];omega,V,E,D,(λ_ r a=>by rw[K]at a;exact U.ok rfl _ (by rw[Z];exact .lopO R.pr a)),(λe=>by cases e)⟩,by omega⟩
theorem tN(k)(hk:k=0\/k=1){b A c ws p}(hl:ſ ws<=60000)(hp:p<=ſ ws)(hL:∀q,p<=q->q<=ſ ws->ii b A c ws (k+1) q):ii b A c ws k p:=by
 have C:lZ k:=.mk;rcases hk with rfl|rfl
 all_goals
  intro w h;have HL:Hid (∀q,p<=q->q<=ſ ws->ii b A c ws ↑(cA C 1 2) q):=hL;have z:Hid (Cp 35 #[Ç (Ô ⟨b,0,Å⟩),É Ë ↑(bI C (1:Int) 2)] w λe a=>∃r S U V,e=Ê (Á U (ſ S) V)/\gq b A c ws (.level ↑(cA C 1 2)) p w r S (Á U (ſ S) V) a):=hL p Zl hp w h;have j:b<w.heap.size:=h.row.lt;clear h hL;show Ú prog 35 #[Ç (Ô ⟨b,0,Å⟩),É Ë ↑(bI C (0:Int) 1)] w _;go_in;go_wp2_with fail;refine z.o.mono ?_;rintro e w1⟨r,S,U,V,rfl,hG⟩;have Ar:=aa (UQ (k:=↑(cA C 0 1)) (by omega) hp hG);generalize hm:ſ S=m;have HM:Hid (ſ S=m):=hm;clear hG hm z;go_wp2_with fail
  go_loopw [5] (λx wr=>∃(q:Nat)(i:Bool)(B:List Td)(U:Option æ)(V:Nat),x=Á U (ſ B) V/\sJ b A c ws ↑(cA C 0 1) p w q i B (Á U (ſ B) V) wr) (λ_ wr=>ſ ws-px wr b)
  case atStart=>exact⟨_,_,S,U,V,by rw[HM.o],Ar.o⟩
  case round=>
   obtain⟨q,i,B,u,c1,rfl,D⟩:=hrel;have X:=aa D;have d1:=D.rd.c1;have d2:=D.rd.c2;have Y:=D.le;have hn:=D.n;have Az:wr.frozen? ⟨b,1,Å⟩=false:=D.rd.row.frozen;have Aw:b<wr.heap.size:=D.rd.row.lt;have Ao:=D.bt.size;generalize Ai:ſ B=al at hn;have H:Hid (ſ B=al):=Ai;clear D Ai;cases i with
   | true=>
    go_wp2;go_ret;have D:=X.o;have P:=dE Y;refine⟨.bad (ws.drop q),B,u,c1,by rw[H.o];rfl,D.bd rfl,D.o,?_,(λ_ _ _ e=>by cases e),?_,D.bt⟩
    .have Ay:=D.pq;have h1:=D.n;rw[dE hp];simp only[Rs.rest,P];omega
    .have h1:=D.rd;have e1:ſ ws-(Rs.bad (ws.drop q)).rest.length=q:=by simp only[Rs.rest,P];omega
     rw[e1];exact h1
   | false=>
    have O:Hid (∀W:Æ,Below wr wr W->Cp 32 #[Ç (Ô ⟨b,0,Å⟩),Í ((⟨#[43,42]⟩:ByteArray).extract ↑(cA C 0 1) ↑(cA C 1 2))] W λe a=>e=Ê (ß (!Ì&&(ws[q]?==Ô [↑(bI C (43:UInt8) 42)])))/\∃G,a=W.drewN G):=λW hb=>by
     have e0:(⟨#[43,42]⟩:ByteArray).extract ↑(cA C 0 1) ↑(cA C 1 2)=ab [↑(bI C (43:UInt8) 42)]:=rfl;rw[e0];exact oW (X.o.rd.keep hb) [↑(bI C (43:UInt8) 42)]
    cases J:(!Ì&&(ws[q]?==Ô ([↑(bI C (43:UInt8) 42)]:Wd)))with
    | false=>
     rw[J]at O
     have Ak:(ws.drop q).head?≠Ô (jk ↑(cA C 0 1)):=by
      rw[mF];intro e;rw[e]at J;exact absurd J (by decide)
     have At:=aa Ak;clear J Ak;go_wp2_with fail;refine(O.o _ Zb).mono ?_;rintro e w2⟨rfl,G,rfl⟩;go_wp2;go_ret;have D:=X.o;have P:(ws.drop q).length=ſ ws-q:=dE Y;have e1:ſ ws-(Rs.ok 0 B (ws.drop q)).rest.length=q:=by simp only[Rs.rest,P];omega
     refine⟨.ok 0 B (ws.drop q),B,u,c1,by rw[H.o];rfl,D.ok rfl _ (.lopE At.o),D.o,?_,(λ_ _ _ e=>by cases e;rfl),?_,D.bt.trans (ak.of (aP (À _ wr) G))⟩
     .have Ay:=D.pq;have h1:=D.n;rw[dE hp];simp only[Rs.rest,P];omega
     .rw[e1];exact D.rd.keep (aP (À _ wr) G)
    | true=>
     rw[J]at O;have Am:ws[q]?=Ô ([↑(bI C (43:UInt8) 42)]:Wd):=by simpa using J
     obtain⟨Z,An⟩:=Ó.1 Am
     have Ap:Hid (ws.drop q=jk ↑(cA C 0 1)::ws.drop (q+1)):=by
      show _=_;rw[Â Z,An];rfl
     clear J Am An;go_wp2_with fail;refine(O.o _ Zb).mono ?_;rintro e w2⟨rfl,G,rfl⟩
     have Ae:Hid (Rd ((wr.drewN G).setCell ⟨b,1,Å⟩ (É Ë ((q:Int)+1))) b A c ws (q+1) Ì):=by
      have h2:=(X.o.rd.keep (aP (À _ wr) G)).setAt (q+1);rw[show((q+1:Nat):Int)=(q:Int)+1 by omega]at h2;exact h2
     have d:Hid (ak wr b wr ((wr.drewN G).setCell ⟨b,1,Å⟩ (É Ë ((q:Int)+1)))):=(ak.of (aP (À _ wr) G)).setCell (p:=⟨b,1,Å⟩) (.inl rfl) _;have D:=X.o
     have Ah:Hid (au w (Á (Ô ⟨wr,0,Å⟩) 1 1) [dB ↑(cA C 0 1)] (((wr.drewN G).setCell ⟨b,1,Å⟩ (É Ë ((q:Int)+1))).alloc (Ö #[É Ë ↑(bI C (5:Int) 6),Í ⟨#[]⟩,É Ë 0] 81))):=by
      have h2:=au.one ((wr.drewN G).setCell ⟨b,1,Å⟩ (É Ë ((q:Int)+1))) (dB ↑(cA C 0 1));have e2:((wr.drewN G).setCell ⟨b,1,Å⟩ (É Ë ((q:Int)+1))).heap.size=wr.heap.size:=Õ ..;rw[e2]at h2;exact h2.down Ao
     have Ag:Hid (aG (((wr.drewN G).setCell ⟨b,1,Å⟩ (É Ë ((q:Int)+1))).alloc (Ö #[É Ë ↑(bI C (5:Int) 6),Í ⟨#[]⟩,É Ë 0] 81)) u B):=((D.o.but d.o j).tds).alloc _
     have Ab:Hid (u=Å->al=0/\c1=0):=by
      have h3:=D.o.none;rw[H.o]at h3;exact h3.2
     have Af:Hid (∀W,Below (wr.heap.size) ((wr.drewN G).setCell ⟨b,1,Å⟩ (É Ë ((q:Int)+1))) W->Rd W b A c ws (q+1) Ì):=λW hW=>Ae.o.keepB hW Aw
     have v:Hid (Below wr ((wr.drewN G).setCell ⟨b,1,Å⟩ (É Ë ((q:Int)+1))) (((wr.drewN G).setCell ⟨b,1,Å⟩ (É Ë ((q:Int)+1))).alloc (Ö #[É Ë ↑(bI C (5:Int) 6),Í ⟨#[]⟩,É Ë 0] 81))):= Zb.alloc (by rw[Õ];exact Ý _) _
     have a:(((wr.drewN G).setCell ⟨b,1,Å⟩ (É Ë ((q:Int)+1))).alloc (Ö #[É Ë ↑(bI C (5:Int) 6),Í ⟨#[]⟩,É Ë 0] 81)).heap.size=wr.heap.size+1:=by
      rw[Ø,Õ];rfl
     have M:=(show Hid (_=_)from a);clear D a;go_wp2_with(at_builtin;refine jf rfl _ _ rfl w.heap.size _ [dB ↑(cA C 0 1)] rfl Ah.o u al B H.o c1 rfl Ag.o Ab.o (1+al) rfl (by omega) (by rw[M.o];omega) ?_);intro A3 c3 t Q E;have Ac:Hid (au w (Á A3 (1+al) c3) ([dB ↑(cA C 0 1)]++B) t):=Q
     have K:∀a,(Á (Ô ⟨wr,0,Å⟩) 1 1).ownBlock=Ô a->wr.heap.size<=a:=λk' hk=>by
      simp only[Value.ownBlock,Option.some.injEq]at hk;omega
     have y:Hid (ak wr b wr t):=(d.o.alloc (by rw[Õ];exact Ý _) _).grown E (by rw[M.o];omega) K;have Au:Hid (Rd t b A c ws (q+1) Ì):=Af.o t (v.o.grown E (by rw[M.o];omega) K);have A0:=y.o.size;have Aa:Hid (Cp 35 #[Ç (Ô ⟨b,0,Å⟩),É Ë ↑(bI C (1:Int) 2)] t λe a=>∃r S U V,e=Ê (Á U (ſ S) V)/\gq b A c ws (.level ↑(cA C 1 2)) (q+1) t r S (Á U (ſ S) V) a):=HL.o (q+1) (by have:=X.o.pq;omega) (by omega) t Au.o;clear Q E K Ah Ag Ab Ae Af v M d O;go_wp2_with fail;refine Aa.o.mono ?_;rintro e w4⟨r4,L,A4,c4,rfl,I⟩;have Aq:=aa I;have l:=I.n;rw[dE (by omega)]at l;have Av:Hid (aG w4 A4 L):=I.o.tds;have A2:=I.bt.size;have Ad:Hid (au w (Á A3 (1+al) c3) ([dB ↑(cA C 0 1)]++B) w4):=Ac.o.but I.bt j;generalize s:ſ L=n4 at l;have f:Hid (ſ L=n4):=s
     have As:Hid (A4=Å->n4=0/\c4=0):=by
      have h3:=I.o.none;rw[s]at h3;exact h3.2
     have Ax:1+al+n4<=1000000:=by omega
     clear I s l Aa Ac;go_wp2_with(at_builtin;refine jf rfl _ _ rfl w.heap.size _ ([dB ↑(cA C 0 1)]++B) rfl Ad.o A4 n4 L f.o c4 rfl Av.o As.o (1+al+n4) (by rw[Ã,H.o];rfl) Ax (by omega) ?_);intro A5 c5 w5 R N;have Aj:Below w w4 w5:= Zb.grown N (by omega) (λa b=>(Ñ Ad.o a b).1);have Al:=K4 X.o Z Ap.o (X.o.bt.trans (y.o.mono Ao)) (by omega) Aq.o j Aj R;have g:=aa Al;clear R N Aj Al;go_wp2;refine⟨⟨ſ ws-ſ r4.rest,r4.isBad,dB ↑(cA C 0 1)::(B++L),A5,c5,?_,?_⟩,?_⟩
     .have e5:(dB ↑(cA C 0 1)::(B++L)).length=1+al+n4:=by rw[Ä,Ã,H.o,f.o];omega
      rw[e5]
     .have e5:(dB ↑(cA C 0 1)::(B++L)).length=1+al+n4:=by rw[Ä,Ã,H.o,f.o];omega
      rw[e5];exact g.o.1
     .rw[g.o.1.rd.at_eq,X.o.rd.at_eq]
      have:=g.o.2
      omega
def sR(w:Æ)(b:Nat):Nat:=match w.cell? ⟨b,2,Å⟩with
 | some (ß Ü)=>0
 | _=>1
theorem Rd.nb_eq{w b A c ws C B}(h:Rd w b A c ws C B):sR w b=if B then 0 else 1:=by
 unfold sR;rw[h.c2];cases B<;>rfl
structure sG(b:Nat)(A:Option æ)(c:Nat)(ws:List Wd)(e:Wd)(p:Nat)(w:Æ)(r:Rs)(n:Nat)(ns:List Td)(v:Value)(w':Æ):Prop where
 pr:PR (.args e 0 []) (ws.drop p) r
 o:au w v ns w'
 nl:ſ ns+ſ r.rest<=(ws.drop p).length
 ev:∀m ms u,r=.ok m ms u->ms=ns/\m=n
 rd:Rd w' b A c ws (ſ ws-ſ r.rest) r.isBad
 bt:ak w b w w'
 le:n<=60000
abbrev sI(b:Nat)(A:Option æ)(c:Nat)(ws:List Wd)(e:Wd)(p:Nat):Prop:=∀w:Æ,Rd w b A c ws p Ì->Ú prog 70 #[Ç (Ô ⟨b,0,Å⟩),Í (ab e)] w λa d=>∃r n f g h,a=Ê (é #[É Ë ((n:Nat):Int),Á g (ſ f) h])/\sG b A c ws e p w r n f (Á g (ſ f) h) d
structure pe(b:Nat)(A:Option æ)(c:Nat)(ws:List Wd)(e:Wd)(p:Nat)(w:Æ)(q:Nat)(bad:Bool)(n:Nat)(acc:List Td)(v:Value)(wr:Æ):Prop where
 le:q<=ſ ws
 pq:p<=q
 cn:bad=Ì->n<=q-p
 nl:ſ acc+(ſ ws-q)<=ſ ws-p
 o:au w v acc wr
 rd:Rd wr b A c ws q bad
 bt:ak w b w wr
 ok:bad=Ì->∀r,PR (.args e n acc) (ws.drop q) r->PR (.args e 0 []) (ws.drop p) r
 bd:bad=Ü->PR (.args e 0 []) (ws.drop p) (.bad (ws.drop q))
theorem Ge{b A c ws e p}{w:Æ}{q q' n B v wr X h Y r W k g}(U:pe b A c ws e p w q Ì n B v wr)(d:q'<=ſ ws)(R:q<=q')
  (i:∀u,PR (.level 0) (ws.drop q') (.bad u)->PR (.args e n B) (ws.drop q) (.bad u)) (j:∀m V u r,PR (.level 0) (ws.drop q') (.ok m V u)->PR (.args e (n+1) (B++V)) u r->PR (.args e n B) (ws.drop q) r)
  (H:ak w b w X) (J:w.heap.size<=X.heap.size) (S:gq b A c ws (.level 0) q' X r W k h) (I:b<w.heap.size) (Z:Below w h Y) (a:au w g (B++W) Y):
  pe b A c ws e p w (ſ ws-ſ r.rest) r.isBad (n+1) (B++W) g Y/\2*(ſ ws-(ſ ws-ſ r.rest))+(if r.isBad then 0 else 1)<2*(ſ ws-q)+1:=by
 have G:=il S.pr;have K:=qU G.1;have Q:=S.n;rw[dE d]at Q;have N:=U.nl;have O:=U.pq;have M:=U.cn rfl;have E:=S.rd.keepB Z I;have D:=(H.trans (S.bt.mono J)).trans (ak.of Z);have C:(B++W).length=ſ B+ſ W:=Ã;cases r with
 | bad u=>
  simp only[Rs.rest,Rs.isBad]at *;exact⟨⟨by omega,by omega,(λe=>by cases e),by rw[C];omega,a,E,D,(λe=>by cases e),(λ_=>by rw[K];exact U.ok rfl _ (i _ S.pr))⟩,by simp only[if_true];omega⟩
 | ok m V u=>
  have P:=S.e m V u rfl;subst P;have L:=G.2 m V u rfl;rw[dE d]at L;simp only[Rs.rest,Rs.isBad,dO.eats]at *;exact⟨⟨by omega,by omega,(λ_=>by omega),by rw[C];omega,a,E,D,(λ_ r f=>by rw[K]at f;exact U.ok rfl _ (j _ _ _ _ S.pr f)),(λe=>by cases e)⟩,by simp only[È,if_false];omega⟩
theorem CV{b A c ws e p}(he:e≠[44])(hl:ſ ws<=60000)(hp:p<=ſ ws)(hL:∀q,p<=q->q<=ſ ws->ii b A c ws 0 q):sI b A c ws e p:=by
 intro w h;have HL:=aa hL;have HE:=aa he;have L:=h.row.lt;have Au:Hid (pe b A c ws e p w p Ì 0 [] (Á Å 0 0) w):=⟨hp,Ý _,λ_=>è _,by simp,au.nil _ _,h,ak.refl _ _ _,λ_ r a=>a,λe=>by cases e⟩;clear h hL he;generalize hS:ab e=S;have HS:=aa hS;clear hS;go_in;go_wp2_with fail
 go_loopw [6,7] (λx n wr=>∃(q:Nat)(Aa:Bool)(n':Nat)(C:List Td)(A':Option æ)(c':Nat),x=Á A' (ſ C) c'/\n=(n':Int)/\n'<=60001/\pe b A c ws e p w q Aa n' C (Á A' (ſ C) c') wr) (λ_ _ wr=>2*(ſ ws-px wr b)+sR wr b)
 case atStart=>exact⟨p,Ì,0,[],Å,0,rfl,rfl,by omega,Au.o⟩
 case round=>
  obtain⟨q,Aa,n,C,A1,c1,rfl,rfl,Az,K⟩:=hrel;have J:=aa K;have d1:=K.rd.c1;have d2:=K.rd.c2;have X:=K.le;have Ao:=K.pq;have hn:=K.nl;have Ah:Aa=Ì->n<=60000:=λe=>by have:=K.cn e;omega
  have A2:wr.frozen? (b,1)=false:=K.rd.row.frozen;have A0:=K.rd.row.lt;have Ac:=K.bt.size;generalize Ak:ſ C=al at hn;have I:=aa Ak;clear K Ak;cases Aa with
  | true=>
   clear Ah;go_wp2;refine bodyPost_ret (v:=é #[É Ë 0,Á Å 0 0]) (by simp[results,Tryz.results70,go_sem]) rfl ?_;have K:=J.o;have j:(ws.drop q).length=ſ ws-q:=dE X;have e1:ſ ws-(Rs.bad (ws.drop q)).rest.length=q:=by simp only[Rs.rest,j];omega
   refine⟨.bad (ws.drop q),0,[],Å,0,rfl,K.bd rfl,au.nil _ _,?_,(λ_ _ _ e=>by cases e),?_,K.bt,by omega⟩
   .rw[dE hp];simp only[Rs.rest,j,â];omega
   .rw[e1];exact K.rd
  | false=>
   have Aw:=Ah rfl;clear Ah
   have Y:Hid (Cp 32 #[Ç b,Í S] wr λy a=>y=Ê (ß (!Ì&&(ws[q]?==Ô e)))/\∃b,a=wr.drewN b):=by
    have:=oW J.o.rd e
    rw[HS.o]at this;exact this
   cases U:(!Ì&&(ws[q]?==Ô e))with
   | true=>
    rw[U]at Y;have l:ws[q]?=Ô e:=by simpa using U
    obtain⟨t,s⟩:=Ó.1 l
    have z:Hid (ws.drop q=e::ws.drop (q+1)):=by
     show _=_;rw[Â t,s]
    clear U l s;go_wp2_with fail;refine Y.o.mono ?_;rintro y w2⟨rfl,q',rfl⟩;go_wp2;refine bodyPost_ret (v:=é #[(n:Int),Á A1 al c1]) (by simp[results,Tryz.results70,go_sem]) rfl ?_;have K:=J.o;have j:(ws.drop (q+1)).length=ſ ws-(q+1):=dE (by omega);have e1:ſ ws-(Rs.ok n C (ws.drop (q+1))).rest.length=q+1:=by simp only[Rs.rest,j];omega
    have Ax:Rd ((wr.drewN q').setCell ↑(b,1) ↑((q:Int)+1)) b A c ws (q+1) false:=by
     have h2:=(K.rd.keep (aP (À _ wr) q')).setAt (q+1);rw[show((q+1:Nat):Int)=(q:Int)+1 by omega]at h2;exact h2
    have Al:ak wr b wr ((wr.drewN q').setCell ↑(b,1) ↑((q:Int)+1)):=(ak.of (aP (À _ wr) q')).setCell (p:=↑(b,1)) (.inl rfl) _;refine⟨.ok n C (ws.drop (q+1)),n,C,A1,c1,by rw[I.o],K.ok rfl _ (by rw[z.o];exact .aEnd),K.o.but Al L,?_,(λ_ _ _ e=>by cases e;exact⟨rfl,rfl⟩),?_,K.bt.trans (Al.mono Ac),Aw⟩
    .have Z:=K.nl;rw[dE hp];simp only[Rs.rest,j];omega
    .rw[e1];exact Ax
   | false=>
    rw[U]at Y
    have An:(ws.drop q).head?≠Ô e:=by
     rw[mF];intro e0;rw[e0]at U;simp at U
    have Af:=aa An;clear U An;by_cases Av:n=0
    .subst Av;go_wp2_with fail;refine Y.o.mono ?_;rintro y w2⟨rfl,q',rfl⟩;have O:=aa (HL.o q Ao X _ (J.o.rd.keep (aP (À _ wr) q')));have H:Hid (ak wr b wr (wr.drewN q')):=ak.of (aP (À _ wr) q');generalize wr.drewN q'=w2 at O H⊢;have Ap:=H.o.size;go_wp2_with fail;refine O.o.mono ?_;rintro y w4⟨r4,N,A4,c4,rfl,E⟩;have Ad:=aa E;have V:=E.n;rw[dE (by omega)]at V;have Ag:=aa E.o.tds;have Aq:=E.bt.size
     have P:Hid (au w (Á A1 al c1) C w4):=by
      have Z:=J.o.o;rw[I.o]at Z;exact(Z.but H.o L).but E.bt L
     generalize W:ſ N=n4 at V;have d:=aa W
     have Ae:Hid (A4=Å->n4=0/\c4=0):=by
      have h3:=E.o.none;rw[W]at h3;exact h3.2
     have Ai:al+n4<=1000000:=by omega
     clear E W V O;go_wp2_with(at_builtin;refine jf rfl _ _ rfl w.heap.size _ C rfl P.o A4 n4 N d.o c4 rfl Ag.o Ae.o (al+n4) (by rw[I.o]) Ai (by omega) ?_);intro A5 c5 w5 D B;have M:= Zb.grown B (by omega) (λa b=>(Ñ P.o a b).1);have k:=Ge (q':=q) J.o (by omega) (by omega) (λu a=>.aB0 Af.o a) (λm a u r Z b=>.aO0 Af.o Z b) (J.o.bt.trans (H.o.mono Ac)) (by omega) Ad.o L M D;have G:=aa k;have e5:(C++N).length=al+n4:=by rw[Ã,I.o,d.o]
     have a:=(show Hid (_=_)from e5);clear D B M k e5;go_wp2;refine⟨⟨ſ ws-ſ r4.rest,r4.isBad,1,C++N,A5,c5,by rw[a.o],rfl,by omega,?_⟩,?_⟩
     .rw[a.o];exact G.o.1
     .rw[G.o.1.rd.at_eq,J.o.rd.at_eq,G.o.1.rd.nb_eq,J.o.rd.nb_eq];simpa using G.o.2
    .obtain⟨n,rfl⟩:∃a,n=a+1:=⟨n-1,by omega⟩;have Ay:(0:Int)<((n+1:Nat):Int):=by omega
     have Q:Hid (∀a,Cp 34 #[Ç b,Í ⟨#[44]⟩] (wr.drewN a) λe d=>(∃v,e=Ê v)/\Rd d b A c ws (dy ws q Ì [44]) (dx ws q Ì [44])/\ak (wr.drewN a).heap.size b (wr.drewN a) d):=λq'=>p6 (J.o.rd.keep (aP (À _ wr) q')) hl X [44]
     cases R:(!Ì&&(ws[q]?==Ô ([44]:Wd)))with
     | true=>
      have l:ws[q]?=Ô ([44]:Wd):=by simpa using R
      obtain⟨t,s⟩:=Ó.1 l
      have z:Hid (ws.drop q=[44]::ws.drop (q+1)):=by
       show _=_;rw[Â t,s]
      unfold dy dx at Q;rw[R]at Q;simp only[if_true,à]at Q;clear R l s;go_wp2_with fail;refine Y.o.mono ?_;rintro y w1⟨rfl,q',rfl⟩;go_wp2_with fail;refine(Q.o q').mono ?_;rintro y w2⟨⟨vv,rfl⟩,f,g⟩;have O:=aa (HL.o (q+1) (by omega) (by omega) _ f);have H:=aa ((ak.of (aP (À _ wr) q')).trans g);have Ap:=H.o.size;clear f g;go_wp2_with fail;refine O.o.mono ?_;rintro y w4⟨r4,N,A4,c4,rfl,E⟩;have Ad:=aa E;have V:=E.n;rw[dE (by omega)]at V;have Ag:=aa E.o.tds;have Aq:=E.bt.size
      have P:Hid (au w (Á A1 al c1) C w4):=by
       have Z:=J.o.o;rw[I.o]at Z;exact(Z.but H.o L).but E.bt L
      generalize W:ſ N=n4 at V;have d:=aa W
      have Ae:Hid (A4=Å->n4=0/\c4=0):=by
       have h3:=E.o.none;rw[W]at h3;exact h3.2
      have Ai:al+n4<=1000000:=by omega
      clear E W V O;go_wp2_with(at_builtin;refine jf rfl _ _ rfl w.heap.size _ C rfl P.o A4 n4 N d.o c4 rfl Ag.o Ae.o (al+n4) (by rw[I.o]) Ai (by omega) ?_);intro A5 c5 w5 D B;have M:= Zb.grown B (by omega) (λa b=>(Ñ P.o a b).1);have k:=Ge (q':=q+1) J.o (by omega) (by omega) (λu hu=>by rw[z.o];exact .aB HE.o hu) (λm ms u r Z h2=>by rw[z.o];exact .aO HE.o Z h2) (J.o.bt.trans (H.o.mono Ac)) (by omega) Ad.o L M D;have G:=aa k;have e5:(C++N).length=al+n4:=by rw[Ã,I.o,d.o]
      have a:=(show Hid (_=_)from e5);clear D B M k e5;go_wp2;refine⟨⟨ſ ws-ſ r4.rest,r4.isBad,n+1+1,C++N,A5,c5,by rw[a.o],by go_num,by omega,?_⟩,?_⟩
      .rw[a.o];exact G.o.1
      .rw[G.o.1.rd.at_eq,J.o.rd.at_eq,G.o.1.rd.nb_eq,J.o.rd.nb_eq];simpa using G.o.2
     | false=>
      have Am:(ws.drop q).head?≠Ô [44]:=by
       rw[mF];intro e0;rw[e0]at R;exact absurd R (by decide)
      have As:=aa Am;unfold dy dx at Q;rw[R]at Q;simp only[È,if_false,Þ]at Q;clear R Am;go_wp2_with fail;refine Y.o.mono ?_;rintro y w1⟨rfl,q',rfl⟩;go_wp2_with fail;refine(Q.o q').mono ?_;rintro y w2⟨⟨vv,rfl⟩,f,g⟩;have O:=aa (JE f);have H:=aa ((ak.of (aP (À _ wr) q')).trans g);have Ap:=H.o.size;clear f g;go_wp2_with fail;refine O.o.mono ?_;rintro y w4⟨rfl,Aj,Ab⟩
      have P:Hid (au w (Á A1 al c1) C w4):=by
       have Z:=J.o.o;rw[I.o]at Z;exact(Z.but H.o L).but Ab L
      have At:=aa Aj;have Ar:=aa ((J.o.bt.trans (H.o.mono Ac)).trans (Ab.mono (by omega)));have Aq:=Ab.size;clear Aj Ab;go_wp2_with(at_builtin;refine jf rfl _ _ rfl w.heap.size _ C rfl P.o Å 0 [] rfl 0 rfl (λi hi=>by simp at hi) (λ_=>⟨rfl,rfl⟩) al (by rw[I.o];rfl) (by omega) (by omega) ?_);intro A5 c5 w5 D B;have M:= Zb.grown B (by omega) (λa b=>(Ñ P.o a b).1);have G:Hid (pe b A c ws e p w q Ü (n+1+1) C (Á A5 al c5) w5):=⟨X,Ao,(λe=>by cases e),J.o.nl,D,At.o.keepB M L,Ar.o.trans (ak.of M),(λe=>by cases e),λ_=>J.o.ok rfl _ (.aSep Af.o As.o)⟩;clear D B M;go_wp2;refine⟨⟨q,Ü,n+1+1,C,A5,c5,by rw[I.o],by go_num,by omega,?_⟩,?_⟩
      .rw[I.o];exact G.o
      .rw[G.o.rd.at_eq,J.o.rd.at_eq,G.o.rd.nb_eq,J.o.rd.nb_eq];simp
theorem sr(ws a U w)(V:dC ws)(W:bN w a ws):
  Cw 93 #[Á a (ſ ws) U] w (Í (dw ws)):=by
 unfold Cw;have L:=aa W;have E:=aa V;have R:=V.1;go_in;go_wp2
 go_loopw [3,4] (λs i wr=>wr=w/\∃k:Nat,k<=ſ ws/\i=k/\s=Í (dw (ws.take k))) (λ_ i _=>ſ ws-(intOf i).toNat)
 case atStart=>exact⟨rfl,0,è _,rfl,rfl⟩
 case round=>
  obtain⟨rfl,k,Q,rfl,rfl⟩:=hrel;by_cases A:k<ſ ws
  .obtain⟨P,S,M,N,G⟩:=L.o k A;subst M;have O:(k:Int)<(ſ ws:Int):=by omega
   have I:=E.o.2 _ (List.getElem_mem A);have J:(dw (ws.take k)).size<=1260:=by rw[tL];exact(E.o.take k).ln
   by_cases H:k=0
   .have B:Hid (dw (ws.take (k+1))=dw (ws.take k)++ws[k]):=by
     show _=_;subst H;rw[List.take_zero,KG,RT A];exact(ByteArray.empty_append).symm
    have C:¬(0:Int)<(k:Int):=by omega
    generalize ws[k]=x at G B I;generalize dw (ws.take k)=z at B J;clear H;go_wp2
    go_roundw
    case rel=>exact⟨by trivial,k+1,by omega,by go_num,by rw[B.o]⟩
    case measure=>simp[intOf];omega
   .have B:=aa (UB (by omega) A);have C:(0:Int)<(k:Int):=by omega
    generalize ws[k]=x at G B I;generalize dw (ws.take k)=z at B J;go_wp2
    go_roundw
    case rel=>exact⟨by trivial,k+1,by omega,by go_num,by rw[B.o]⟩
    case measure=>simp[intOf];omega
  .have D:k=ſ ws:=by omega
   subst D;have K:Hid (dw (ws.take (ſ ws))=dw ws):=by show _=_;rw[á]
   go_wp2;go_ret;exact⟨by rw[<-K.o];rfl,rfl⟩
theorem Vd(ws a)(M L:Nat)(last w)(N:dC ws)(P:L<=100)(O:bN w a ws):
  Cw 92 #[Á a (ſ ws) M,L,ß last] w (bd (ln ws) L last):=by
 unfold Cw;have D:=aa O;have C:=aa N;have H:=N.ln;have B:=aa (tL ws);generalize ln ws=n at H B;by_cases h:L<n
 .have A:Hid ((bd n L last:Int)=1000*((n:Int)-L)):=EW h;have E:(L:Int)<n:=by omega
  go_in;go_wp2_with fail;refine an (sr ws a M _ C.o D.o) ?_;have G:=B.o;go_wp2;go_ret;exact⟨by rw[A.o];go_num,rfl⟩
 .cases last with
  | true=>
   have A:=aa (EU h);have E:¬(L:Int)<n:=by omega
   go_in;go_wp2_with fail;refine an (sr ws a M _ C.o D.o) ?_;have G:=B.o;go_wp2;go_ret;exact⟨by rw[A.o];rfl,rfl⟩
  | false=>
   have A:=aa (zh h);have E:¬(L:Int)<n:=by omega
   have K:IntKind.i64.wrap (((L:Int)-n)*((L:Int)-n))=((L:Int)-n)*((L:Int)-n):=by
    have I:0<=((L:Int)-n)*((L:Int)-n):=Int.mul_nonneg (by omega) (by omega);have J:((L:Int)-n)*((L:Int)-n)<=100*100:=Int.mul_le_mul (by omega) (by omega) (by omega) (by omega);rw[IntKind.wrap_i64];omega
   go_in;go_wp2_with fail;refine an (sr ws a M _ C.o D.o) ?_;have G:=B.o;go_wp2;go_ret;exact⟨by rw[A.o];rfl,rfl⟩
theorem Lu(n ws)(E:ſ ws=n)(a)(A B:Nat)(last w)(C:dC ws)(G:B<=100)(D:bN w a ws):
  Cw 92 #[Á a n A,B,ß last] w (bd (ln ws) B last):=by
 unfold Cw;subst E;exact Vd ws a A B last w C G D
theorem VZ(n ws)(E:ſ ws=n)(a A w)(B:ws≠[])(C:dC ws)(D:bN w a ws):
  Cw 223 #[Á a n A] w (ln ws):=by
 unfold Cw;subst E;exact Tv ws a A w B C D
theorem LT{w}(h:dR w)(L:dN w=Ü):(∀b∈w,ay b=Ü)/\(ſ w)<=6:=by
 obtain⟨c,r,rfl,_,K,J,_⟩:=h;have E:ay c=true:=L;have B:aI c=false:=rS E;simp only[bX,B,E,if_true,È,if_false,Bool.and_eq_true,decide_eq_true_eq]at K;simp only[aV,B,E,if_true,È,if_false,Ä]at J
 have C:r.takeWhile ay=r:=by
  have I:=jK (p:=ay) r;rw[show(r.takeWhile ay).length=ſ r by omega,á]at I;exact I.symm
 refine⟨λb D=>?_,by simp only[Ä];omega⟩;rcases å.1 D with rfl|D
 .exact E
 .rw[<-C]at D
  have H:∀(l:List UInt8)x,x∈l.takeWhile ay->ay x=true:=by
   intro l
   induction l with
   | nil=>intro x A;cases A
   | cons a l ih=>
    intro x A;rw[List.takeWhile_cons]at A;by_cases G:ay a=Ü
    .rw[if_pos G]at A;rcases å.1 A with rfl|A
     .exact G
     .exact ih x A
    .rw[if_neg G]at A;cases A
  exact H r b D
theorem nW{w S}(h:ab w=S)(A:w≠[]):0<S.size/\∀B:0<S.size,ay S[0]=dN w:=by
 subst h;cases w with
 | nil=>exact absurd rfl A
 | cons c r=>exact⟨by rw[<-aw];show 0<(c::r).length;simp,λ_=>rfl⟩
theorem Oj{b A c ws p}(N:p<=ſ ws)(M:ſ ws<=p):kO b A c ws p:=by
 intro w h;have D:=aa h;obtain⟨I,J,K,B,_,_⟩:=h;have L:w.frozen? (b,2)=false:=B.frozen;have H:(ſ ws:Int)<=(p:Int):=by omega
 have C:Hid (p=ſ ws):=(show p=ſ ws by omega);clear B M;show Ú _ _ _ _ _;go_in;go_wp2_with fail
 go_quiet (fail)
 go_wp2;go_ret;have G:ws.drop p=[]:=List.drop_eq_nil_of_le (by rw[C.o];exact Ý _);refine⟨.bad [],[],Å,0,rfl,by rw[G];exact .sinN,au.nil _ _,by simp[Rs.rest],(λ_ _ _ e=>by cases e),?_,?_⟩
 .have E:ſ ws-(Rs.bad []).rest.length=p:=by rw[C.o];rfl
  rw[E];exact(D.o.keep (aP (À _ w) _)).setBad Ü
 .exact(ak.of (aP (À _ w) _)).setCell (p:=(b,2)) (.inl rfl) _
theorem Sw{b A c ws p}{w:Æ}{d}{W:Æ}{X r Z v}(V:ws.drop p=[40]::ws.drop (p+1))(Q:p<ſ ws)(H:b<w.heap.size)(b1:ak w b w d)(U:gq b A c ws (.level 0) (p+1) d r Z v W)
  (S:Rd X b A c ws (dy ws (ſ ws-ſ r.rest) r.isBad [41]) (dx ws (ſ ws-ſ r.rest) r.isBad [41])) (Y:ak W b W X):∃f,gq b A c ws .single p w f Z v X:=by
 have K:=il U.pr;have N:=qU K.1;have L:=U.n;rw[dE (by omega)]at L;have G:=b1.size;have R:=U.bt.size;have J:=(U.o.down G).but Y H;have B:=(b1.trans (U.bt.mono G)).trans (Y.mono (by omega));have C:(ws.drop p).length=ſ ws-p:=dE (by omega);cases r with
 | bad u=>
  simp only[Rs.rest,Rs.isBad,dy,dx,à,Bool.false_and,È,if_false,Þ]at *;exact⟨.bad u,by rw[V];exact .sPB U.pr,J,by rw[C];simp only[Rs.rest];omega,(λ_ _ _ e=>by cases e),S,B⟩
 | ok m ms u=>
  have O:=U.e m ms u rfl;subst O;simp only[Rs.rest,Rs.isBad]at *;have P:ws[ſ ws-ſ u]?=u.head?:=by rw[<-mF,N]
  unfold dy dx at S;rw[P]at S;cases E:(!Ì&&(u.head?==Ô ([41]:Wd)))with
  | true=>
   rw[E]at S;simp only[if_true,à]at S
   obtain⟨D,rfl⟩:∃D,u=[41]::D:=by
    cases u with
    | nil=>simp at E
    | cons a D=>
     have:a=[41]:=by simpa using E
     exact⟨D,by rw[this]⟩
   simp only[Ä]at L S;have M:ſ ws-(ſ D+1)+1=ſ ws-ſ D:=by omega
   rw[M]at S;exact⟨.ok 0 ms D,by rw[V];exact .sPC U.pr,J,by rw[C];simp only[Rs.rest];omega,(λ_ _ _ e=>by cases e;rfl),S,B⟩
  | false=>
   rw[E]at S;simp only[È,if_false,Þ]at S
   have I:u.head?≠Ô [41]:=λe=>by
    rw[e]at E;exact absurd E (by decide)
   exact⟨.bad u,by rw[V];exact .sPX U.pr I,J,by rw[C];simp only[Rs.rest];omega,(λ_ _ _ e=>by cases e),S,B⟩
theorem zR{b A c ws p q e}{w:Æ}{U V O r n N v S x}(K:p<q)(Y:q<=ſ ws)(E:b<w.heap.size)(b1:ak w b w U)(M:sG b A c ws e q U r n N v V)
  (W:∀u,PR (.args e 0 []) (ws.drop q) (.bad u)->PR .single (ws.drop p) (.bad u)) (X:∀u,PR (.args e 0 []) (ws.drop q) (.ok n N u)->PR .single (ws.drop p) (.ok 0 (x::N) u))
  (P:Below w V O) (R:au w S ([x]++N) O):∃Z,gq b A c ws .single p w Z (x::N) S O:=by
 have L:=il M.pr;have J:=M.nl;rw[dE Y]at J;have G:=b1.size;have D:=M.rd.keepB P E;have B:ak w b w O:=(b1.trans (M.bt.mono G)).trans (ak.of P);have C:(ws.drop p).length=ſ ws-p:=dE (by omega);cases r with
 | bad u=>
  simp only[Rs.rest,Rs.isBad]at *;exact⟨.bad u,W u M.pr,R,by rw[C];simp only[Rs.rest,Ä];omega,(λ_ _ _ e=>by cases e),D,B⟩
 | ok m ms u=>
  obtain⟨H,I⟩:=M.ev m ms u rfl;subst H I;simp only[Rs.rest,Rs.isBad]at *;exact⟨.ok 0 (x::ms) u,X u M.pr,R,by rw[C];simp only[Rs.rest,Ä];omega,(λ_ _ _ e=>by cases e;rfl),D,B⟩
theorem SS{b A c ws p}(x:ſ ws<=60000)(H:p<ſ ws)(I:ws[p]≠[])(r:ws[p]≠[40])(s:ws[p]≠[91])(t:dN ws[p]=Ì)(u:bb ws[p]=Ì):kO b A c ws p:=by
 intro w h;have Z:=aa h;have f:b<w.heap.size:=h.row.lt;have n:w.frozen? (b,1)=false:=h.row.frozen;have o:w.frozen? (b,2)=false:=h.row.frozen;obtain⟨k,l,m,_,R,_⟩:=h;have g:¬(ſ ws:Int)<=(p:Int):=by omega
 have Q:(p:Int)<(ſ ws:Int):=by omega
 have K:Hid (ws.drop p=ws[p]::ws.drop (p+1)):=Â H;obtain⟨j,q,rfl,d,P⟩:=R p (by rw[Û];exact H);rw[Ù]at P;have D:Hid (aL (ab ws[p])=bb ws[p]):=(show aL (ab ws[p])=bb ws[p]from rfl);have B:((ab ws[p]).toList==[40])=(ws[p]==[40]):=by rw[Î];rfl
 have C:((ab ws[p]).toList==[91])=(ws[p]==[91]):=by rw[Î];rfl
 generalize M:ab ws[p]=X at P D B C;obtain⟨O,J⟩:=nW M I;have i:Hid (ab ws[p]=X):=M;have S:(0:Int)<(X.size:Int):=by omega
 have E:Hid (∀W:Æ,Cw 27 #[É .u8 (X[0].toNat:Int)] W (ß (dN ws[p]))):=λW=>by
  have:=jz X[0] W
  rw[J O]at this;exact this
 have G:Hid (∀W:Æ,Cw 33 #[Í X] W (ß (bb ws[p]))):=λW=>by
  have:=iV X W
  rw[D.o]at this;exact this
 have Y:Hid (∀v,Below w w (w.drewN v)):=λv=>aP (À _ w) v
 have U:(ws[p]==[40])=false:=by simpa using r
 have V:(ws[p]==[91])=false:=by simpa using s
 rw[U]at B;rw[V]at C;rw[t]at E;rw[u]at G
 have L:Hid (PR .single (ws.drop p) (.bad (ws.drop p))):=by
  show PR _ _ _;rw[K.o];exact .sBad r s t u
 clear r s t u U V;clear M J I R D;show Ú _ _ _ _ _;go_in;go_wp2_with fail
 go_quiet (fail)
 go_wp2_with fail
 go_quiet (fail)
 go_wp2_with fail;refine an (G.o _) ?_;go_wp2_with fail;refine an (E.o _) ?_;go_wp2;go_ret;have N:(ws.drop p).length=ſ ws-p:=dE (by omega);have a:ſ ws-(Rs.bad (ws.drop p)).rest.length=p:=by simp only[Rs.rest,N];omega
 refine⟨.bad (ws.drop p),[],Å,0,rfl,L.o,au.nil _ _,by simp[Rs.rest],(λ_ _ _ e=>by cases e),?_,?_⟩
 .rw[a];exact(Z.o.keep (aP (À _ w) _)).setBad Ü
 .exact(ak.of (aP (À _ w) _)).setCell (p:=(b,2)) (.inl rfl) _
theorem Om{b A c ws p}(hl:ſ ws<=60000)(E:p<ſ ws)(N:ws[p]≠[])(h1:ws[p]=[40])(hL:ii b A c ws 0 (p+1)):kO b A c ws p:=by
 intro w h;have x:=aa h;have f:b<w.heap.size:=h.row.lt;have f1:w.frozen? (b,1)=false:=h.row.frozen;have f2:w.frozen? (b,2)=false:=h.row.frozen;obtain⟨c0,c1,c2,_,q,_⟩:=h;have Ac:¬(ſ ws:Int)<=(p:Int):=by omega
 have o:(p:Int)<(ſ ws:Int):=by omega
 have H:Hid (ws.drop p=ws[p]::ws.drop (p+1)):=Â E;obtain⟨a,i,rfl,Ab,j⟩:=q p (by rw[Û];exact E);rw[Ù]at j;have D:Hid (aL (ab ws[p])=bb ws[p]):=(show aL (ab ws[p])=bb ws[p]from rfl);have C:((ab ws[p]).toList==[40])=(ws[p]==[40]):=by rw[Î];rfl
 have P:((ab ws[p]).toList==[91])=(ws[p]==[91]):=by rw[Î];rfl
 generalize d:ab ws[p]=X at j D C P;obtain⟨g,Q⟩:=nW d N;have HX:Hid (ab ws[p]=X):=d;have r:(0:Int)<(X.size:Int):=by omega
 have I:Hid (∀W:Æ,Cw 27 #[É .u8 (X[0].toNat:Int)] W (ß (dN ws[p]))):=λW=>by
  have:=jz X[0] W
  rw[Q g]at this;exact this
 have K:Hid (∀W:Æ,Cw 33 #[Í X] W (ß (bb ws[p]))):=λW=>by
  have:=iV X W
  rw[D.o]at this;exact this
 have u:Hid (∀a,Below w w (w.drewN a)):=λq'=>aP (À _ w) q'
 have s:(ws[p]==[40])=true:=by rw[h1];rfl
 rw[s]at C;have l:dN ws[p]=false:=by rw[h1];rfl
 have m:bb ws[p]=false:=by rw[h1];exact vV
 rw[l]at I;rw[m]at K;rw[h1]at H;have z:=(show Hid (ii b (Ô ↑(a,i)) c ws 0 (p+1))from hL)
 have Y:Hid (∀d,Rd ((w.drewN d).setCell ↑(b,1) ↑((p:Int)+1)) b (Ô ↑(a,i)) c ws (p+1) Ì):=λq'=>by
  have k:=(x.o.keep (aP (À _ w) q')).setAt (p+1);rw[show((p+1:Nat):Int)=(p:Int)+1 by omega]at k;exact k
 have U:Hid (∀a,ak w b w ((w.drewN a).setCell ↑(b,1) ↑((p:Int)+1))):=λq'=>(ak.of (aP (À _ w) q')).setCell (p:=↑(b,1)) (.inl rfl) _
 clear h1 l m s hL;clear d Q N q D;show Ú _ _ _ _ _;go_in;go_wp2_with fail
 go_quiet (fail)
 go_wp2_with fail
 go_quiet (fail)
 go_wp2_with fail;refine an (K.o _) ?_;go_wp2_with fail;refine an (I.o _) ?_;go_wp2_with fail;refine(z.o _ (Y.o _)).mono ?_;rintro e S⟨R,G,t,c4,rfl,B⟩;have J:=aa B;have Aa:b<S.heap.size:=B.rd.row.lt;have Z:Hid (Cp 34 #[Ç b,Í ⟨#[41]⟩] S λe d=>(∃v,e=Ê v)/\Rd d b (Ô ↑(a,i)) c ws (dy ws (ſ ws-ſ R.rest) R.isBad [41]) (dx ws (ſ ws-ſ R.rest) R.isBad [41])/\ak S b S d):=p6 B.rd hl (by omega) [41];generalize O:ſ G=n4;have V:Hid (ſ G=n4):=O;clear B O;go_wp2_with fail;refine Z.o.mono ?_;rintro e w5⟨⟨vv,rfl⟩,L,M⟩;obtain⟨r',n⟩:=Sw H.o E f (U.o _) J.o L M;have y:=aa n;clear L M n J;go_wp2;go_ret;exact⟨r',G,t,c4,by rw[V.o];rfl,y.o⟩
theorem Ok{b A c ws p}(hl:ſ ws<=60000)(d:p<ſ ws)(g:ws[p]≠[])(h1:ws[p]=[91])(hL:sI b A c ws [93] (p+1)):kO b A c ws p:=by
 intro w h;have HD:=aa h;have Aa:b<w.heap.size:=h.row.lt;have f1:w.frozen? (b,1)=false:=h.row.frozen;have f2:w.frozen? ↑(b,2)=false:=h.row.frozen;obtain⟨c0,c1,c2,_,hw,_⟩:=h;have Aj:¬(ſ ws:Int)<=(p:Int):=by omega
 have Ae:(p:Int)<(ſ ws:Int):=by omega
 have J:Hid (ws.drop p=ws[p]::ws.drop (p+1)):=Â d;obtain⟨ba,oa,rfl,Ah,d0⟩:=hw p (by rw[Û];exact d);rw[Ù]at d0;have K:Hid (aL (ab ws[p])=bb ws[p]):=(show aL (ab ws[p])=bb ws[p]from rfl);have G:((ab ws[p]).toList==[40])=(ws[p]==[40]):=by rw[Î];rfl
 have H:((ab ws[p]).toList==[91])=(ws[p]==[91]):=by rw[Î];rfl
 generalize hX:ab ws[p]=X at d0 K G H;obtain⟨Ad,i⟩:=nW hX g;have HX:Hid (ab ws[p]=X):=hX;have Af:(0:Int)<(X.size:Int):=by omega
 have Q:Hid (∀W:Æ,Cp 27 #[É .u8 (X[0].toNat:Int)] W λe M=>e=Ê (ß (dN ws[p]))/\W=M):=λW=>by
  have:=jz X[0] W
  rw[i Ad]at this;exact this
 have S:Hid (∀W:Æ,Cp 33 #[Í X] W λe M=>e=Ê (ß (bb ws[p]))/\W=M):=λW=>by
  have:=iV X W
  rw[K.o]at this;exact this
 have Ag:Hid (∀a,Below w w (w.drewN a)):=λq'=>aP (À _ w) q'
 have k1:(ws[p]==[40])=false:=by rw[h1];rfl
 have k2:(ws[p]==[91])=true:=by rw[h1];rfl
 rw[k1]at G;rw[k2]at H;have Y:dN ws[p]=false:=by rw[h1];rfl
 have h4:bb ws[p]=false:=by rw[h1];exact vW
 rw[Y]at Q;rw[h4]at S;rw[h1]at J
 have U:Hid (∀a,Rd ((w.drewN a).setCell ↑(b,1) ↑((p:Int)+1)) b (Ô ↑(ba,oa)) c ws (p+1) Ì):=λq'=>by
  have m:=(HD.o.keep (aP (À _ w) q')).setAt (p+1);rw[show((p+1:Nat):Int)=(p:Int)+1 by omega]at m;exact m
 have O:Hid (∀a,ak w b w ((w.drewN a).setCell ↑(b,1) ↑((p:Int)+1))):=λq'=>(ak.of (aP (À _ w) q')).setCell (p:=↑(b,1)) (.inl rfl) _
 have HL:Hid (∀a,Cp 70 #[Ç ↑b,Í ⟨#[93]⟩] ((w.drewN a).setCell ↑(b,1) ↑((p:Int)+1)) λa M=>∃d r n j k l,a=Ê (é #[↑((n:Nat):Int),Á k (ſ j) l])/\ak w b w d/\sG b (Ô ↑(ba,oa)) c ws [93] (p+1) d r n j (Á k (ſ j) l) M):=λq'=>by
  refine(hL _ (U.o q')).mono ?_;rintro e M⟨r,n,j,k,l,h1,m⟩;exact⟨_,r,n,j,k,l,h1,O.o q',m⟩
 clear h1 Y h4 k1 k2 hL U O;clear hX i g hw K;show Ú _ _ _ _ _;go_in;go_wp2_with fail
 go_quiet (fail)
 go_wp2_with fail
 go_quiet (fail)
 go_wp2_with fail;refine an (S.o _) ?_;go_wp2_with fail;refine an (Q.o _) ?_;go_wp2_with fail;refine(HL.o _).mono ?_;rintro e N⟨w1,r4,n,D,s,c4,rfl,Z,B⟩;have v:=aa B;have f:=B.nl;rw[dE (by omega)]at f;have Ai:=B.le;have Ab:=Z.size;have Ac:=B.bt.size;have z:Hid (aG N s D):=B.o.tds;generalize L:ſ D=n4 at f;have R:Hid (ſ D=n4):=L
 have y:Hid (s=Å->n4=0/\c4=0):=by
  have Y:=B.o.none;rw[L]at Y;exact Y.2
 have I:w.heap.size<=N.heap.size:=by omega
 have V:Hid (au w (Á N.heap.size 1 1) [kD n] (N.alloc (Ö #[É Ë 4,Í ⟨#[]⟩,(n:Int)] 81))):=(au.one N (kD n)).down I;have t:=aa Z;clear B L Ab Ac;go_wp2_with(at_builtin;refine jf rfl _ _ rfl w.heap.size _ [kD n] rfl V.o s n4 D R.o c4 rfl (z.o.alloc _) y.o (1+n4) rfl (by omega) (by rw[Ø];omega) ?_);intro A5 c5 w5 E C;have a:Below w N w5:=(Zb.alloc I _).grown C (by rw[Ø];omega) (λa b=>(Ñ V.o a b).1);obtain⟨r',hG⟩:=zR (ws:=ws) (p:=p) (q:=p+1) (x:=kD n) (by omega) (by omega) Aa t.o v.o (λu hu=>by rw[J.o];exact .sLB hu) (λu hu=>by rw[J.o];exact .sLO hu) a E;have HG:=aa hG
 have P:Hid ((kD n::D).length=1+n4):=by
  show _=_;rw[Ä,R.o];omega
 clear E C a hG;go_wp2;go_ret;exact⟨r',kD n::D,A5,c5,by rw[P.o];rfl,by rw[P.o];exact HG.o⟩
structure ic(wd:Nat)(ws:List ByteArray)(bL bF k:Nat)(w:Æ):Prop where
 ne:bL≠bF
 rl:fV w bL (ſ ws+1)
 rf:fV w bF (ſ ws)
 cl:∀j,k<=j->j<=ſ ws->w.cell? ⟨bL,j,Å⟩=Ô (É Ë ((best wd (ws.drop j):Nat):Int))
 cf:∀j,k<=j->j<ſ ws->w.cell? ⟨bF,j,Å⟩=Ô (É Ë ((eT wd (ws.drop j):Nat):Int))
theorem ic.kept{E:Nat}{ws:List ByteArray}{B A k:Nat}{w w':Æ}(h:ic E ws B A k w)(C:w'.heap[B]?=w.heap[B]?)(D:w'.heap[A]?=w.heap[A]?):ic E ws B A k w' where
 ne:=h.ne
 rl:=h.rl.kept C
 rf:=h.rf.kept D
 cl:=λj a b=>(Ï (w:=w) (a:=⟨B,j,Å⟩) C).trans (h.cl j a b)
 cf:=λj a b=>(Ï (w:=w) (a:=⟨A,j,Å⟩) D).trans (h.cf j a b)
theorem ic.made(C ws)(w:Æ):
  ic C ws w.heap.size (w.heap.size+1) (ſ ws) ((w.alloc (Ö (Ò #[É Ë 0] (ſ ws+1)) 3)).alloc (Ö (Ò #[É Ë 0] (ſ ws)) 3)):=by
 have A:((w.alloc (Ö (Ò #[É Ë 0] (ſ ws+1)) 3)).alloc (Ö (Ò #[É Ë 0] (ſ ws)) 3)).heap[w.heap.size]?=Ô (Ö (Ò #[É Ë 0] (ſ ws+1)) 3 (0,0)):=
  (Below.heap_alloc _ _ _ (by simp)).trans (ã w _)
 have B:((w.alloc (Ö (Ò #[É Ë 0] (ſ ws+1)) 3)).alloc (Ö (Ò #[É Ë 0] (ſ ws)) 3)).heap[w.heap.size+1]?=Ô (Ö (Ò #[É Ë 0] (ſ ws)) 3 (0,0)):=by
  have:=ã (w.alloc (Ö (Ò #[É Ë 0] (ſ ws+1)) 3)) (Ö (Ò #[É Ë 0] (ſ ws)) 3)
  simpa using this
 refine⟨by omega,⟨_,_,A,ä _ _⟩,⟨_,_,B,ä _ _⟩,λj a b=>?_,λj a b=>by omega⟩;obtain rfl:j=ſ ws:=by omega
 have:best C (ws.drop (ſ ws))=0:=by rw[List.drop_length];rfl
 rw[this];simp only[World.cell?,A];exact DA _ (by omega)
structure eZ(wd:Nat)(ws:List ByteArray)(bL bF i m:Nat)(w:Æ):Prop where
 l:ic wd ws bL bF (i+1) w
 c:1<=m->w.cell? ⟨bL,i,Å⟩=Ô (É Ë ((dI (dK wd (ws.drop i)) m:Nat):Int))/\w.cell? ⟨bF,i,Å⟩=Ô (É Ë ((i6 (dK wd (ws.drop i)) m:Nat):Int))
theorem eZ.kept{G:Nat}{ws:List ByteArray}{B A i m:Nat}{w w':Æ}(h:eZ G ws B A i m w)(C:w'.heap[B]?=w.heap[B]?)(D:w'.heap[A]?=w.heap[A]?):eZ G ws B A i m w' where
 l:=h.l.kept C D
 c:=λE=>⟨(Ï (w:=w) (a:=⟨B,i,Å⟩) C).trans (h.c E).1,(Ï (w:=w) (a:=⟨A,i,Å⟩) D).trans (h.c E).2⟩
theorem eZ.start{C ws B A i w}(h:ic C ws B A (i+1) w):eZ C ws B A i 0 w:=⟨h,λD=>by omega⟩
theorem eZ.skip{A ws C B i m w}(h:eZ A ws C B i m w)(D:¬(m=0\/dK A (ws.drop i) (m+1)<=dI (dK A (ws.drop i)) m)):eZ A ws C B i (m+1) w:=by
 refine⟨h.l,λ_=>?_⟩;rw[dI,i6,if_neg D,if_neg D];exact h.c (by omega)
theorem eZ.put{E ws H G i m w}(h:eZ E ws H G i m w)(hi:i<ſ ws)(I:m=0\/dK E (ws.drop i) (m+1)<=dI (dK E (ws.drop i)) m):
  eZ E ws H G i (m+1) ((w.setCell ↑(H,i) ↑((dK E (ws.drop i) (m+1):Nat):Int)).setCell ↑(G,i) ↑((m:Int)+1)):=by
 have ne:=h.l.ne;refine⟨⟨ne,h.l.rl.set.set,h.l.rf.set.set,λj a b=>?_,λj a b=>?_⟩,λ_=>?_⟩
 .exact(af (.inl (Ne.symm ne))).trans ((af (.inr (by omega))).trans (h.l.cl j a b))
 .exact(af (.inr (by omega))).trans ((af (.inl ne)).trans (h.l.cf j a b))
 .rw[dI,i6,if_pos I,if_pos I];obtain⟨C,A⟩:=h.l.rl.cell (i:=i) (by omega);obtain⟨D,B⟩:=h.l.rf.cell (i:=i) hi;exact⟨(af (.inl (Ne.symm ne))).trans (cF A),cF ((af (.inl ne)).trans B)⟩
theorem eZ.done{D ws G E i m w}(h:eZ D ws G E i m w)(hi:i<ſ ws)(H:m=ſ ws-i):ic D ws G E i w:=by
 have A:ws.drop i≠[]:=λe=>by
  have:=congrArg ç e
  rw[Ð,â]at this;omega
 obtain⟨B,C⟩:=h.c (by omega);refine⟨h.l.ne,h.l.rl,h.l.rf,λj a b=>?_,λj a b=>?_⟩
 .by_cases e:j=i
  .subst e;rw[qJ D A,Ð,<-H];exact B
  .exact h.l.cl j (by omega) b
 .by_cases e:j=i
  .subst e;rw[eT,Ð,<-H];exact C
  .exact h.l.cf j (by omega) b
theorem wH(A)(ws:List ByteArray)(i k):dK A (ws.drop i) k=bd (ln ((ws.drop i).take k)) A (k==ſ ws-i)+best A (ws.drop (i+k)):=by
 rw[dK,List.drop_drop,Ð]
