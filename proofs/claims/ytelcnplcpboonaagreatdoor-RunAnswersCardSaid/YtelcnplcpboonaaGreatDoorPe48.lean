import Derived.Test.YtelcnplcpboonaaGreatDoorPe46
import Derived.Test.YtelcnplcpboonaaGreatDoorPe44
import Derived.Test.YtelcnplcpboonaaGreatDoorPe43
open Go.Proofs.Tryz
open List renaming length->ſ
open Go.Value renaming string->À,int->Á,slice->Å,tuple->Ç,pointer->É,bool->Ñ,nilIface->Õ,agg->Ü,iface->â
open Go.IntKind renaming i64->Â
open Go.Ending renaming returned->Ã,panicked->ç
open Option renaming none->Ä,some->Æ
open Go.RowKit renaming Below->È,intOf->é
open Go renaming wpAny_take->Ê,undef->Î,wpAny_ready->Ï,World->Ò,heap_alloc_new->Ý,Calls->ã,callsD_of_wpS->æ,results->è
open Nat renaming zero_le->Ë,lt_of_lt_of_le->Í,le_of_lt->Û,ne_of_gt->Þ,le_refl->ê
open Go.Obj renaming cells->Ì
open List renaming length_append->Ð,length_singleton->Ó,eq_nil_of_length_eq_zero->Ô,length_cons->ß,getElem_mem->á,length_nil->ä
open Or renaming inl->Ö
open Int renaming toNat_natCast->Ø
open Bool renaming false->Ù,true->à
open Option.some renaming injEq->Ú,inj->å
namespace Go.Proofs.YtelcnplcpboonaaGreatDoor
open Go Go.RowKit
set_option maxRecDepth 100000
set_option maxHeartbeats 4000000
theorem Gb(n:Nat):fd (n:Int)=aA n++[10]:=by
 rw[fd,if_neg (by omega),Ø]
def EK(s:List UInt8):Prop:=∃a,cJ (ab s) a 0 0/\bu a=0
theorem Hx{s ps k f}(B:ſ s<=999999)(h:cJ (ab s) ps k f)(A:f≠0):eN f/\∃n:Nat,k=(n:Int)/\n<=999999:=by grind [xY,cg,ab,eN]
theorem H4{ps}(h:bu ps≠0):eN (bu ps):=by grind [nj,bu,eN]
theorem FM{k:Nat}(C:k<=999999)(f):(bQ k f).length<=100000000:=by
 have A:=qM f;have B:=gX 5 k (by omega);unfold bQ;rw[Ø];simp only[Ð,Ó]
 split
 .rw[ß];omega
 .rw[ä];omega
theorem NB{σ:Ss}(B M d)(hM:B<=M)(hd:B<=d)(w)(hS:bG w M d σ)(I:σ.tx.length<=999999)(Z:iu B w):
  ã prog 26 #[É (Æ ⟨M,0,Ä⟩),À ⟨#[115,101,116]⟩] w λe a=>eD M d σ .set 0 w e a:=by
 have O:Hid (Cw 41 #[À ⟨#[115,101,116]⟩,À ⟨#[43]⟩] w (Ç #[À ⟨#[115,101,116]⟩,Ñ Ù])):=od _ (by decide) w;have P:Hid (Cw 41 #[À ⟨#[115,101,116]⟩,À ⟨#[119,105,100,101,32]⟩] w (Ç #[À ⟨#[115,101,116]⟩,Ñ Ù])):=pQ _ (by decide) w;have a:Hid (∀W,Ex (ek M d) w W->fo W):=λW hx=>(Z.ex hM hd (by have:=hS.lt;omega) hx).at
 have HS:Hid (bG w M d σ):=hS;have y:=hS.cell0;have j:=hS.cell1;have d0:w.drew.cell? ⟨M,0,Ä⟩=Æ (É (Æ ⟨d,0,Ä⟩)):=y;have s:w.drew.cell? ⟨M,1,Ä⟩=Æ (À (ab σ.tx)):=j;have R:Hid (bG w.drew M d σ):=hS.W Zb.drew;have U:Hid (Ex (ek M d) w w.drew):=Ex.of Zb.drew;clear hS Z hM hd;by_cases o:EK σ.tx
 .obtain⟨D,L,p⟩:=o;obtain⟨_,_,Y,_⟩:=lM L;have m:=ru D σ.ps
  have q:Hid (ck σ .set (fd (cV D σ.ps:Nat)) ⟨σ.tx,D,σ.wd⟩):=by
   show ck _ _ _ _;rw[Gb];exact .set L p
  have J:Hid (∀W,bG W M d σ->Ex (ek M d) w W->Cp 46 #[É (Æ ⟨d,0,Ä⟩),À (ab σ.tx)] W λe a=>e=Ã (Ç #[Á Â (cV D σ.ps:Nat),Á Â 0,Õ])/\bG a M d ⟨σ.tx,D,σ.wd⟩/\Ex (ek M d) w a):=λW hs hx=>by
   refine(zy _ _ _ _ W hs.sh (a.o W hx).tabs).mono ?_;rintro e w'⟨qs,x,k,f,rfl,l,b,C⟩;cases l with
   | bad h1 h2=>exact absurd (eP h1 L).2.2 h2
   | full h1 h2=>
    obtain⟨rfl,_⟩:=eP h1 L;exact absurd p h2
   | ok h1 _=>
    obtain⟨rfl,_⟩:=eP h1 L;exact⟨rfl,hs.desk C b,hx.trans C.ex⟩
  have c:Hid (∀W,Ex (ek M d) w W->Cb 45 #[Á Â (cV D σ.ps:Nat),Á Â 0,Õ] W (À (ab (fd (cV D σ.ps:Nat))))):=λW hx=>DP _ _ (by omega) (by omega) W (a.o W hx)
  have G:(fd (cV D σ.ps:Nat)).length<=100000000:=by
   have:=gX 5 (cV D σ.ps) (by omega)
   rw[Gb,Ð,Ó];omega
  have Q:Hid ((fd (cV D σ.ps:Nat)).length<=100000000):=G;clear L p Y m G I;generalize fd (cV D σ.ps:Nat)=A at q c Q
  generalize(cV D σ.ps:Nat)=x at J c
  generalize ab σ.tx=T at j s J;go_in;go_wp2_with fail;refine an O.o ?_;go_wp2_with fail;refine an P.o ?_;go_wp2_with fail
  go_region_with (first
   | (go_at_call 46;refine(J.o _ ?_ ?_).mono ?_;exact R.o;exact U.o;rintro e E⟨rfl,H,C⟩;have g:Hid (bG E M d ⟨σ.tx,D,σ.wd⟩):=H;have S:Hid (Ex (ek M d) w E):=C;clear H C)
   | (go_at_call 45;refine(c.o _ ?_).mono ?_;exact S.o;rintro e t⟨rfl,V⟩;have N:Hid (È E E t):=V;clear V))
  all_goals
   go_wp2;go_ret;exact eD.ok q.o (g.o.W N.o) Q.o Zl (S.o.trans (Ex.of N.o))
 .have J:Hid (∀W,bG W M d σ->Ex (ek M d) w W->Cp 46 #[É (Æ ⟨d,0,Ä⟩),À (ab σ.tx)] W λe a=>∃(k:Nat)(f:Int),e=Ã (Ç #[Á Â 0,Á Â (k:Int),aF f])/\(eN f/\k<=999999/\ck σ .set (bQ k f) σ)/\bG a M d σ/\Ex (ek M d) w a):=λW hs hx=>by
   refine(zy _ _ _ _ W hs.sh (a.o W hx).tabs).mono ?_;rintro e w'⟨qs,x,k,f,rfl,l,b,C⟩;cases l with
   | bad h1 h2=>
    obtain⟨z,n,rfl,h4⟩:=Hx I h1 h2;exact⟨n,f,rfl,⟨z,h4,.setE h1 h2⟩,hs.desk C b,hx.trans C.ex⟩
   | full h1 h2=>exact⟨0,_,rfl,⟨H4 h2,by decide,.setF h1 h2⟩,hs.desk C b,hx.trans C.ex⟩
   | ok h1 h2=>exact absurd ⟨_,h1,h2⟩ o
  clear o I;generalize ab σ.tx=T at j s J;go_in;go_wp2_with fail;refine an O.o ?_;go_wp2_with fail;refine an P.o ?_;go_wp2_with fail
  go_region_dies
  all_goals
   refine(J.o _ ?_ ?_).mono ?_
   .exact R.o
   .exact U.o
   rintro e E⟨k,f,rfl,X,H,C⟩;have r:Hid (Cp 45 #[Á Â 0,Á Â (k:Int),aF f] E λe a=>e=ç [kU (bQ k f)]/\È E E a):=DO X.1 0 k X.2.1 E (a.o E C);have u:Hid (eN f/\k<=999999/\ck σ .set (bQ k f) σ):=X;have G:=FM X.2.1 f;clear X;generalize aF f=EV at r;rename_i K hK;refine hK _ _ ?_;clear hK K;refine Ê (i:=9) (v:=Á Â 0) rfl (by kernel_rfl) (by kernel_rfl) (by kernel_rfl) (λ_ _ _ h=>h) (Ö ⟨by rfl,(by intro W;go_simp)⟩) ?_;refine Ê (i:=10) (v:=Á Â (k:Int)) rfl (by kernel_rfl) (by kernel_rfl) (by kernel_rfl) (λ_ _ _ h=>h) (Ö ⟨by rfl,(by intro W;go_simp)⟩) ?_;refine Ê (i:=11) (v:=EV) rfl (by kernel_rfl) (by kernel_rfl) (by kernel_rfl) (λ_ _ _ h=>h) (Ö ⟨by rfl,(by intro W;go_simp)⟩) ?_;refine Ï (rs:=[12]) (by kernel_rfl) (by simp) ?_;refine AllReady.cons rfl (λK hK=>?_) AllReady.nil
   go_simp
   refine ai r.o λt V=>?_
   exact⟨rfl,eD.bad u.o.2.2 (H.W V) G Zl (C.trans (Ex.of V))⟩
def fh(G:Nat)(w:Ò)(a:Option Addr)(ws:List Int):Prop:=
 ∀i(h:i<ſ ws),∃b o,a=Æ ⟨b,o,Ä⟩/\b<w.heap.size/\G<=b/\w.cell? ⟨b,o+i,Ä⟩=Æ (Á Â ws[i])
theorem fh.ints{G w a ws}(h:fh G w a ws):eE w a ws:=by
 intro i B;obtain⟨b,o,e,A,_,c⟩:=h i B;exact⟨b,o,e,A,c⟩
theorem fh.W{G w w' a ws}(h:fh G w a ws)(D:È w w w'):fh G w' a ws:=by
 intro i C;obtain⟨b,o,e,A,B,c⟩:=h i C;exact⟨b,o,e,Í A D.size,B,(D.cell (p:=(b,o+i)) A).trans c⟩
theorem fh.far2{G g w a ws v H}(h:fh G w a ws)(I:g<G):fh G ((w.setCell g v).setCell (g,1) H) a ws:=by
 intro i D;obtain⟨b,o,e,B,C,c⟩:=h i D;have E:=(((Below.refl 0 w).setCell (p:=g) (Ë _) v).setCell (p:=(g,1)) (Ë _) H).size;have A:g≠b:=by omega
 exact⟨b,o,e,Í B E,C,(af (.inl A)).trans ((af (.inl A)).trans c)⟩
theorem fh.drew{G w a ws}(h:fh G w a ws):fh G w.drew a ws:=h
theorem fh.down{G A w a ws}(h:fh G w a ws)(B:A<=G):fh A w a ws:=by grind [fh]
def pB(G:Nat)(w:Ò)(a:Option Addr)(ls:List (List Int)):Prop:=
 ∀i(h:i<ſ ls),∃b o c d,a=Æ ⟨b,o,Ä⟩/\b<w.heap.size/\w.cell? ⟨b,o+i,Ä⟩=Æ (Å c ls[i].length d)/\ls[i].length<=d/\fh G w c ls[i]
theorem OD{G w a f}(h:∀g,(∀k,g=Æ k->k<G)->eW g w a f):pB G w a f:=by
 intro i J;obtain⟨b,o,K,L,e,P,_,c,Q,R,_⟩:=h Ä (λ_ q=>by cases q) i J;refine⟨b,o,K,L,e,P,c,Q,λj d=>?_⟩;obtain⟨H,U,I,O,_,M⟩:=R j d;refine⟨H,U,I,O,?_,M⟩;apply Nat.le_of_not_lt;intro E;obtain⟨W,Y,V,N,B,_,_,A,_,D,_⟩:=h (Æ H) (λk q=>by cases q;exact E) i J;rw[e]at B;simp only[Ú,Addr.mk.injEq,and_true]at B;obtain⟨rfl,rfl⟩:=B;rw[c]at A;simp only[Ú,Value.slice.injEq,true_and]at A;obtain⟨X,Z,C,_,S,_⟩:=D j d;rw[<-A.1,I]at C;simp only[Ú,Addr.mk.injEq,and_true]at C;exact S (by rw[C.1])
def yh(g:Nat)(t:Tr)(wd k b:Nat)(tx wy:Value)(w:Ò):Prop:=
 (k=0/\tx=À ⟨#[]⟩/\wy=Å Ä 0 0/\Bx w b 0 0)\/(∃u a wc,fm ((t.ways.take k).map λu=>(t.cst wd u,u))=Æ (t.cst wd u,u)/\tx=À (ei (t.show u))/\wy=Å a (ſ u) wc/\fh (g+1) w a u/\Bx w b (t.cst wd u).1 (t.cst wd u).2)
theorem Rb(t:Tr)(s:t.Wf)(c)(l:c=t.N)(p:ſ c<=400)(a b)(w:Ò)(m:aS w a c):
  ã prog 99 #[Å a (ſ c) b] w λe d=>((ſ t.ways<=300/\∃Z f,e=Ã (Ç #[Å Z (ſ t.ways) f,Ñ à])/\pB w.heap.size d Z t.ways)\/(300<ſ t.ways/\e=Ã (Ç #[Å Ä 0 0,Ñ Ù])))/\È w w d:=by
 have I:∀O:Obj,È w w (w.alloc O):=λO=>(Below.refl _ w).alloc Zl O
 have E:Hid (Cp 125 #[Å a (ſ c) b,Á Â 0,Å w.heap.size 1 1,Á Â 300] (w.alloc (Ì #[Å Ä 0 0] 73)) λe d=>∃Z f,e=Ã (Å Z (t.tl [[]]).length f)/\pB w.heap.size d Z (t.tl [[]])/\È w w d):=by
  have M:∀G,(∀k,G=Æ k->k<w.heap.size)->eW G (w.alloc (Ì #[Å Ä 0 0] 73)) w.heap.size [[]]:=by
   intro G J i X;obtain rfl:i=0:=by simp at X;omega
   exact⟨w.heap.size,0,Ä,0,rfl,by simp,λq=>by have:=J _ q.symm;omega,by simp[go_sem],by simp,λj r=>by simp at r,λ_=>⟨rfl,rfl⟩⟩
  refine(tD c a b p t s (by rw[<-l];exact p) 0 [] [[]] w.heap.size 1 0 _ (by rw[<-l];simp) (m.W (I _)) (M Ä (λ_ h=>by cases h)) (by simp) (by simp) (by simp) (by rw[<-l];omega)).mono ?_;rintro e d⟨Z,f,rfl,_,C,B⟩;exact⟨Z,f,rfl,OD λg n=>C g (λk q=>by have:=n k q;simp;omega) (M g n),(I _).trans (B.mono (by simp))⟩
 have A:=PT t;generalize V:t.tl [[]]=L at E A;clear V l m I;rcases A with⟨H,K⟩|⟨H,K⟩
 .subst K;have S:¬(300:Int)<(ſ t.ways:Int):=by omega
  have D:=aa H;go_in;go_wp2_with fail;refine E.o.mono ?_;rintro e Y⟨Q,R,rfl,C,B⟩;have P:=aa C;go_wp2;go_ret2;exact⟨.inl ⟨D.o,_,_,rfl,P.o⟩,B⟩
 .have U:(300:Int)<(ſ L:Int):=by omega
  have D:=aa H;go_in;go_wp2_with fail;refine E.o.mono ?_;rintro e Y⟨Q,R,rfl,C,B⟩;go_wp2;go_ret2;exact⟨.inr ⟨D.o,rfl⟩,B⟩
def yg(t:Tr)(wd:Nat)(w:Ò)(e:Ending)(w':Ò):Prop:=
 ((ſ t.ways<=300/\∃u a wc,t.best wd=Æ (t.cst wd u,u)/\e=Ã (Ç #[À (ei (t.show u)),Å a (ſ u) wc,Ü #[Á Â (t.cst wd u).1,Á Â (t.cst wd u).2],Ñ à])/\fh w.heap.size w' a u)\/(300<ſ t.ways/\e=Ã (Ç #[À ⟨#[]⟩,Å Ä 0 0,Ü #[Á Â 0,Á Â 0],Ñ Ù])))/\È w w w'
theorem VR{t:Tr}(L:t.Wf){I}(J:I=t.N)(K:ſ I<=400)(H:Nat){u}(M:u∈t.ways):
  qc (t.show u)=0/\(ſ u)<=400/\∀W:Ò,Cb 101 #[À (ei (t.show u)),H] W (Ü #[(t.cst H u).1,(t.cst H u).2]):=by
 unfold Cb;obtain⟨s,A⟩:=(yb t u).2 M;have D:gn I u=.ok s:=by rw[xI L J K,A]
 obtain⟨G,C⟩:=SQ D;have E:t.txt u=s:=by rw[Tr.txt,A]
 refine⟨by rw[A];rfl,C,λW=>?_⟩;have B:(ei (t.show u)).data.toList=s:=by rw[A];simp[ei]
 have:=SF (ei (t.show u)) H W (by rw[Lib.size_eq,B];omega)
 rw[B,Kh]at this;rw[Tr.cst,E];exact this
theorem Nc(t)(ht:t.Wf)(ds)(hd:ds=t.N)(hl:ſ ds<=400)(wd:Nat)(a cap w)(hN:aS w a ds):
  ã prog 69 #[Å a (ſ ds) cap,Á Â wd] w λe a=>yg t wd w e a:=by
 have HN:Hid (aS w a ds):=hN;have HO:Hid (∀(W:Ò),aS W a ds->Cp 99 #[Å a (ſ ds) cap] W _):=λW h1=>Rb t ht ds hd hl a cap W h1
 have HV:Hid (∀k(h:k<ſ t.ways),(∀(W:Ò)H L,t.ways[k].length<=L->aS W a ds->eE W H t.ways[k]->Cb 100 #[Å a (ſ ds) cap,Å H t.ways[k].length L] W (Ç #[À (ei (t.show t.ways[k])),Á Â 0]))
   /\∀W:Ò,ã prog 101 #[À (ei (t.show t.ways[k])),Á Â wd] W λe a=>e=Ã (Ü #[Á Â (t.cst wd t.ways[k]).1,Á Â (t.cst wd t.ways[k]).2])/\È W W a):=λk h=>by
  obtain⟨h1,h2,X⟩:=VR ht hd hl wd (á h);refine⟨λW H L k1 k2 k3=>?_,X⟩
  have:=Of t ht ds hd hl a H cap L t.ways[k] k1 (by omega) W k2 k3
  rw[h1]at this;exact this
 have A0:Hid (0<ſ t.ways):=by
  obtain⟨b,hb⟩:=BW t wd;exact List.length_pos_of_mem (og hb).1
 clear hN ht hd hl;go_in;have l:=Bx.new w 0 0 120;have hf:de (w.alloc (Ì #[Á Â 0,Á Â 0] 120)) w.heap.size:=⟨_,_,Ý w _⟩;go_wp2_with fail;refine(HO.o _ (HN.o.W (lp Zb _))).mono ?_;rintro e A⟨h1,b1⟩;have B1:È w w A:=ji Zb Zl b1;have Ab:=l.W b1;have M:de A w.heap.size:=hf.kept (b1.block _ (by simp));have C:w.heap.size<A.heap.size:=M.lt;clear l hf b1;rcases h1 with⟨Af,a1,c1,rfl,At⟩|⟨Af,rfl⟩
 .have m:pB (w.heap.size+1) A a1 t.ways:=by simpa using At
  have A1:Hid (pB (w.heap.size+1) A a1 t.ways):=m;have Al:Hid (Bx A w.heap.size 0 0/\de A w.heap.size):=⟨Ab,M⟩;have r:Hid (ſ t.ways<=300):=Af;clear At m Ab M;have Au:=Bx.new A 0 0 120;have Aq:de (A.alloc (Ì #[Á Â 0,Á Â 0] 120)) A.heap.size:=⟨_,_,Ý A _⟩;go_wp2
  go_loopw [10,11,13] (λa b i wr=>È w w wr/\È A A wr/\de wr A.heap.size/\∃k:Nat,k<=ſ t.ways/\i=Á Â k/\yh w.heap.size t wd k A.heap.size a b wr) (λ_ _ i _=>ſ t.ways-(é i).toNat)
  case atStart=>exact⟨lp B1 _,(Below.refl _ A).alloc Zl _,Aq,0,Ë _,rfl,.inl ⟨rfl,rfl,rfl,Au⟩⟩
  case round=>
   clear Au Aq;obtain⟨Y,B,hF,k,hk,rfl,Ap⟩:=hrel;have Q:Hid (yh w.heap.size t wd k A.heap.size _ _ wr):=Ap;clear Ap;by_cases Ah:k<ſ t.ways
   .obtain⟨hS,hC⟩:=HV.o k Ah;obtain⟨y,o0,x,L,ea,Ao,cw,Ad,Aa⟩:=A1.o k Ah;subst ea;have cr:wr.cell? ↑(y,o0+k)=Æ (Å x t.ways[k].length L):=(B.cell (p:=↑(y,o0+k)) Ao).trans cw;have HI:Hid (eE wr x t.ways[k]):=Aa.ints.W B;have q:Hid (fh (w.heap.size+1) A x t.ways[k]):=Aa;have Ae:=Kv (f:=λu=>(t.cst wd u,u)) Ah;clear cw Aa;generalize t.ways[k]=u at cr hS hC HI q Ae Ad;generalize hs:ei (t.show u)=s at hS hC;have n:Hid (fm ((t.ways.take (k+1)).map λu=>(t.cst wd u,u))=fO (fm ((t.ways.take k).map λu=>(t.cst wd u,u))) (Æ (t.cst wd u,u))):=Ae;clear Ae;generalize hK:t.cst wd u=K at hC;have D:Hid (ei (t.show u)=s/\t.cst wd u=K):=⟨hs,hK⟩;have Am:Hid (∀(W:Ò)H L,ſ u<=L->aS W a ds->eE W H u->Cb 100 #[Å a (ſ ds) cap,Å H (ſ u) L] W (Ç #[À s,Á Â 0])):=hS;have Ai:Hid (∀W:Ò,Cb 101 #[À s,Á Â wd] W (Ü #[Á Â K.1,Á Â K.2])):=hC;have hi:(k:Int)<(ſ t.ways:Int):=by omega
    have g:Hid (de wr A.heap.size):=hF;have j:y<wr.heap.size:=Í Ao B.size;clear hs hK hS hC hF;rcases Q.o with⟨E,rfl,rfl,P⟩|⟨u0,H,wc,G,rfl,rfl,S,P⟩
    .have Ay:Hid (k=0):=E;have A4:((k:Int)==0)=true:=by simp[E]
     have HX:Hid (Bx wr A.heap.size 0 0):=P;clear P Q E;go_wp2_with fail;refine ai (Am.o _ _ _ Ad (HN.o.W Y) HI.o) λw2 b2=>?_
     have H2:Hid (È wr wr w2):=b2;clear b2;go_wp2_with fail;refine ai (Ai.o _) λw3 b3=>?_
     have X:=aH H2.o Zl b3;have V:È wr wr (w3.alloc (Ì #[Á Â K.1,Á Â K.2] 120)):=lp X _;have O:de (w3.alloc (Ì #[Á Â K.1,Á Â K.2] 120)) A.heap.size:=g.o.kept (V.block _ g.o.lt);have U:A.heap.size<w3.heap.size:=Í g.o.lt X.size;have Ac:=HX.o.W V;have z:=Bx.new w3 K.1 K.2 120;have J:Hid (È wr wr (w3.alloc (Ì #[Á Â K.1,Á Â K.2] 120))):=V;clear b3 X H2;obtain⟨y0,y1⟩:=Ac;obtain⟨e0,e1⟩:=z;have f0:(w3.alloc (Ì #[Á Â K.1,Á Â K.2] 120)).frozen? ⟨A,0,Ä⟩=false:=O.frozen;have f1:(w3.alloc (Ì #[Á Â K.1,Á Â K.2] 120)).frozen? ⟨A,1,Ä⟩=false:=O.frozen;have d4:(w3.alloc (Ì #[Á Â K.1,Á Â K.2] 120)).cell? ⟨y,o0+k,Ä⟩=Æ (Å x (ſ u) L):=(V.cell (p:=⟨y,o0+k,Ä⟩) j).trans cr;have Aw:Hid (de (w3.alloc (Ì #[Á Â K.1,Á Â K.2] 120)) A.heap.size):=O;have Ar:w3.heap.size≠A.heap.size:=Þ U;clear V O cr
     go_upto_region 12 with fail
     generalize w3.alloc (Ì #[Á Â K.1,Á Â K.2] 120)=w4 at *;go_wp2
     go_roundw
     case rel=>
      refine⟨((Y.trans (J.o.mono Y.size)).setCell (p:=⟨A,0,Ä⟩) (Û C) _).setCell (p:=⟨A,1,Ä⟩) (Û C) _,((B.trans (J.o.mono B.size)).setCell (p:=⟨A,0,Ä⟩) Zl _).setCell (p:=⟨A,1,Ä⟩) Zl _,Aw.o.set.set,k+1,by omega,by go_num,.inr ⟨u,x,L,?_,by rw[D.o.1],rfl,?_,?_⟩⟩
      .rw[n.o,Ay.o];rfl
      .exact q.o.W (((B.trans (J.o.mono B.size)).setCell (p:=⟨A,0,Ä⟩) Zl _).setCell (p:=⟨A,1,Ä⟩) Zl _)
      .rw[D.o.2];exact⟨(af (.inr (by omega))).trans (cF y0),cF ((af (.inr (by omega))).trans y1)⟩
     case measure=>simp[é];omega
    .have E:k≠0:=by rintro rfl;simp[fm]at G
     have A4:((k:Int)==0)=false:=by simp[E]
     have Aj:Hid (fm ((t.ways.take k).map λu=>(t.cst wd u,u))=Æ (t.cst wd u0,u0)):=G;have o:Hid (fh (w.heap.size+1) wr H u0):=S;generalize As:ei (t.show u0)=s0;generalize An:t.cst wd u0=K0 at P;have I:Hid (ei (t.show u0)=s0/\t.cst wd u0=K0):=⟨As,An⟩;have HX:Hid (Bx wr A.heap.size K0.1 K0.2):=P;clear P Q G S As An E;cases Ag:decide (dG K K0)
     all_goals
      have Ak:=(show Hid (decide (dG K K0)=_)from Ag)
      have Az:Hid (∀W,Cb 102 #[Ü #[↑(K.1:Int),↑(K.2:Int)],Ü #[↑(K0.1:Int),↑(K0.2:Int)]] W (Ñ _)):=λW=>by
       have:=SJ K K0 W
       rw[Ag]at this;exact this
      clear Ag;go_wp2_with fail;refine ai (Am.o _ _ _ Ad (HN.o.W Y) HI.o) λw2 b2=>?_
      have H2:Hid (È wr wr w2):=b2;clear b2;go_wp2_with fail;refine ai (Ai.o _) λw3 b3=>?_
      have X:=aH H2.o Zl b3;have V:È wr wr (w3.alloc (Ì #[Á Â K.1,Á Â K.2] 120)):=lp X _;have O:de (w3.alloc (Ì #[Á Â K.1,Á Â K.2] 120)) A.heap.size:=g.o.kept (V.block _ g.o.lt);have U:A.heap.size<w3.heap.size:=Í g.o.lt X.size;have Ac:=HX.o.W V;have z:=Bx.new w3 K.1 K.2 120;have J:Hid (È wr wr (w3.alloc (Ì #[Á Â K.1,Á Â K.2] 120))):=V;clear b3 X H2;obtain⟨x0,x1⟩:=Ac;obtain⟨e0,e1⟩:=z;go_wp2_with fail;refine ai (Az.o _) λw5 b5=>?_
      have h5:=aH J.o Zl b5;have A3:=HX.o.W h5;have A2:=(Bx.new w3 K.1 K.2 120).W b5;have Z:de w5 A.heap.size:=g.o.kept (h5.block _ g.o.lt);have d5:w5.cell? ↑(y,o0+k)=Æ (Å x (ſ u) L):=(h5.cell (p:=↑(y,o0+k)) j).trans cr;obtain⟨y0,y1⟩:=A3;obtain⟨g0,g1⟩:=A2;have f0:w5.frozen? ↑A.heap.size=false:=Z.frozen;have f1:w5.frozen? ↑(A.heap.size,1)=false:=Z.frozen;have Ar:w3.heap.size≠A.heap.size:=Þ U;have d:Hid (È wr wr w5/\de w5 A.heap.size):=⟨h5,Z⟩;clear V O cr x0 x1 e0 e1 b5 h5 Z J;go_wp2
      go_roundw
     .case rel=>
       refine⟨Y.trans (d.o.1.mono Y.size),B.trans (d.o.1.mono B.size),d.o.2,k+1,by omega,by go_num,.inr ⟨u0,H,wc,?_,by rw[I.o.1],rfl,o.o.W d.o.1,by rw[I.o.2];exact⟨y0,y1⟩⟩⟩;rw[n.o,Aj.o];show Æ (gj _ _)=_;rw[gj,if_neg (by rw[D.o.2,I.o.2];exact of_decide_eq_false Ak.o)]
     .case measure=>simp[é];omega
     .case rel=>
       refine⟨((Y.trans (d.o.1.mono Y.size)).setCell (p:=↑A.heap.size) (Û C) _).setCell (p:=↑(A.heap.size,1)) (Û C) _,((B.trans (d.o.1.mono B.size)).setCell (p:=↑A.heap.size) Zl _).setCell (p:=↑(A.heap.size,1)) Zl _,d.o.2.set.set,k+1,by omega,by go_num,.inr ⟨u,x,L,?_,by rw[D.o.1],rfl,?_,?_⟩⟩
       .rw[n.o,Aj.o];show Æ (gj _ _)=_;rw[gj,if_pos (by rw[D.o.2,I.o.2];exact of_decide_eq_true Ak.o)]
       .exact q.o.W (((B.trans (d.o.1.mono B.size)).setCell (p:=↑A.heap.size) Zl _).setCell (p:=↑(A.heap.size,1)) Zl _)
       .rw[D.o.2];exact⟨(af (.inr (by omega))).trans (cF y0),cF ((af (.inr (by omega))).trans y1)⟩
     .case measure=>simp[é];omega
   .have A5:k=ſ t.ways:=by omega
    subst A5;have A8:Hid (È A A wr):=B;have l:=Al.o.1.W B;have R:de wr w.heap.size:=Al.o.2.kept (B.block _ C);have r0:wr.drew.cell? ↑w.heap.size=Æ (Á Â 0):=l.1;have r1:wr.drew.cell? ↑(w.heap.size,1)=Æ (Á Â 0):=l.2;have f0:wr.drew.frozen? ↑w.heap.size=false:=R.frozen;have f1:wr.drew.frozen? ↑(w.heap.size,1)=false:=R.frozen;have A6:wr.cell? ↑w.heap.size=Æ (Á Â 0):=l.1;have A7:wr.cell? ↑(w.heap.size,1)=Æ (Á Â 0):=l.2;have A9:wr.frozen? ↑w.heap.size=false:=R.frozen;have Ba:wr.frozen? ⟨w,1,Ä⟩=false:=R.frozen;have c:w.heap.size≠A.heap.size:=Nat.ne_of_lt C;clear R B hF l;rcases Q.o with⟨E,_⟩|⟨u0,H,wc,G,rfl,rfl,S,P⟩
    .exact absurd E (Þ A0.o)
    .have HU:Hid (t.best wd=Æ (t.cst wd u0,u0)):=by rw[List.take_length]at G;exact G
     have o:Hid (fh (w.heap.size+1) wr H u0):=S;clear G S Q;generalize hs:ei (t.show u0)=s;generalize hK:t.cst wd u0=K at P;have D:Hid (ei (t.show u0)=s/\t.cst wd u0=K):=⟨hs,hK⟩;have x0:wr.drew.cell? ⟨A,0,Ä⟩=Æ (Á Â K.1):=P.1;have x1:wr.drew.cell? ⟨A,1,Ä⟩=Æ (Á Â K.2):=P.2;have p0:((wr.setCell ⟨w,0,Ä⟩ (Á Â K.1)).setCell ⟨w,1,Ä⟩ (Á Â K.2)).drew.cell? ⟨A,0,Ä⟩=Æ (Á Â K.1):=(af (.inl c)).trans ((af (.inl c)).trans P.1);have p1:((wr.setCell ⟨w,0,Ä⟩ (Á Â K.1)).setCell ⟨w,1,Ä⟩ (Á Â K.2)).drew.cell? ⟨A,1,Ä⟩=Æ (Á Â K.2):=(af (.inl c)).trans ((af (.inl c)).trans P.2);have Av:Hid (È w w ((wr.setCell ⟨w,0,Ä⟩ (Á Â K.1)).setCell ⟨w,1,Ä⟩ (Á Â K.2)).drew):=((Y.setCell (p:=⟨w,0,Ä⟩) Zl _).setCell (p:=⟨w,1,Ä⟩) Zl _).drew;have Ax:Hid (fh w.heap.size ((wr.setCell ⟨w,0,Ä⟩ (Á Â K.1)).setCell ⟨w,1,Ä⟩ (Á Â K.2)).drew H u0):=((o.o.far2 (Nat.lt_succ_self _)).drew).down (Nat.le_succ _);clear hs hK P;go_wp2_with fail
     go_region_held3 (λa=>a.cell? ⟨A,0,Ä⟩=Æ (Á Â K.1)/\a.cell? ⟨A,1,Ä⟩=Æ (Á Â K.2))
      (first|with_reducible exact⟨x0,x1⟩|with_reducible exact⟨p0,p1⟩) (fail)
     all_goals
      go_wp2;refine bodyPost_ret (v:=Ç #[À s,Å H (ſ u0) wc,Ü #[Á Â K.1,Á Â K.2],Ñ à]) (by simp[è,Tryz.results69,go_sem,A6,A7]) rfl ?_;refine⟨.inl ⟨r.o,u0,H,wc,HU.o,by rw[D.o.1,D.o.2],?_⟩,Av.o⟩;exact Ax.o
 .have r:Hid (300<ſ t.ways):=Af;obtain⟨r0,r1⟩:=Ab;have f0:A.frozen? w.heap.size=false:=M.frozen;have f1:A.frozen? (w.heap.size,1)=false:=M.frozen;clear M;go_wp2;exact bodyPost_ret (v:=Ç #[À ⟨#[]⟩,Å Ä 0 0,Ü #[Á Â 0,Á Â 0],Ñ Ù]) (by simp[è,Tryz.results69,go_sem,r0,r1]) rfl ⟨.inr ⟨r.o,rfl⟩,(B1.setCell (p:=w.heap.size) Zl _).setCell (p:=(w.heap.size,1)) Zl _⟩
theorem Pu(Q:md){σ:Ss}(B M d)(hM:B<=M)(w)(hS:bG w M d σ)(S:σ.tx.length<=999999)(g:iu B w):
  ã prog 26 #[É (Æ ⟨M,0,Ä⟩),À ⟨#[108,111,111,107]⟩] w λe a=>eD M d σ .look 0 w e a:=by
 have X:Hid (Cw 41 #[À ⟨#[108,111,111,107]⟩,À ⟨#[43]⟩] w (Ç #[À ⟨#[108,111,111,107]⟩,Ñ Ù])):=od _ (by decide) w;have Y:Hid (Cw 41 #[À ⟨#[108,111,111,107]⟩,À ⟨#[119,105,100,101,32]⟩] w (Ç #[À ⟨#[108,111,111,107]⟩,Ñ Ù])):=pQ _ (by decide) w;have l:Hid (∀W,È w w W->fo W):=λW hx=>g W (hx.mono (by have:=hS.lt;omega))
 have HS:Hid (bG w M d σ):=hS;have c0:=hS.cell0;have r:=hS.cell1;have d0:w.drew.cell? ⟨M,0,Ä⟩=Æ (É (Æ ⟨d,0,Ä⟩)):=c0;have d1:w.drew.cell? ⟨M,1,Ä⟩=Æ (À (ab σ.tx)):=r;have J:Hid (È w w w.drew):= Zb.drew;obtain⟨_,_,_,q⟩:=hS.sh;have y:=q.w1;have z:=q.w2;have O:¬((σ.wd:Int)<10\/100<(σ.wd:Int)):=by omega
 have U:Hid (∀W,bG W M d σ->Cw 49 #[É (Æ ⟨d,0,Ä⟩)] W (Á Â (σ.wd:Int))):=λW hs=>Np W hs.sh
 have L:Hid (bG w.drew M d σ):=hS.W Zb.drew;clear hS g hM q y z;by_cases t:EK σ.tx
 .obtain⟨I,c,hz⟩:=t;have b:=wJ σ.tx (aJ σ.wd I) 0;have u:=wK σ.tx (aJ σ.wd I) 0;have HL:Hid (ck σ .look (fd (cL σ.tx (aJ σ.wd I) 0)) σ):=.look c hz
  have H:Hid (∀W,È w w W->Cp 48 #[À (ab σ.tx),Á Â (σ.wd:Int)] W λe a=>e=Ã (Ç #[Á Â (cL σ.tx (aJ σ.wd I) 0),Á Â 0,Õ])/\È w w a):=λW hb=>by
   refine(Q _ _ W (l.o W hb).tabs).mono ?_;rintro e w'⟨T,k,f,rfl,s,N⟩;refine⟨?_,aH hb Zl N⟩;cases s with
   | range h=>exact absurd h O
   | bad _ h1 h2=>exact absurd (eP h1 c).2.2 h2
   | full _ h1 h2=>
    obtain⟨rfl,_⟩:=eP h1 c;exact absurd hz h2
   | ok _ h1 _=>
    obtain⟨rfl,_⟩:=eP h1 c;rw[if_pos rfl,Ø];rfl
  have p:Hid (∀W,È w w W->Cp 45 #[Á Â (cL σ.tx (aJ σ.wd I) 0),Á Â 0,Õ] W λe a=>e=Ã (À (ab (fd (cL σ.tx (aJ σ.wd I) 0))))/\È w w a):=λW hb=>(DP _ _ b (by omega) W (l.o W hb)).mono λe w' q=>⟨q.1,aH hb Zl q.2⟩
  have Z:Hid ((fd (cL σ.tx (aJ σ.wd I) 0)).length<=100000000):=by
   show _<=_;unfold fd
   split
   .decide
   .have:=gX 8 (cL σ.tx (aJ σ.wd I) 0).toNat (by omega)
    rw[Ð,Ó];omega
  clear c hz b u S O;generalize fd (cL σ.tx (aJ σ.wd I) 0)=A at HL p Z;generalize cL σ.tx (aJ σ.wd I) 0=x at H p;generalize ab σ.tx=T at r d1 H
  generalize(σ.wd:Int)=wv at U H
  go_in;go_wp2_with fail;refine an X.o ?_;go_wp2_with fail;refine an Y.o ?_;go_wp2_with fail
  go_region_with (first
   | (go_at_call 49;refine(U.o _ ?_).mono ?_;exact L.o;rintro e C⟨rfl,rfl⟩)
   | (go_at_call 48;refine(H.o _ ?_).mono ?_;exact J.o;rintro e C⟨rfl,G⟩;have o:Hid (È w w C):=G;clear G)
   | (go_at_call 45;refine(p.o _ ?_).mono ?_;exact o.o;rintro e j⟨rfl,m⟩;have V:Hid (È w w j):=m;clear m))
  all_goals
   go_wp2;go_ret;exact eD.ok HL.o (HS.o.W V.o) Z.o Zl (Ex.of V.o)
 .have H:Hid (∀W,È w w W->Cp 48 #[À (ab σ.tx),Á Â (σ.wd:Int)] W λe a=>∃(k:Nat)(f:Int),e=Ã (Ç #[Á Â 0,Á Â (k:Int),aF f])/\(eN f/\k<=999999/\ck σ .look (bQ k f) σ)/\È w w a):=λW hb=>by
   refine(Q _ _ W (l.o W hb).tabs).mono ?_;rintro e w'⟨T,k,f,rfl,s,N⟩;cases s with
   | range h=>exact absurd h O
   | bad _ h1 h2=>
    obtain⟨R,n,rfl,h4⟩:=Hx S h1 h2;exact⟨n,f,by rw[if_neg h2],⟨R,h4,.lookE h1 h2⟩,aH hb Zl N⟩
   | full _ h1 h2=>exact⟨0,_,by rw[if_neg h2];rfl,⟨H4 h2,by decide,.lookF h1 h2⟩,aH hb Zl N⟩
   | ok _ h1 h2=>exact absurd ⟨_,h1,h2⟩ t
  clear t S O;generalize ab σ.tx=T at r d1 H
  generalize(σ.wd:Int)=wv at U H
  have E:Hid (∀C(k:Nat)(f:Int),(eN f/\k<=999999/\ck σ .look (bQ k f) σ)->È w w C->Cp 45 #[Á Â 0,Á Â (k:Int),aF f] C λe a=>e=ç [kU (bQ k f)]/\eD M d σ .look 0 w (ç [kU (bQ k f)]) a):=λC k f D hb=>by
   refine ai (DO D.1 0 k D.2.1 C (l.o C hb)) λj m=>?_
   have a:=aH hb Zl m;exact⟨rfl,eD.bad D.2.2 (HS.o.W a) (FM D.2.1 f) Zl (Ex.of a)⟩
  go_in;go_wp2_with fail;refine an X.o ?_;go_wp2_with fail;refine an Y.o ?_;go_wp2_with fail
  go_region_dies
  .refine(U.o _ ?_).mono ?_
   .exact L.o
   rintro e w1⟨rfl,rfl⟩;rename_i K hK;refine hK _ _ ?_;clear hK K;refine Ï (rs:=[9]) (by kernel_rfl) (by simp) ?_;refine AllReady.cons rfl (λK hK=>?_) AllReady.nil
   go_simp
   refine(H.o _ ?_).mono ?_
   .exact J.o
   rintro e C⟨k,f,rfl,D,G⟩;have P:=E.o C k f D G;clear D G;generalize aF f=EV at P;refine hK _ _ ?_;clear hK K;refine Ê (i:=10) (v:=Á Â 0) rfl (by kernel_rfl) (by kernel_rfl) (by kernel_rfl) (λ_ _ _ h=>h) (Ö ⟨by rfl,(by intro W;go_simp)⟩) ?_;refine Ê (i:=11) (v:=Á Â (k:Int)) rfl (by kernel_rfl) (by kernel_rfl) (by kernel_rfl) (λ_ _ _ h=>h) (Ö ⟨by rfl,(by intro W;go_simp)⟩) ?_;refine Ê (i:=12) (v:=EV) rfl (by kernel_rfl) (by kernel_rfl) (by kernel_rfl) (λ_ _ _ h=>h) (Ö ⟨by rfl,(by intro W;go_simp)⟩) ?_;refine Ï (rs:=[13]) (by kernel_rfl) (by simp) ?_;refine AllReady.cons rfl (λK hK=>?_) AllReady.nil
   go_simp
   refine ai P λj R=>?_
   exact⟨rfl,R⟩
  .refine(U.o _ ?_).mono ?_
   .exact L.o
   rintro e w1⟨rfl,rfl⟩;rename_i K hK;refine hK _ _ ?_;clear hK K;refine Ï (rs:=[9]) (by kernel_rfl) (by simp) ?_;refine AllReady.cons rfl (λK hK=>?_) AllReady.nil
   go_simp
   refine(H.o _ ?_).mono ?_
   .exact J.o
   rintro e C⟨k,f,rfl,D,G⟩;have P:=E.o C k f D G;clear D G;generalize aF f=EV at P;refine hK _ _ ?_;clear hK K;refine Ê (i:=10) (v:=Á Â 0) rfl (by kernel_rfl) (by kernel_rfl) (by kernel_rfl) (λ_ _ _ h=>h) (Ö ⟨by rfl,(by intro W;go_simp)⟩) ?_;refine Ê (i:=11) (v:=Á Â (k:Int)) rfl (by kernel_rfl) (by kernel_rfl) (by kernel_rfl) (λ_ _ _ h=>h) (Ö ⟨by rfl,(by intro W;go_simp)⟩) ?_;refine Ê (i:=12) (v:=EV) rfl (by kernel_rfl) (by kernel_rfl) (by kernel_rfl) (λ_ _ _ h=>h) (Ö ⟨by rfl,(by intro W;go_simp)⟩) ?_;refine Ï (rs:=[13]) (by kernel_rfl) (by simp) ?_;refine AllReady.cons rfl (λK hK=>?_) AllReady.nil
   go_simp
   refine ai P λj R=>?_
   exact⟨rfl,R⟩
  .refine(U.o _ ?_).mono ?_
   .exact L.o
   rintro e w1⟨rfl,rfl⟩;rename_i K hK;refine hK _ _ ?_;clear hK K;refine Ï (rs:=[3]) (by kernel_rfl) (by simp) ?_;refine AllReady.cons rfl (λK hK=>?_) AllReady.nil
   go_simp
   refine hK _ _ ?_;clear hK K;refine Ï (rs:=[9]) (by kernel_rfl) (by simp) ?_;refine AllReady.cons rfl (λK hK=>?_) AllReady.nil
   go_simp
   refine(H.o _ ?_).mono ?_
   .exact J.o
   rintro e C⟨k,f,rfl,D,G⟩;have P:=E.o C k f D G;clear D G;generalize aF f=EV at P;refine hK _ _ ?_;clear hK K;refine Ê (i:=10) (v:=Á Â 0) rfl (by kernel_rfl) (by kernel_rfl) (by kernel_rfl) (λ_ _ _ h=>h) (Ö ⟨by rfl,(by intro W;go_simp)⟩) ?_;refine Ê (i:=11) (v:=Á Â (k:Int)) rfl (by kernel_rfl) (by kernel_rfl) (by kernel_rfl) (λ_ _ _ h=>h) (Ö ⟨by rfl,(by intro W;go_simp)⟩) ?_;refine Ê (i:=12) (v:=EV) rfl (by kernel_rfl) (by kernel_rfl) (by kernel_rfl) (λ_ _ _ h=>h) (Ö ⟨by rfl,(by intro W;go_simp)⟩) ?_;refine Ï (rs:=[13]) (by kernel_rfl) (by simp) ?_;refine AllReady.cons rfl (λK hK=>?_) AllReady.nil
   go_simp
   refine ai P λj R=>?_
   exact⟨rfl,R⟩
theorem MX(L:md){σ:Ss}(l)(Z:l.size<=3000)(B M d)(X:B<=M)(Y:B<=d)(w)(W:bG w M d σ)(N:σ.tx.length<=999999)(G:iu B w):
  ã prog 26 #[É M,À l] w λe V=>eD M d σ (cG (ae l)) l.size w e V:=by
 have I:∀{k K O V}{e:Ending},K<=O->eD M d σ k K w e V->eD M d σ k O w e V:=by
  intro k K O V e U h;cases h with
  | ok A H D J E=>exact .ok A H D (by omega) E
  | bad A H D J E=>exact .bad A H D (by omega) E
 have C:∀u:List UInt8,ae l=u->l=ab u:=λu h=>by rw[<-h];rfl
 by_cases A:(ae l).head?=Æ 43
 .have S:0<l.size:=by
   rcases Nat.eq_zero_or_pos l.size with P|P
   .have:ae l=[]:=Ô (by rw[aw];exact P)
    rw[this]at A;cases A
   .exact P
  refine Nz l Z S ?_ M d w W (by omega);rw[List.head?_eq_getElem?,List.getElem?_eq_getElem (by rw[aw];exact S)]at A;exact å A
 .by_cases H:(ae l).take 5=ip
  .exact(Pw l Z H B M d X Y w W G).mono λe V h=>I (Ë _) h
  .by_cases D:ae l=lj
   .rw[D,rV,C _ D];exact(NB B M d X Y w W N G).mono λe V h=>I (Ë _) h
   .by_cases J:ae l=nV
    .rw[J,zM,C _ J];exact(Pv M d w W).mono λe V h=>I (Ë _) h
    .by_cases E:ae l=lu
     .rw[E,tM,C _ E];exact(Pu L B M d X w W N G).mono λe V h=>I (Ë _) h
     .by_cases Q:ae l=nR
      .rw[Q,zL,C _ Q];exact(Pt M d w W).mono λe V h=>I (Ë _) h
      .have R:cG (ae l)=.bad:=by rw[cG,if_neg A,if_neg H,if_neg D,if_neg J,if_neg E,if_neg Q]
       rw[R];exact(NA l R M d w W).mono λe V h=>I (Ë _) h
theorem Ph(a)(w:Ò):CallsD prog 25 #[É (Æ a)] .returning w λe D E=>e=Ã (Ç #[])/\D=.returning/\È w w E:=by
 have A:∀W:Ò,(Instr.typeAssert Õ 20 66 à).run prog W=.ok (Ç #[Ü #[À ⟨#[]⟩],Ñ Ù]) W:=λW=>by kernel_rfl
 refine æ func25 rfl λB G C=>?_
 apply wpS_seq;apply wpS_region;simp[wpOpsS,go_sem,recoverD,C,ntmps25,Exit.thenS];refine wpS_of_wp ?_;change Code.wp _ _ _ {tmps:=#[É (Æ a),Õ,Î,Î,Õ,Î,Î,Î,Î,Î,Î,Î,Î,Î,Î,Î],defers:=[]} _;go_wp2;refine⟨rfl,.returning,?_,_,results_none rfl _ _ _,rfl,rfl,aC w _⟩;cases B;simp_all
theorem Pi(E A w K)(H:w.cell? ⟨E,0,Ä⟩=Æ K)(N:w.frozen? ⟨E,0,Ä⟩=Ù)(la:E<w.heap.size):
  CallsD prog 25 #[É (Æ ⟨E,0,Ä⟩)] (.panicking [{v:=â 66 (Ü #[À A]),recovered:=Ù}]) w λe J G=>e=Ã (Ç #[])/\J=.panicking [{v:=â 66 (Ü #[À A]),recovered:=à}]/\G.cell? ⟨E,0,Ä⟩=Æ (À A)/\Ex (λk=>k=E) w G:=by
 have C:∀W:Ò,(Instr.typeAssert (â 66 (Ü #[À A])) 20 66 à).run prog W=.ok (Ç #[Ü #[À A],Ñ à]) W:=λW=>by kernel_rfl
 refine æ func25 rfl λM L I=>?_
 apply wpS_seq;apply wpS_region;simp[wpOpsS,go_sem,recoverD,I,ntmps25,Exit.thenS];refine wpS_of_wp ?_;change Code.wp _ _ _ {tmps:=#[É (Æ ⟨E,0,Ä⟩),â 66 (Ü #[À A]),Î,Î,â 66 (Ü #[À A]),Î,Î,Î,Î,Î,Î,Î,Î,Î,Î,Î],defers:=[]} _;go_wp2;have D:Ex (λk=>k=E) w (w.setCell ⟨E,0,Ä⟩ (À A)):=Ex.at (S:=λk=>k=E) (p:=⟨E,0,Ä⟩) (show E=E from rfl) _;have B:=aC (w.setCell ⟨E,0,Ä⟩ (À A)) (Ì #[À A] 66);refine⟨rfl,_,rfl,_,results_none rfl _ _ _,rfl,rfl,((a9 B).1 _ _ (by rw[World.size_setCell];exact la)).trans (cF H),D.trans (Ex.of B)⟩
theorem MW(D:md){σ:Ss}(l)(hl:l.size<=3000)(B M d)(hM:B<=M)(hd:B<=d)(w)(hS:bG w M d σ)(V:σ.tx.length<=999999)(P:iu B w):
  ã prog 11 #[É (Æ ⟨M,0,Ä⟩),À l] w λe y=>∃ans τ,e=Ã (À (ab ans))/\ck σ (cG (ae l)) ans τ/\bG y M d τ/\(ſ ans)<=100000000/\τ.tx.length<=σ.tx.length+l.size/\Ex (ek M d) w y:=by
 have t:∀(fn:Fn)(x cap:Array Value)(w:Ò),(Instr.makeFunc fn x cap).run prog w=.ok (.func fn x cap) w:=λ_ _ _ _=>rfl
 have H:=aC w (Ì #[À ⟨#[]⟩] 9);have m:Hid (Cp 26 #[É (Æ ⟨M,0,Ä⟩),À l] (w.alloc (Ì #[À ⟨#[]⟩] 9)) λe y=>eD M d σ (cG (ae l)) l.size (w.alloc (Ì #[À ⟨#[]⟩] 9)) e y):=MX D l hl B M d hM hd _ (hS.W H) V (P.to (H.mono (by have:=hS.lt;omega)));have q:=hS.lt;have r:=hS.sh.lt;clear hS P D H;go_enter_defers func11,ntmps11;go_wp2_with fail;refine m.o.mono ?_;intro e A g;have E:=Ý w (Ì #[À ⟨#[]⟩] 9)
 have J:Ex (ek M d) w A/\Ex (ek M d) (w.alloc (Ì #[À ⟨#[]⟩] 9)) A:=by
  cases g with
  | ok _ _ _ _ h5=>exact⟨(Ex.of (aC w _)).trans h5,h5⟩
  | bad _ _ _ _ h5=>exact⟨(Ex.of (aC w _)).trans h5,h5⟩
 have I:A.heap[w.heap.size]?=Æ (Ì #[À ⟨#[]⟩] 9 (0,0)):=(J.2.block _ (by simp) (by rintro(e|e)<;>omega)).trans E;have j:=gI I;have n:A.frozen? ⟨w,0,Ä⟩=false:=Lib.frozen_of_heap I 0;have a:Hid (Ex (ek M d) w A):=J.1
 have Z:Hid (∀k,k=w.heap.size->km A k):=by
  rintro k rfl;refine⟨λo z s c1 _=>?_,λcs f _ o s c1=>?_,λes c e=>?_⟩
  .rw[Lib.cell_of_heap I]at c1;rcases o with _|o<;>simp at c1
  .rw[Lib.cell_of_heap I]at c1;rcases o with _|o<;>simp at c1
   rw[<-c1];rfl
  .rw[I]at e;cases e
 have O:w.heap.size<A.heap.size:=(Array.getElem?_eq_some_iff.1 I).1;clear J E I;cases g with
 | @ok ans τ _ h1 h2 h3 h4 _=>
  have G:Hid (ck σ (cG (ae l)) ans τ/\(ſ ans)<=100000000/\τ.tx.length<=σ.tx.length+l.size):=⟨h1,h3,h4⟩;have C:Ex (λk=>k=w.heap.size) A (A.setCell ⟨w,0,Ä⟩ (À (ab ans))):=Ex.at (S:=λk=>k=w.heap.size) (p:=⟨w,0,Ä⟩) (show w.heap.size=w.heap.size from rfl) _;have L:Hid (bG (A.setCell ⟨w,0,Ä⟩ (À (ab ans))) M d τ):=h2.ex C Z.o (by omega) (by omega);have N:Hid (Ex (ek M d) w (A.setCell ⟨w,0,Ä⟩ (À (ab ans)))):=a.o.fresh C (by rintro i rfl;exact ê _);have K:Hid ((A.setCell ⟨w,0,Ä⟩ (À (ab ans))).cell? ⟨w,0,Ä⟩=Æ (À (ab ans))):=cF j;have b:Hid (w.heap.size<(A.setCell ⟨w,0,Ä⟩ (À (ab ans))).heap.size):=(show _<_ by rw[World.size_setCell];exact O);clear h1 h2 h3 h4 C;go_wp2;generalize u:A.setCell ⟨w,0,Ä⟩ (À (ab ans))=W at L N K b⊢;refine leaves_cons (f:=25) (args:=#[É (Æ ⟨w,0,Ä⟩)]) (by simp) (by simp[go_sem]) ?_;refine(Ph ⟨w,0,Ä⟩ W).mono ?_;rintro e Y y⟨rfl,rfl,U⟩;have X:y.cell? ⟨w,0,Ä⟩=Æ (À (ab ans)):=((a9 U).1 _ _ b.o).trans K.o;simp[Leaves,settle,è,Tryz.results11,go_sem,X];exact⟨ans,rfl,τ,G.o.1,L.o.W U,G.o.2.1,G.o.2.2,N.o.trans (Ex.of U)⟩
 | @bad ans τ _ h1 h2 h3 h4 _=>
  have G:Hid (ck σ (cG (ae l)) ans τ/\(ſ ans)<=100000000/\τ.tx.length<=σ.tx.length+l.size):=⟨h1,h3,h4⟩;have R:Hid (bG A M d τ):=h2;have Q:Hid (CallsD prog 25 #[É (Æ ⟨w,0,Ä⟩)] (.panicking [{v:=â 66 (Ü #[À (ab ans)]),recovered:=Ù}]) A λe Y y=>e=Ã (Ç #[])/\Y=.panicking [{v:=â 66 (Ü #[À (ab ans)]),recovered:=à}]/\y.cell? ⟨w,0,Ä⟩=Æ (À (ab ans))/\Ex (λk=>k=w.heap.size) A y):=Pi w.heap.size (ab ans) A _ j n O;clear h1 h2 h3 h4;go_wp2;refine leaves_cons (f:=25) (args:=#[É (Æ ⟨w,0,Ä⟩)]) (by simp) (by simp[go_sem]) ?_;refine Q.o.mono ?_;rintro e Y y⟨rfl,rfl,X,h⟩;simp[Leaves,settle,è,Tryz.results11,go_sem,X];exact⟨ans,rfl,τ,G.o.1,R.o.ex h Z.o (by omega) (by omega),G.o.2.1,G.o.2.2,a.o.fresh h (by rintro i rfl;exact ê _)⟩
theorem SD(D:Int)(w):Cw 14 #[D] w (Ñ (decide (¬(D<10\/100<D)))):=by
 unfold Cw;by_cases B:D<10
 .rw[show decide (¬(D<10\/100<D))=Ù by simp;omega];have A:¬10<=D:=by omega
  go_in;go_wp2;go_ret;exact⟨rfl,rfl⟩
 .have A:10<=D:=by omega
  by_cases C:D<=100
  .rw[show decide (¬(D<10\/100<D))=à by simp;omega];go_in;go_wp2;go_ret;exact⟨rfl,rfl⟩
  .rw[show decide (¬(D<10\/100<D))=Ù by simp;omega];go_in;go_wp2;go_ret;exact⟨rfl,rfl⟩
def pb(t:List Td):Prop:=aR t=9\/(aN t).ways.length<=300
inductive jX (t:List Td) (wd:Nat):Ending->Prop where
 | ok (h:bS t=0) (hf:pb t):jX t wd (Ã (Ç #[À (ab (ce wd t)),Á Â 0,Ñ à]))
 | full (h:bS t≠0):jX t wd (Ã (Ç #[À ⟨#[]⟩,Á Â (bS t),Ñ à]))
 | many (s:ByteArray) (hm:¬pb t):jX t wd (Ã (Ç #[À s,Á Â 0,Ñ Ù]))
theorem Lj(A l):ab A++(⟨#[35,32]⟩:ByteArray)++l++(⟨#[10]⟩:ByteArray)=ab (A++eH l):=by
 have B:ab A++ab [35,32]=ab (A++[35,32]):=bn _ _;have C:ab (A++[35,32])++ab (ae l)=ab (A++[35,32]++ae l):=bn _ _;have D:ab (A++[35,32]++ae l)++ab [10]=ab (A++[35,32]++ae l++[10]):=bn _ _;have E:A++eH l=A++[35,32]++ae l++[10]:=by simp[eH]
 rw[E,<-D,<-C,<-B,kW];rfl
theorem Ur{ls:List ByteArray}{i}(h:i<ſ ls):(ls.take (i+1)).flatMap eH=(ls.take i).flatMap eH++eH ls[i]:=by
 rw[List.take_succ_eq_append_getElem h,List.flatMap_append];simp
theorem NR{t}(h:ag t=0)(h9:aR t=9)(wd:Nat)(Af:10<=wd)(Ag:wd<=100)(a cap)(w:Ò)(hN:aG w a t):
  Cb 50 #[Å a (ſ t) cap,↑(wd:Int)] w (Ç #[À (ab (ce wd t)),Á Â 0,Ñ à]):=by
 unfold Cb;obtain⟨Aa,b,o,rfl,hb,c1,c2⟩:=qS h hN;have Ad:(0:Int)<(ſ t:Int):=by omega
 have O:=uq h h9;have j:=vd O;rw[xX h h9];rw[h9]at c1;have Ae:(bg t).size<=2000:=by rw[<-aw];exact(ve O).2.1
 have G:=aa (so (bg t) w (by omega));have D:Hid (fI wd (bg t)=if ar (ae (bg t))=[]then [35,10]else(cz (wd-2) ((ar (ae (bg t))).map ab)).flatMap eH):=rfl;generalize fI wd (bg t)=L at D⊢
 have C:Hid (∀(A:Option Addr)(c:Nat)(W:Ò),cP w (Å A (ar (ae (bg t))).length c) ((ar (ae (bg t))).map ab) W->Cp 67 #[Å A (ar (ae (bg t))).length c,↑((wd:Int)-2)] W λe a=>(∃L c,e=Ã (Å L (cz (wd-2) ((ar (ae (bg t))).map ab)).length c)/\bN a L (cz (wd-2) ((ar (ae (bg t))).map ab)))/\È W W a):=λA c W hS=>by
  obtain⟨q1,q2,_⟩:=yc hS;have e:((wd:Int)-2)=((wd-2:Nat):Int):=by omega
  rw[e];have h3:=Nv ((ar (ae (bg t))).map ab) A c (wd-2) W (by omega) j (by omega) (jR hS);rw[List.length_map]at h3;refine h3.mono ?_;rintro e w'⟨⟨L,c,rfl,hL⟩,hb⟩;exact⟨⟨L,c,rfl,jR hL⟩,hb⟩
 have Q:ar (ae (bg t))=[]->(cz (wd-2) ((ar (ae (bg t))).map ab))=[]:=λe=>by rw[e];exact lG _
 have R:ar (ae (bg t))≠[]->(cz (wd-2) ((ar (ae (bg t))).map ab))≠[]:=λe=>by
  rw[mz _ (by simpa using e)];simp
 have P:=uQ (wd-2) _ _ Zl j;have N:=pY (wd-2) _ ((ar (ae (bg t))).map ab) Zl;have p:=j.1;generalize cz (wd-2) ((ar (ae (bg t))).map ab)=ls at D C Q R P N;have u:ſ ls<=60:=by omega
 have I:Hid (ls=[]->L=[35,10]):=λe=>by
  have:ar (ae (bg t))=[]:=by
   rcases Classical.em (ar (ae (bg t))=[])with h|h
   .exact h
   .exact absurd e (R h)
  rw[D.o,if_pos this]
 have J:Hid (ls≠[]->L=ls.flatMap eH):=λe=>by
  have:ar (ae (bg t))≠[]:=λh=>e (Q h)
  rw[D.o,if_neg this]
 generalize(ar (ae (bg t))).length=nw at G C
 generalize(ar (ae (bg t))).map ab=ws at G C p j N
 generalize bg t=tx at *;have g:=aa P;clear h h9 hN O j Q R P N D;go_in;go_wp2_with fail;refine G.o.mono ?_;rintro e w1⟨⟨A1,k1,rfl,k⟩,z⟩;have Z:=aa (C.o A1 k1 w1 k);have V:=aa z;clear k z G C c1 c2;go_wp2_with fail;refine Z.o.mono ?_;rintro e w2⟨⟨A2,k2,rfl,m⟩,b2⟩;have Y:=aa (aH V.o Zl b2);have q:=aa m;clear m b2 Z V;generalize hn:ſ ls=n at u⊢;have K:=aa hn;clear hn;go_wp2_with fail
 go_loopw [8,9] (λs x wr=>w2=wr/\∃i:Nat,i<=n/\x=(i:Int)/\s=À (ab ((ls.take i).flatMap eH))) (λ_ x _=>n-(é x).toNat)
 case atStart=>exact⟨rfl,0,Ë _,rfl,rfl⟩
 case round=>
  obtain⟨rfl,i,hi,rfl,rfl⟩:=hrel;have H:=K.o;by_cases v:i<n
  .have r:(i:Int)<(n:Int):=by omega
   obtain⟨b0,o0,rfl,Ab,d0⟩:=q.o i (by omega);have y:ls[i].size<=1260:=g.o _ (á _)
   have h1:=vH (f:=eH) (b:=1300) (ls.take i) λl hl=>by
    have:=g.o l (List.mem_of_mem_take hl)
    simp only[eH,ß,Ð,ä,aw];omega
   have h2:(ls.take i).length*1300<=60*1300:=Nat.mul_le_mul_right _ (by rw[List.length_take];omega);have d:=(show Hid (_=_)from Ur (ls:=ls) (i:=i) (by omega));have U:Hid (∀l:ByteArray,ab ((ls.take i).flatMap eH)++(⟨#[35,32]⟩:ByteArray)++l++(⟨#[10]⟩:ByteArray)=ab ((ls.take i).flatMap eH++eH l)):=λl=>Lj _ l
   have hq:(ab ((ls.take i).flatMap eH)).size<=100000:=by rw[j8];omega
   generalize ls[i]=l at d0 y d;generalize ab ((ls.take i).flatMap eH)=S at U hq⊢;have g1:¬9223372036854775807<S.size+2:=by omega
   have g2:¬9223372036854775807<S.size+2+l.size:=by omega
   have g3:¬9223372036854775807<S.size+2+l.size+1:=by omega
   clear h1 h2 H;go_wp2;refine⟨⟨trivial,i+1,v,by go_num,?_⟩,?_⟩
   .rw[d.o,<-U.o l]
   .simp[é];omega
  .have r:¬(i:Int)<(n:Int):=by omega
   have M:ls.take i=ls:=List.take_of_length_le (by omega);rw[M];by_cases h0:n=0
   .have B:ls=[]:=Ô (by omega);have E:=(show Hid (_=_)from I.o B);subst h0;clear H M I J K B;generalize ls.flatMap eH=X;go_wp2;go_ret3;exact⟨by rw[E.o];rfl,Y.o⟩
   .have B:ls≠[]:=λe=>h0 (by rw[<-H,e];rfl)
    have E:Hid (ab L=ab (ls.flatMap eH)):=(show _=_ by rw[J.o B]);have Ac:((n:Int)==0)=false:=by simp;omega
    clear H M I J K B;generalize ab (ls.flatMap eH)=X at E⊢;go_wp2;go_ret3;exact⟨by rw[E.o];rfl,Y.o⟩
theorem Md{t wd u}(h:(aN t).best wd=Æ ((aN t).cst wd u,u))(C:dZ t=0):∃s,ei ((aN t).show u)=ab s/\iL wd t=s++[10]/\(ſ s)<=2000000:=by
 have B:(aN t).best wd=Æ (bs wd 0 [(0,aN t)]):=by rw[oD,gC]
 obtain⟨_,A,_⟩:=og B;rw[B]at h
 have e:(bs wd 0 [(0,aN t)]).2=u:=by
  have:=congrArg Prod.snd (å h)
  exact this
 rw[e]at A;refine⟨(aN t).txt u,?_,?_,wP C A⟩
 .rw[A];rfl
 .rw[iL,e]
theorem Sq{t}(h:ag t=0)(h9:aR t≠9)(wd:Nat)(a cap)(w:Ò)(hN:aG w a t):
  ã prog 50 #[Å a (ſ t) cap,(wd:Int)] w λe a=>jX t wd e/\È w w a:=by
 obtain⟨m,b,o,rfl,hb,j,z⟩:=qS h hN;have J:(aR t==9)=false:=by simp[h9]
 have O:Hid (Cp 68 #[Å (Æ ↑(b,o)) (ſ t) cap,Á Â 0] w λe a=>bK w (aN t).N e a):=PL h h9 w hN;have M:=(o4 h h9).n;by_cases K:400<(aN t).N.length
 .have l:bS t=3:=by rw[bS,if_neg h9,if_pos K]
  have R:Hid (jX t wd (Ã (Ç #[À ⟨#[]⟩,Á Â 3,Ñ à]))):=by
   have:=jX.full (t:=t) (wd:=wd) (by rw[l];decide)
   rw[l]at this;exact this
  generalize(aN t).N=xs at O K M
  generalize aR t=op0 at j J;have L:(400:Int)<(ſ xs:Int):=by omega
  go_in;go_wp2_with fail;refine O.o.mono ?_;rintro e r⟨g,p,rfl,_,V⟩;go_wp2;go_ret3;exact⟨R.o,V⟩
 .have k:bS t=0:=by rw[bS,if_neg h9,if_neg K]
  have Z:dZ t=0:=by rw[<-ux h h9];exact k
  have E:Hid (∀(A:Option Addr)(c:Nat)(W:Ò),aS W A (aN t).N->Cp 69 #[Å A (aN t).N.length c,(wd:Int)] W λe a=>yg (aN t) wd W e a):=λA c W P=>Nc (aN t) (o4 h h9).w (aN t).N rfl (by omega) wd A c W P
  have Q:Hid (∀u,(aN t).best wd=Æ ((aN t).cst wd u,u)->∃s,ei ((aN t).show u)=ab s/\iL wd t=s++[10]/\(ſ s)<=2000000):=λu hu=>Md hu Z
  have R:Hid (∀s,(aN t).ways.length<=300->iL wd t=s++[10]->jX t wd (Ã (Ç #[À (ab s++(⟨#[10]⟩:ByteArray)),Á Â 0,Ñ à]))):=λs hfw hs=>by
   have P:=jX.ok (t:=t) (wd:=wd) k (.inr hfw);rw[vf h h9,hs,<-bn]at P;exact P
  have U:Hid (∀s,300<(aN t).ways.length->jX t wd (Ã (Ç #[À s,Á Â 0,Ñ Ù]))):=λs hfw=>.many s λq=>q.elim h9 λq=>by omega
  generalize(aN t).N=xs at O K M E
  generalize aR t=op0 at j J;have L:¬(400:Int)<(ſ xs:Int):=by omega
  go_in;go_wp2_with fail;refine O.o.mono ?_;rintro e r⟨g,p,rfl,X,V⟩;have D:=aa V;have G:=aa (E.o g p r X.nods);generalize (ſ xs)=nx at G K L⊢;go_wp2_with fail;refine G.o.mono ?_;rintro e v⟨⟨C,u,wa,wc,Y,rfl,_⟩|⟨C,rfl⟩,i⟩
  .obtain⟨s,x,y,f⟩:=Q.o u Y;rw[x];have H:=aa (R.o s C y);have B:=aa (aH D.o Zl i);have d:(ab s).size<=2000000:=by rw[j8];exact f
   generalize ab s=S at H d
   generalize((aN t).cst wd u).1=q1
   generalize((aN t).cst wd u).2=q2
   generalize (ſ u)=ul;go_wp2;go_ret3;exact⟨H.o,aH B.o Zl (aC v _)⟩
  .have B:=aa (aH D.o Zl i);have I:=aa (λs=>U.o s C);go_wp2;go_ret3;exact⟨I.o _,aH B.o Zl (aC v _)⟩
theorem NY{t}(h:ag t=0)(E:Nat)(B:10<=E)(C:E<=100)(a D)(w:Ò)(G:aG w a t):
  ã prog 50 #[Å a (ſ t) D,(E:Int)] w λe H=>jX t E e/\È w w H:=by
 by_cases A:aR t=9
 .refine ai (NR h A E B C a D w G) λH I=>?_
  exact⟨.ok (vj A) (.inl A),I⟩
 .exact Sq h A E a D w G
