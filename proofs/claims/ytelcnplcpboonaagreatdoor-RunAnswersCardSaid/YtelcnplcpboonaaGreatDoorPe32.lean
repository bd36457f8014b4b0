import Derived.Test.YtelcnplcpboonaaGreatDoorPe29
open Go.Proofs.Tryz
open List renaming length->ſ
open Go.Value renaming slice->À,string->Ã,int->Ä,pointer->Ø,tuple->Ù,bool->Ý
open Go.World renaming size_alloc->Á,size_setCell->Ó
open Go.Obj renaming cells->Â
open Go.IntKind renaming i64->Å
open Bool renaming false->Æ
open Option renaming some->Ç,none->Ô
open List renaming getElem_map->È,length_map->É,getElem_mem->Í,drop_eq_getElem_cons->Î,getElem?_eq_getElem->Ð,length_cons->Õ,length_drop->Ö,getElem_cons_zero->Ú,length_pos_iff->Ü,map_cons->ß,sum_cons->à
open Go.Ending renaming returned->Ê
open Option.some renaming injEq->Ë
open Go renaming bodyPost_ret->Ì,results->Û,World->Þ
open Go.RowKit renaming Below->Ï
open Go.Addr.mk renaming injEq->Ñ
open Nat renaming le_refl->Ò
namespace Go.Proofs.YtelcnplcpboonaaGreatDoor
open Go Go.RowKit
set_option maxRecDepth 100000
set_option maxHeartbeats 16000000
def Hl(s:ByteArray)(W:Þ)(e:Ending)(w':Þ):Prop:=∃ps k f A c,e=Ê (Ù #[À A (ſ ps) c,Ä Å k,Ä Å f])/\cJ s ps k f/\bP w' A ps/\(A=Ô->ſ ps=0/\c=0)/\(ſ ps)<=c/\Ï W W w'
theorem ol{s}{W:Þ}{A k f}(h:cJ s [] k f)(B:Ï W W A):Hl s W (Ê (Ù #[À Ô 0 0,k,f])) A:=
 ⟨[],k,f,Ô,0,rfl,h,bP.nil _ _,λ_=>⟨rfl,rfl⟩,Ò _,B⟩
theorem Vy{B w A n c J}(h:cP B (À A n c) J w):∀H I,A=Ç ⟨H,I,Ô⟩->H<w.heap.size:=by
 intro H I e;rcases h.2 with⟨C,_⟩|⟨g,G,D,C,_,E,_⟩
 .simp only[Value.slice.injEq]at C;rw[C.1]at e;cases e
 .simp only[Value.slice.injEq]at C;rw[C.1]at e;simp only[Ë,Ñ,and_true]at e;rw[<-e.1];exact(Array.getElem?_eq_some_iff.1 E).1
theorem MO{w A c ws}(G:bN w A (ws.map ab))(D:∀E H,A=Ç ⟨E,H,Ô⟩->E<w.heap.size):Rd (w.alloc (Â #[À A (ſ ws) c,Ä Å 0,Ý Æ] 78)) w.heap.size A c ws 0 false:=by
 have B:(w.alloc (Â #[À A (ſ ws) c,Ä Å 0,Ý Æ] 78)).heap[w.heap.size]?=Ç (Â #[À A (ſ ws) c,Ä Å 0,Ý Æ] 78 (0,0)):=by
  show(w.heap.push _)[w.heap.size]?=_
  simp
 have C:∀k,(w.alloc (Â #[À A (ſ ws) c,Ä Å 0,Ý Æ] 78)).cell? ⟨w,k,Ô⟩=(match (w.alloc (Â #[À A (ſ ws) c,Ä Å 0,Ý Æ] 78)).heap[w.heap.size]? with
  | some (Â c _ _)=>c[k]?
  | _=>Ô):=λ_=>rfl
 refine⟨by rw[C,B];rfl,by rw[C,B];rfl,by rw[C,B];rfl,⟨_,_,B,rfl⟩,G.W (Zb.alloc Zl _),D⟩
theorem Hg{L}:∀x∈aQ L,dR x/\(ſ x)<=ſ L:=by
 intro x B;obtain⟨j,A,rfl⟩:=List.getElem_of_mem B;have h:=uo L j A (by rw[<-kX];exact A);exact⟨h.2.2.1,by omega⟩
theorem Gf:∀(ws:List Wd)(w:Wd),w∈ws->ſ w+1<=gU ws
 | a::r,w,h=>by
  unfold gU;rw[ß,à];rcases List.mem_cons.1 h with rfl|h
  .omega
  .have:=Gf r w h
   unfold gU at this;omega
theorem F9:∀a:List Wd,ſ a<=gU a
 | []=>by simp
 | a::r=>by
  have:=F9 r
  unfold gU at this⊢;rw[ß,à,Õ];omega
theorem Sj(s):(ar s).length<=ſ s+1:=by grind [ar,F9,bV,sg]
theorem Sk{s w}(h:w∈ar s):ſ w<=ſ s:=by
 unfold ar at h
 split at h
 .cases h
 .have A:=Gf _ _ h;rw[sg]at A;omega
theorem BH{t l}(h:l≠[]/\t≠[]):ab t++(⟨#[32]⟩:ByteArray)++ab l=ab (cK t l):=by
 unfold cK;rw[if_pos h,<-bn,<-bn];rfl
theorem vz{t l}(h:¬(l≠[]/\t≠[])):ab t++ab l=ab (cK t l):=by
 unfold cK;rw[if_neg h,<-bn]
theorem xe{t}(h:t≠[]):(0:Int)<((ab t).size:Int):=by
 rw[cg]
 have:=Ü.2 h
 omega
theorem uB{t}(h:t=[]):¬(0:Int)<((ab t).size:Int):=by
 rw[cg,h];simp
theorem un{w S}(h:ab w=S)(A:w≠[]):0<S.size/\∀B:0<S.size,S[0]=w.headD 0:=by
 subst h;cases w with
 | nil=>exact absurd rfl A
 | cons c r=>exact⟨by rw[<-aw];show 0<(c::r).length;simp,λ_=>rfl⟩
theorem LM{w S}(h:ab w=S):ae (S.extract 1 S.size)=w.drop 1:=by
 subst h;rw[m8];have A:ae (ab w)=w:=rfl;have B:∀l:List UInt8,ae (ab l)=l:=λ_=>rfl
 rw[B,A,cg,List.take_of_length_le (by simp)]
structure wh(b:Nat)(A:Option Addr)(c:Nat)(ws:List Wd)(p:Nat)(w:Þ)(r:Rs)(ns:List Td)(v:Value)(w':Þ):Prop where
 o:au w v ns w'
 n:ſ ns+ſ r.rest<=(ws.drop p).length
 rd:Rd w' b A c ws (ſ ws-ſ r.rest) r.isBad
 bt:ak w b w w'
 er:r=.bad (ws.drop p)
 en:ns=[]
theorem MI{b A c ws}{w:Þ}{q p B v M wr V W I x r K U}(S:ir b A c ws w q Æ B v wr)(H:q<p)(L:p<=ſ ws)
  (O:wh b A c ws p V r K U W) (R:PG (fP ws q) B (ws.drop q) (.bad (ws.drop p)))
  (J:Rd I b A c ws (dy ws (ſ ws-ſ r.rest) r.isBad [59]) (dx ws (ſ ws-ſ r.rest) r.isBad [59])) (P:bR (b+1) M (B++[x::K]) I) (N:ak w b w I):
  ir b A c ws w (dy ws (ſ ws-ſ r.rest) r.isBad [59]) (dx ws (ſ ws-ſ r.rest) r.isBad [59]) (B++[x::K]) M I/\
  2*(ſ ws-dy ws (ſ ws-ſ r.rest) r.isBad [59])+(if dx ws (ſ ws-ſ r.rest) r.isBad [59]then 0 else 1)<2*(ſ ws-q)+1:=by
 have G:=O.er;subst G
 have C:ſ ws-(Rs.bad (ws.drop p)).rest.length=p:=by
  show (ſ ws)-(ws.drop p).length=p;rw[dE L];omega
 rw[C]at J⊢;have D:dy ws p (Rs.bad (ws.drop p)).isBad [59]=p:=by simp[dy,Rs.isBad]
 have E:dx ws p (Rs.bad (ws.drop p)).isBad [59]=true:=by simp[dx,Rs.isBad]
 rw[D,E]at J⊢;exact⟨uh S (by omega) L (by simp) R P J N,by simp only[if_true];omega⟩
theorem MU(s W):Calls prog 17 #[Ã s] W λe a=>Hl s W e a:=by
 have HL:Hid (Cp 30 #[Ã s] W λe a=>uD s W e a/\Ï W W a):=R1 s W;go_in;go_wp2_with fail;refine HL.o.mono ?_;rintro e w1⟨Eh,Da⟩;have Cb:Hid (Ï W W w1):=Da;clear Da HL;rcases Eh with⟨Bj,rfl⟩|⟨h0,A,P,V,pc,rfl,hS,hP⟩
 .have HP:Hid (cJ s [] ((fX (ae s):Nat):Int) (dc (ae s))):=.lex Bj
  generalize((fX (ae s):Nat):Int)=K at HP
  generalize dc (ae s)=E at HP Bj;go_wp2;refine Ì (v:=Ù #[À Ô 0 0,K,E]) (by simp[Û,Tryz.results17,go_sem]) rfl ?_;exact ol HP.o Cb.o
 have hl:=Ga h0;have Ej:∀x∈aQ (ae s),dR x:=λx hx=>(Hg x hx).1
 have Ek:∀x∈aQ (ae s),ſ x<=60000:=λx hx=>Nat.le_trans (Hg x hx).2 (tr h0).1
 have Ay:Hid (∀q,q<=(aQ (ae s)).length->PG Æ [] (aQ (ae s)) (.bad ((aQ (ae s)).drop q))->cJ s [] ((((ec (ae s))[q]?).getD s.size:Nat):Int) 5):=λq hq hg=>by
  have h9:=cJ.bad h0 hg;unfold s9 at h9;rw[dE hq,show(aQ (ae s)).length-((aQ (ae s)).length-q)=q by omega]at h9;exact h9
 have Dn:Hid (∀a,PG Æ [] (aQ (ae s)) (.ok a)->((aW a).2≠0->cJ s [] 0 (aW a).2)/\((aW a).2=0->cJ s a 0 0)):=λqs hg=>⟨λh=>.full h0 hg h,λh=>.ok h0 hg h⟩
 have D2:∀i,i<(aQ (ae s)).length->∃a b,P=Ç ↑(a,b)/\a<w1.heap.size/\w1.cell? (a,b+i)=Ç (Ä Å ((((ec (ae s))[i]?).getD s.size:Nat):Int)):=λi hi=>by
  have Ey:i<((ec (ae s)).map λ(k:Nat)=>(k:Int)).length:=by rw[É,<-kX];exact hi
  obtain⟨bp,op,e,Aa,c1⟩:=NO hP i Ey;have Ez:i<(ec (ae s)).length:=by rw[<-kX];exact hi
  refine⟨bp,op,e,Aa,?_⟩;rw[c1,Ð Ez,È];rfl
 generalize El:aQ (ae s)=ws at *;obtain⟨M,B3⟩:∃M,M=w1.alloc (Â #[À A (ſ ws) V,Ä Å 0,Ý Æ] 78):=⟨_,rfl⟩;have Dr:Hid (Rd M w1.heap.size A V ws 0 Æ):=by rw[B3];exact MO (jR hS) (Vy hS)
 have Ds:Hid (M=w1.alloc (Â #[À A (ſ ws) V,Ä Å 0,Ý Æ] 78)):=B3;have Db:Ï w1 w1 M:=by rw[B3];exact Zb.alloc Zl _
 have Bm:M.heap.size=w1.heap.size+1:=by rw[B3,Á]
 have Az:Hid (∀wr,ak M w1.heap.size M wr->∀i,i<ſ ws->∃a b,P=Ç ⟨a,b,Ô⟩/\wr.cell? ⟨a,b+i,Ô⟩=Ç (Ä Å ((((ec (ae s))[i]?).getD s.size:Nat):Int))):=λwr hb i hi=>by
  obtain⟨bp,op,e,Aa,c1⟩:=D2 i hi;refine⟨bp,op,e,?_⟩;rw[hb.cell (p:=(bp,op+i)) (by show bp<_;omega) (by show bp≠_;omega),Db.cell (p:=(bp,op+i)) Aa];exact c1
 have Cc:Hid (∀wr,ak M w1.heap.size M wr->Ï W W wr):=λwr hb=>by
  have J:=Cb.o.size;exact(Cb.o.trans (Db.mono J)).trans (hb.low (by omega) J)
 have Bu:Hid (∀q,ſ ws<=q->(ec (ae s))[q]?=Ô):=λq hq=>List.getElem?_eq_none (by rw[<-kX,El];exact hq)
 have B0:Hid (∀x∈ws,dR x):=Ej;have Es:Hid (∀x∈ws,ſ x<=60000):=Ek;have Bc:Hid (M.heap.size=w1.heap.size+1):=Bm;generalize Eu:ec (ae s)=pl at Ay Az Bu;clear hS hP h0 Ej Ek D2 El B3 Db Bm Cb Eu;go_wp2_with fail;rw[<-Ds.o];generalize w1.heap.size=b at Dr Az Cc Bc⊢;clear Ds
 go_loopw [10] (λx wr=>∃(q:Nat)(C7:Bool)(B:List (List Td))(d:Option Addr)(N:Nat),x=À d (ſ B) N/\ir b A V ws M q C7 B (À d (ſ B) N) wr) (λ_ wr=>2*(ſ ws-px wr b)+sR wr b)
 case atStart=>exact⟨0,Æ,[],Ô,0,rfl,Lp Dr.o⟩
 case round=>
  obtain⟨q,C7,B,d,N,rfl,hV⟩:=hrel;have I:=aa hV;have d1:=hV.rd.c1;have d2:=hV.rd.c2;have B9:=hV.le;have Fj:wr.frozen? (b,1)=false:=hV.rd.row.frozen;have Fk:wr.frozen? (b,2)=false:=hV.rd.row.frozen;have B4:b<wr.heap.size:=hV.rd.row.lt;have Cm:=hV.bt.size;have E3:=hV.len;have A3:Hid (Ï W W wr):=Cc.o wr hV.bt;generalize Bi:ſ B=al at E3;have Ah:Hid (ſ B=al):=Bi;clear hV Bi;cases C7 with
  | true=>
   have Am:=Ay.o q B9 (I.o.bd rfl);have Aj:=aa Am;clear Am;by_cases Ck:q<ſ ws
   .have Eg:(q:Int)<(ſ ws:Int):=by omega
    obtain⟨bp,op,rfl,Dc⟩:=Az.o wr I.o.bt q Ck
    generalize(((pl[q]?).getD s.size:Nat):Int)=K at Aj Dc
    go_wp2_with fail
    go_quiet (fail)
    go_wp2;refine Ì (v:=Ù #[À Ô 0 0,K,Ä Å 5]) (by simp[Û,Tryz.results17,go_sem]) rfl ?_;exact ol Aj.o (aP A3.o _)
   .have Eg:¬(q:Int)<(ſ ws:Int):=by omega
    have Av:pl[q]?=none:=Bu.o q (by omega);rw[Av]at Aj;go_wp2;refine Ì (v:=Ù #[À Ô 0 0,(s.size:Int),Ä Å 5]) (by simp[Û,Tryz.results17,go_sem]) rfl ?_;exact ol Aj.o A3.o
  | false=>
   by_cases Ag:q<ſ ws
   .have E6:(q:Int)<(ſ ws:Int):=by omega
    obtain⟨y,oa,eA,Fr,dq⟩:=I.o.rd.wd q (by rw[É];exact Ag);subst eA;rw[È]at dq;have Dh:=B0.o _ (Í Ag);have Di:=Es.o _ (Í Ag)
    have Bj:ws[q]≠[]:=by
     obtain⟨x,r,e,_⟩:=Dh;rw[e];simp
    generalize hX:ab ws[q]=X at dq;have HX:Hid (ab ws[q]=X):=hX;obtain⟨Em,Cn⟩:=un hX Bj;have Fl:(0:Int)<(X.size:Int):=by omega
    have Co:X.size<=60000:=by rw[<-hX,cg];exact Di
    by_cases Be:ws[q].headD 0=35
    .have Cr:X[0]=35:=(Cn Em).trans Be;have Bo:Hid (ws[q].headD 0=35):=Be
     have Dl:Hid (Cp 31 #[Ã (X.extract 1 X.size)] (wr.setCell ↑(b,1) ↑((q:Int)+1)) λe a=>(∃b c,e=Ê (À b (ar (ws[q].drop 1)).length c)/\bN a b ((ar (ws[q].drop 1)).map ab))/\Rd a b (Ç ↑(y,oa)) V ws (q+1) Æ/\ak M b M a/\bR (b+1) (À d al N) B a/\wr.heap.size<=a.heap.size):=by
      have J:=so (X.extract 1 X.size) (wr.setCell ↑(b,1) ↑((q:Int)+1)) (by rw[ByteArray.size_extract];omega);rw[LM HX.o]at J;have h2:=I.o.rd.setAt (q+1);rw[show((q+1:Nat):Int)=(q:Int)+1 by omega]at h2;have h3:ak wr b wr (wr.setCell ↑(b,1) ↑((q:Int)+1)):=(ak.refl _ _ _).setCell (p:=↑(b,1)) (.inl rfl) _;have h4:(wr.setCell ↑(b,1) ↑((q:Int)+1)).heap.size=wr.heap.size:=by rw[Ó]
      rw[h4]at J;refine J.mono ?_;rintro e w'⟨⟨A1,c1,rfl,h5⟩,h6⟩;have h7:ak wr b wr w':=h3.trans (ak.of h6);refine⟨⟨A1,c1,rfl,jR h5⟩,h2.keepB h6 B4,I.o.bt.trans (h7.mono Cm),?_,h7.size⟩;have h8:=I.o.o.but h7 (by omega);rw[Ah.o]at h8;exact h8
     clear hX Cn Be Bj Dh Di;go_wp2_with fail;refine Dl.o.mono ?_;rintro e w3⟨⟨A1,Fo,rfl,D6⟩,Ci,Dx,D0,Fy⟩;have Dp:=aa Ci;have Dk:=aa Dx;have Dm:Hid (bR (b+1) (À d al N) B w3):=D0;have C5:=aa D6;have Fp:=Ci.c1;have Fq:=Ci.c2
     have Ai:Hid (∀k,(ab (gk ((ar (ws[q].drop 1)).take k))).size<=60001):=λk=>by
      have J:=GL (ws[q].drop 1) k
      have h2:(ws[q].drop 1).length<=60000:=by
       have h3:(ab ws[q]).size<=60000:=by rw[HX.o];exact Co
       rw[cg]at h3;simp only[Ö];omega
      show(ab _).size<=_
      rw[cg];omega
     have C6:Hid (gk ((ar (ws[q].drop 1)).take (ar (ws[q].drop 1)).length)=cI ws[q]):=by
      show _=_;rw[List.take_length];rfl
     have Cx:Hid (∀j(h:j<(ar (ws[q].drop 1)).length),(ab (ar (ws[q].drop 1))[j]).size<=60001):=λj h=>by
      have J:=Sk (Í h);have h3:(ab ws[q]).size<=60000:=by rw[HX.o];exact Co
      rw[cg]at h3;simp only[Ö]at J;rw[cg];omega
     have Ec:(ar (ws[q].drop 1)).length<=60001:=by
      have J:=Sj (ws[q].drop 1);have h3:(ab ws[q]).size<=60000:=by rw[HX.o];exact Co
      rw[cg]at h3;simp only[Ö]at J;omega
     clear D6 Ci Dx D0 Dl;generalize ar (ws[q].drop 1)=nl at C5 Ai C6 Cx Ec⊢;go_wp2_with fail
     go_loopw [12,14] (λt i a=>∃j:Nat,j<=ſ nl/\i=(j:Int)/\t=Ã (ab (gk (nl.take j)))/\Ï w3 w3 a) (λ_ i _=>ſ nl-(intOf i).toNat)
     case atStart=>exact⟨0,Nat.zero_le _,rfl,rfl,Below.refl _ _⟩
     case round=>
      obtain⟨j,hj,rfl,rfl,D9⟩:=hrel;have Al:Hid (Ï w3 w3 wr):=D9;clear D9;by_cases Df:j<ſ nl
      .have E2:(j:Int)<(ſ nl:Int):=by omega
       obtain⟨b1,o1,e1,Da,dj⟩:=(bN.W C5.o Al.o) j (by rw[É];exact Df);subst e1;rw[È]at dj
       have Bx:Hid (gk (nl.take (j+1))=cK (gk (nl.take j)) nl[j]):=by
        show _=_;unfold gk;rw[List.take_succ_eq_append_getElem Df,List.foldl_append];rfl
       have Cp:=Ai.o j;have Ff:=Cx.o j Df;generalize gk (nl.take j)=T at Bx Cp⊢;generalize nl[j]=Y at Bx Ff dj;by_cases hy:Y=[]
       .have HA:Hid (ab T++ab Y=ab (cK T Y)):=vz λh=>h.1 hy
        have Fe:=uB hy;clear hy;generalize ab T=TT at *;generalize ab Y=YY at *;go_wp2
        go_roundw
        case rel=>exact⟨j+1,by omega,by go_num,by rw[Bx.o,<-HA.o],Al.o⟩
        case measure=>simp[intOf];omega
       .have Fe:=xe hy;by_cases ht:T=[]
        .have HA:Hid (ab T++ab Y=ab (cK T Y)):=vz λh=>h.2 ht
         have Dg:=uB ht;clear hy ht;generalize ab T=TT at *;generalize ab Y=YY at *;go_wp2
         go_roundw
         case rel=>exact⟨j+1,by omega,by go_num,by rw[Bx.o,<-HA.o],Al.o⟩
         case measure=>simp[intOf];omega
        .have HA:Hid (ab T++(⟨#[32]⟩:ByteArray)++ab Y=ab (cK T Y)):=BH ⟨hy,ht⟩;have Dg:=xe ht;clear hy ht;generalize ab T=TT at *;generalize ab Y=YY at *;go_wp2
         go_roundw
         case rel=>exact⟨j+1,by omega,by go_num,by rw[Bx.o,<-HA.o],Al.o⟩
         case measure=>simp[intOf];omega
      .have E2:¬(j:Int)<(ſ nl:Int):=by omega
       have E1:j=ſ nl:=by omega
       subst E1;have Cp:=Ai.o (ſ nl);rw[C6.o]at Cp⊢;have C8:=Dp.o.keep Al.o;have e1:wr.cell? (b,1)=Ç ↑((q:Int)+1):=C8.c1;have D1:bR (b+1) (À d al N) B wr:=Dm.o.kept λg J h2=>Al.o.block g h2
       have Dz:ak M b M wr:=Dk.o.trans (ak.of (Al.o.mono (by omega)));have Fz:w3.heap.size<=wr.heap.size:=Al.o.size;have Bw:=aa C8;have Ba:Hid (bR (b+1) (À d al N) B wr):=D1;have Cv:=aa Dz;have Ar:Hid (∀a c d f,bR (b+1) (À a d c) (gg (fP ws q) B (cI ws[q])) f->Rd f b (Ç ↑(y,oa)) V ws (q+1) Æ->ak M b M f->ir b (Ç ↑(y,oa)) V ws M (q+1) Æ (gg (fP ws q) B (cI ws[q])) (À a d c) f/\d=(gg (fP ws q) B (cI ws[q])).length):=λA9 c9 n9 w9 J h2 h3=>⟨MJ I.o Ag Bo.o (by have h4:(ab ws[q]).size<=60000:=by{rw[HX.o];exact Co};rw[cg]at h4;exact h4) J h2 h3,J.cell.1⟩
       clear C8 D1 Dz Dp Dm Dk C5 Ai Cx C6;cases Aw:fP ws q with
       | false=>
        rw[Aw]at Ar;generalize D5:ab (cI ws[q])=TX at Cp
        have Er:Hid (gg Æ B (cI ws[q])=B++[[⟨9,TX,0⟩]]):=by
         show gg Æ B (cI ws[q])=_;rw[<-D5];rfl
        rw[Er.o]at Ar;obtain⟨n1,n2,n3⟩:=UZ Ba.o (by omega) ⟨9,TX,0⟩;have N1:Hid (bR (b+1) (À d al N) B ((wr.alloc (Â #[Ä Å 9,Ã TX,Ä Å 0] 81)).alloc (Â #[À wr.heap.size 1 1] 82))):=n1;have N2:Hid (au (b+1) (À ↑wr.heap.size 1 1) [⟨9,TX,0⟩] ((wr.alloc (Â #[Ä Å 9,Ã TX,Ä Å 0] 81)).alloc (Â #[À ↑wr.heap.size 1 1] 82))):=n2;have N3:Hid (((wr.alloc (Â #[Ä Å 9,Ã TX,Ä Å 0] 81)).alloc (Â #[À ↑wr.heap.size 1 1] 82)).cell? ↑(wr.heap.size+1)=Ç (À ↑wr.heap.size 1 1)):=n3;clear n1 n2 n3 D5;by_cases Ed:q=0
        .have Bl:¬(1:Int)<(q:Int)+1:=by omega
         have Ck:¬(0:Int)<(q:Int):=by omega
         clear Ed;go_wp2_with(at_builtin;refine rO rfl _ _ rfl (b+1) _ B rfl N1.o (wr.heap.size+1) wr.heap.size 1 1 [⟨9,TX,0⟩] rfl rfl N3.o N2.o (al+1) (by rw[Ah.o]) (by omega) (by simp only[Á];omega) ?_);intro A9 c9 w9 f Ae;have L:Ï (b+1) wr w9:=((Zb.alloc (by omega) _).alloc (by simp only[Á];omega) _).grown Ae (by simp only[Á];omega) (λa b=>Ba.o.own_le b);obtain⟨Ac,B8⟩:=Ar.o A9 c9 _ w9 f (Bw.o.keepB L (by omega)) (Cv.o.trans (ak.of (L.mono (by rw[Bc.o];exact Ò _))));have C:=aa Ac;clear f Ae L Ac;go_wp2
         go_roundw
         case rel=>exact⟨q+1,Æ,_,A9,c9,by rw[<-B8],by rw[<-B8];exact C.o⟩
         case measure=>rw[C.o.rd.at_eq,C.o.rd.nb_eq,I.o.rd.at_eq,I.o.rd.nb_eq];simp;omega
        .obtain⟨j0,De⟩:∃a,q=a+1:=⟨q-1,by omega⟩;have Af:j0<ſ ws:=by omega
         have Bl:(1:Int)<(q:Int)+1:=by omega
         have Ck:(0:Int)<(q:Int):=by omega
         have E0:(q:Int)+1-2=(j0:Int):=by omega
         have Ea:(j0:Int)<(ſ ws:Int):=by omega
         obtain⟨Du,Eo,ea,_,dz⟩:=Bw.o.wd j0 (by rw[É];exact Af);simp only[Ë,Ñ,and_true]at ea;obtain⟨rfl,rfl⟩:=ea;rw[È]at dz
         have Aq:ws[j0]≠[]:=by
          obtain⟨x,r,e,_⟩:=B0.o _ (Í Af);rw[e];simp
         generalize hZ:ab ws[j0]=Z at dz;obtain⟨Dj,Ca⟩:=un hZ Aq;have En:(0:Int)<(Z.size:Int):=by omega
         have Bk:(ws[j0].headD 0==35)=false:=by rw[<-tz Af,<-De];exact Aw
         have Cs:¬Z[0]=35:=by
          rw[Ca Dj];intro e;rw[e]at Bk;cases Bk
         have Fg:¬Z[0].toNat=35:=λe=>Cs (UInt8.toNat_inj.1 e)
         have Fh:¬(Z[0].toNat:Int)=35:=by omega
         clear Ca Bk Aq hZ;go_wp2_with(at_builtin;refine rO rfl _ _ rfl (b+1) _ B rfl N1.o (wr.heap.size+1) wr.heap.size 1 1 [⟨9,TX,0⟩] rfl rfl N3.o N2.o (al+1) (by rw[Ah.o]) (by omega) (by simp only[Á];omega) ?_);intro A9 c9 w9 f Ae;have L:Ï (b+1) wr w9:=((Zb.alloc (by omega) _).alloc (by simp only[Á];omega) _).grown Ae (by simp only[Á];omega) (λa b=>Ba.o.own_le b);obtain⟨Ac,B8⟩:=Ar.o A9 c9 _ w9 f (Bw.o.keepB L (by omega)) (Cv.o.trans (ak.of (L.mono (by rw[Bc.o];exact Ò _))));have C:=aa Ac;clear f Ae L Ac;go_wp2
         go_roundw
         case rel=>exact⟨q+1,Æ,_,A9,c9,by rw[<-B8],by rw[<-B8];exact C.o⟩
         case measure=>rw[C.o.rd.at_eq,C.o.rd.nb_eq,I.o.rd.at_eq,I.o.rd.nb_eq];simp;omega
       | true=>
        rw[Aw]at Ar;have Ed:q≠0:=λe=>by rw[e]at Aw;cases Aw
        obtain⟨j0,De⟩:∃a,q=a+1:=⟨q-1,by omega⟩;have Af:j0<ſ ws:=by omega
        have Bl:(1:Int)<(q:Int)+1:=by omega
        have Ck:(0:Int)<(q:Int):=by omega
        have E0:(q:Int)+1-2=(j0:Int):=by omega
        have Ea:(j0:Int)<(ſ ws:Int):=by omega
        obtain⟨Du,Eo,ea,_,dz⟩:=Bw.o.wd j0 (by rw[É];exact Af);simp only[Ë,Ñ,and_true]at ea;obtain⟨rfl,rfl⟩:=ea;rw[È]at dz
        have Aq:ws[j0]≠[]:=by
         obtain⟨x,r,e,_⟩:=B0.o _ (Í Af);rw[e];simp
        generalize hZ:ab ws[j0]=Z at dz;obtain⟨Dj,Ca⟩:=un hZ Aq;have En:(0:Int)<(Z.size:Int):=by omega
        have Bk:(ws[j0].headD 0==35)=true:=by rw[<-tz Af,<-De];exact Aw
        have Cs:Z[0]=35:=by
         rw[Ca Dj];simpa using Bk
        clear Ca Bk Aq hZ;obtain⟨D,x,Et,F0⟩:=I.o.last rfl Aw;subst Et;obtain⟨go,g,cx,eA,Ex,A0,dk,hT⟩:=Ba.o.cell.2.2.2 (ſ D) (by simp);subst eA;rw[List.getElem_append_right Zl]at dk hT;simp only[Nat.sub_self,Ú,List.length_singleton]at dk hT;obtain⟨g',o',eg,Fv,_,t2,_⟩:=hT.tds 0 (by simp);simp only[Ë,Ñ,and_true]at eg;obtain⟨rfl,rfl⟩:=eg;simp only[Ú,Nat.zero_mul,Nat.zero_add]at t2;have Fu:wr.frozen? (go,ſ D)=false:=A0.frozen;have Dd:go<wr.heap.size:=A0.lt;have Ft:∀o:Obj,(wr.alloc o).frozen? (go,ſ D)=false:=λo=>(A0.kept (((Below.refl wr.heap.size wr).alloc Zl o).block go Dd)).frozen
        have Fs:∀o:Obj,(wr.alloc o).cell? (go,ſ D)=Ç (À g 1 cx):=λo=>(((Below.refl wr.heap.size wr).alloc Zl o).cell (p:=(go,ſ D)) Dd).trans dk
        have Bi:al=ſ D+1:=by rw[<-Ah.o];simp
        have hk:(al:Int)-1=(ſ D:Int):=by omega
        have Fw:(ſ D:Int)<(al:Int):=by omega
        have U:Hid (∀R,R=ab (cK (ae x.tx) (cI ws[q]))->ir b (Ç ↑(y,oa)) V ws M (q+1) Æ (D++[[⟨9,R,0⟩]]) (À go al N) ((wr.setCell (go,ſ D) (À wr.heap.size 1 1)).alloc (Â #[Ä Å 9,Ã R,Ä Å 0] 81))/\(D++[[(⟨9,R,0⟩:Td)]]).length=al):=λR hR=>by
         have J:gg true (D++[[x]]) (cI ws[q])=D++[[⟨9,R,0⟩]]:=by
          show(D++[[x]]).dropLast++[[gL (cK (iF (D++[[x]])) (cI ws[q]))]]=_
          have e:iF (D++[[x]])=ae x.tx:=by simp[iF]
          rw[e,hR];simp[gL]
         have h2:=Ar.o go N al ((wr.alloc (Â #[Ä Å 9,Ã R,Ä Å 0] 81)).setCell (go,ſ D) (À wr.heap.size 1 1));rw[J]at h2;have L:Ï (b+1) wr ((wr.alloc (Â #[Ä Å 9,Ã R,Ä Å 0] 81)).setCell (go,ſ D) (À wr.heap.size 1 1)):=(Zb.alloc (by omega) _).setCell (p:=(go,ſ D)) Ex _;have h3:bR (b+1) (À go al N) (D++[[x]]) (wr.alloc (Â #[Ä Å 9,Ã R,Ä Å 0] 81)):=Ba.o.kept λk _ h4=>((Below.refl wr.heap.size wr).alloc Zl _).block k h4
         obtain⟨h5,h6⟩:=h2 (h3.last ((au.one wr ⟨9,R,0⟩).down (by omega))) (Bw.o.keepB L (by omega)) (Cv.o.trans (ak.of (L.mono (by rw[Bc.o];exact Ò _))));rw[World.setCell_alloc_past _ _ _ _ Dd]at h5;exact⟨h5,h6.symm⟩
        have C9:(ab (cI ws[q])).size=(cI ws[q]).length:=cg _;have A2:(ae x.tx).length=x.tx.size:=aw _;have Fd:ab (ae x.tx)=x.tx:=rfl;have HY:Hid (cI ws[q]≠[]/\ae x.tx≠[]->x.tx++(⟨#[32]⟩:ByteArray)++ab (cI ws[q])=ab (cK (ae x.tx) (cI ws[q]))):=λh=>BH h
        have HN:Hid (¬(cI ws[q]≠[]/\ae x.tx≠[])->x.tx++ab (cI ws[q])=ab (cK (ae x.tx) (cI ws[q]))):=λh=>vz h
        clear Ba Ar hT A0 Fd;have Fm:x.tx.size<=4000000000:=by omega
        by_cases Ax:ae x.tx=[]
        .have Fc:¬(0:Int)<(x.tx.size:Int):=by rw[<-A2,Ax];simp
         have HE:=(show Hid (_=_)from HN.o λh=>h.2 Ax);clear HY HN Ax C9 A2;generalize ab (cK (ae x.tx) (cI ws[q]))=RR at HE U;generalize ab (cI ws[q])=TX at *;have C:=aa (U.o _ HE.o);clear U;go_wp2
         go_roundw
         case rel=>exact⟨q+1,Æ,_,Ç ↑go,N,by rw[C.o.2,Bi],by rw[C.o.2];exact C.o.1⟩
         case measure=>rw[C.o.1.rd.at_eq,C.o.1.rd.nb_eq,I.o.rd.at_eq,I.o.rd.nb_eq];simp;omega
        .have Fc:(0:Int)<(x.tx.size:Int):=by
          have:=Ü.2 Ax
          omega
         by_cases Bn:cI ws[q]=[]
         .have Dg:=uB Bn;have HE:=(show Hid (_=_)from HN.o λh=>h.1 Bn);clear HY HN Ax C9 A2 Bn;generalize ab (cK (ae x.tx) (cI ws[q]))=RR at HE U;generalize ab (cI ws[q])=TX at *;have C:=aa (U.o _ HE.o);clear U;go_wp2
          go_roundw
          case rel=>exact⟨q+1,Æ,_,Ç ↑go,N,by rw[C.o.2,Bi],by rw[C.o.2];exact C.o.1⟩
          case measure=>rw[C.o.1.rd.at_eq,C.o.1.rd.nb_eq,I.o.rd.at_eq,I.o.rd.nb_eq];simp;omega
         .have Dg:=xe Bn;have HE:=(show Hid (_=_)from HY.o ⟨Bn,Ax⟩);clear HY HN Ax C9 A2 Bn;generalize ab (cK (ae x.tx) (cI ws[q]))=RR at HE U;generalize ab (cI ws[q])=TX at *;have C:=aa (U.o _ HE.o);clear U;go_wp2
          go_roundw
          case rel=>exact⟨q+1,Æ,_,Ç ↑go,N,by rw[C.o.2,Bi],by rw[C.o.2];exact C.o.1⟩
          case measure=>rw[C.o.1.rd.at_eq,C.o.1.rd.nb_eq,I.o.rd.at_eq,I.o.rd.nb_eq];simp;omega
    .have Cr:¬X[0]=35:=λe=>Be ((Cn Em).symm.trans e)
     have Fa:¬X[0].toNat=35:=λe=>Cr (UInt8.toNat_inj.1 e)
     have Fb:¬(X[0].toNat:Int)=35:=by omega
     have Bo:Hid (¬ws[q].headD 0=35):=Be;have Ce:Hid (ws.drop q=ws[q]::ws.drop (q+1)):=Î Ag
     have A7:Hid (Cp 32 #[Ø b,Ã ⟨#[108,101,116]⟩] (wr.alloc (Â #[Ä Å 8,Ã ⟨#[]⟩,Ä Å 0] 81)) λe a=>e=Ê (Ý (!Æ&&(ws[q]?==Ç dH)))/\Rd a b (Ç ↑(y,oa)) V ws q Æ/\ak wr b wr a/\au wr (À wr.heap.size 1 1) [du] a/\wr.heap.size<a.heap.size):=by
      have J:Ï wr wr (wr.alloc (Â #[Ä Å 8,Ã ⟨#[]⟩,Ä Å 0] 81)):= Zb.alloc Zl _;refine(oW (I.o.rd.keep J) dH).mono ?_;rintro e w'⟨rfl,q',rfl⟩;have h2:Ï (wr.alloc (Â #[Ä Å 8,Ã ⟨#[]⟩,Ä Å 0] 81)).heap.size (wr.alloc (Â #[Ä Å 8,Ã ⟨#[]⟩,Ä Å 0] 81)) ((wr.alloc (Â #[Ä Å 8,Ã ⟨#[]⟩,Ä Å 0] 81)).drewN q'):=aP Zb q';refine⟨rfl,(I.o.rd.keep J).keep h2,ak.of (J.trans (h2.mono (by rw[Á];omega))),(au.one wr du).kept λg _ h3=>h2.block g h3,?_⟩;show wr.heap.size<(wr.alloc _).heap.size;rw[Á];omega
     clear hX Cn Be Bj Dh Di;cases Aa:(!Æ&&(ws[q]?==Ç dH))with
     | false=>
      rw[Aa]at A7
      have Ak:ws[q]≠dH:=λe=>by
       rw[Ð Ag,e]at Aa;exact absurd Aa (by decide)
      have Cg:Hid (∀{w3 w4 w7:Þ}{r:Rs}{ns:List Td}{v4 v7:Value},gq b (Ç ↑(y,oa)) V ws (.level 0) q w3 r ns v4 w4->Rd w7 b (Ç ↑(y,oa)) V ws (dy ws (ſ ws-ſ r.rest) r.isBad [59]) (dx ws (ſ ws-ſ r.rest) r.isBad [59])->bR (b+1) v7 (B++[du::ns]) w7->ak M b M w7->_):=λJ h2 h3 h4=>ID I.o Zl B9 (by decide) J
       (λu h=>by rw[Ce.o]at h⊢;exact .doB Bo.o Ak h) (λm ms u h h5=>by rw[Ce.o]at h⊢;exact .doX Bo.o Ak h h5) (λm ms u r h h5=>by rw[Ce.o]at h⊢;exact .doO Bo.o Ak h h5) h2 h3 h4
      clear Aa Ak;go_wp2_with fail;refine A7.o.mono ?_;rintro e l⟨rfl,z,Bg,Cj,Bm⟩;have A8:Hid (Cp 35 #[Ø b,Ä Å 0] l λe a=>∃r c d N,e=Ê (À d (ſ c) N)/\gq b (Ç ↑(y,oa)) V ws (.level 0) q l r c (À d (ſ c) N) a):=CO hl B0.o B9 l z;have Ab:Hid (ak wr b wr l):=Bg;have Bd:Hid (au wr (À wr.heap.size 1 1) [du] l):=Cj;clear z Bg Cj A7;go_wp2_with fail;refine A8.o.mono ?_;rintro e w4⟨r4,G,A4,c4,rfl,H⟩;have Cz:Hid (gq b (Ç ↑(y,oa)) V ws (.level 0) q l r4 G (À A4 (ſ G) c4) w4):=H;have Ev:b<w4.heap.size:=H.rd.row.lt;have B1:Hid (Cp 34 #[Ø b,Ã ⟨#[59]⟩] w4 λe a=>(∃v,e=Ê v)/\Rd a b (Ç ↑(y,oa)) V ws (dy ws (ſ ws-ſ r4.rest) r4.isBad [59]) (dx ws (ſ ws-ſ r4.rest) r4.isBad [59])/\ak w4 b w4 a):=p6 H.rd hl (by omega) [59];have B7:=H.n;rw[dE (by omega)]at B7;have E7:=H.bt.size;have Ct:Hid (ak wr b wr w4):=Ab.o.trans (H.bt.mono (by omega));have By:Hid (au wr (À wr.heap.size 1 1) [du] w4):=Bd.o.but H.bt B4;have Bv:Hid (au l (À A4 (ſ G) c4) G w4):=H.o;have Bt:Hid (A4=Ô->ſ G=0/\c4=0):=H.o.none.2;generalize Ak:ſ G=n4 at B7 Bt;have Ai:Hid (ſ G=n4):=Ak;clear H Ak A8;go_wp2_with fail;refine B1.o.mono ?_;rintro e w5⟨⟨vv,rfl⟩,B2,Ad⟩;have E8:=Ad.size;have Bz:Hid (au wr (À wr.heap.size 1 1) [du] w5):=By.o.but Ad B4;have Cw:Hid (aG w5 A4 G):=(Bv.o.but Ad (by omega)).tds;have Cu:Hid (ak wr b wr w5):=Ct.o.trans (Ad.mono (by omega));have C4:Hid (Rd w5 b (Ç ↑(y,oa)) V ws (dy ws (ſ ws-ſ r4.rest) r4.isBad [59]) (dx ws (ſ ws-ſ r4.rest) r4.isBad [59])):=B2;clear Ad B2 B1 By Bv Bd;go_wp2_with(at_builtin;refine jf rfl _ _ rfl wr.heap.size _ [du] rfl Bz.o A4 n4 G Ai.o c4 rfl Cw.o Bt.o (1+n4) rfl (by omega) (by omega) ?_);intro A6 c6 O Q c;have a:Ï wr w5 O:= Zb.grown c (by omega) (λa b=>(World.ownsRow.lt Bz.o a b).1);have Cl:=a.size;obtain⟨g6,eg⟩:=tE Q;subst eg;have Bq:Hid (ak wr b wr O):=Cu.o.trans (ak.of a)
      have At:bR (b+1) (À d al N) B O:=by
       have h8:=I.o.o.but Bq.o (by omega);rw[Ah.o]at h8;exact h8
      have C2:Hid (bR (b+1) (À d al N) B O):=At;obtain⟨n1,n2,n3⟩:=sa At (Q.down (show b+1<=wr.heap.size by omega));have N1:=(show Hid (bR (b+1) (À d al N) B (O.alloc (Â #[À g6 (1+n4) c6] 82)))from n1);have N2:=(show Hid (au (b+1) (À g6 (1+n4) c6) (du::G) (O.alloc (Â #[À g6 (1+n4) c6] 82)))from n2);have N3:=(show Hid ((O.alloc (Â #[À g6 (1+n4) c6] 82)).cell? O.heap.size=Ç (À g6 (1+n4) c6))from n3)
      have C0:Hid ((du::G).length=1+n4):=by
       show _=_;rw[Õ,Ai.o];omega
      have Bp:Hid (Ï wr w5 O):=a;clear Q c At n1 n2 n3 a;go_wp2_with(at_builtin;refine rO rfl _ _ rfl (b+1) _ B rfl N1.o O.heap.size g6 (1+n4) c6 (du::G) C0.o rfl N3.o N2.o (al+1) (by rw[Ah.o]) (by omega) (by simp only[Á];omega) ?_);intro A9 c9 w9 f Ae;have L:Ï (b+1) O w9:=(Zb.alloc (by omega) _).grown Ae (by simp only[Á];omega) (λa b=>C2.o.own_le b);have Ao:Ï (b+1) w5 w9:=(Bp.o.mono (by omega)).trans L;have Ap:ak M b M w9:=(I.o.bt.trans (Bq.o.mono Cm)).trans (ak.of (L.mono (by rw[Bc.o];exact Ò _)));obtain⟨Ac,B6⟩:=Cg.o Cz.o (C4.o.keepB Ao (by omega)) f Ap;have B5:=f.cell.1;have C:=aa Ac;have C1:=aa B6;have Bs:=(show Hid (_=_)from B5);clear f Ae L Ao Ap Ac B6 B5;go_wp2
      go_roundw
      case rel=>exact⟨_,_,_,A9,c9,by rw[<-Bs.o],by rw[<-Bs.o];exact C.o⟩
      case measure=>rw[C.o.rd.at_eq,C.o.rd.nb_eq,I.o.rd.at_eq,I.o.rd.nb_eq];exact C1.o
     | true=>
      rw[Aa]at A7
      have Eb:ws[q]=dH:=by
       rw[Ð Ag]at Aa;simpa using Aa
      have A5:Hid (ws.drop q=dH::ws.drop (q+1)):=by
       show _=_;rw[Ce.o,Eb]
      clear Aa Eb;go_wp2_with fail;refine A7.o.mono ?_;rintro e l⟨rfl,z,Bg,Cj,Bm⟩;have e1:=z.c1;have e2:=z.c2;have g1:l.frozen? (b,1)=false:=z.row.frozen;have g2:l.frozen? ↑(b,2)=false:=z.row.frozen;have An:b<l.heap.size:=z.row.lt
      have Ew:y≠b:=by
       have:=z.lt y oa rfl
       omega
      have Ee:((q+1:Nat):Int)=(q:Int)+1:=by omega
      have D3:Rd (l.setCell ↑(b,1) ↑((q:Int)+1)) b (Ç ↑(y,oa)) V ws (q+1) false:=by
       have J:=z.setAt (q+1);rw[Ee]at J;exact J
      have D7:ak M b M (l.setCell ↑(b,1) ↑((q:Int)+1)):=(I.o.bt.trans (Bg.mono Cm)).setCell (p:=↑(b,1)) (.inl rfl) _;have Ch:Hid (ak M b M ((l.setCell ⟨b,1,Ô⟩ (Ä Å ((q:Int)+1))).setCell ⟨b,2,Ô⟩ (Ý true))):=D7.setCell (p:=⟨b,2,Ô⟩) (.inl rfl) _;have Dq:=(show Hid (Rd (l.setCell ↑(b,1) ↑((q:Int)+1)) b (Ç ↑(y,oa)) V ws (q+1) Æ)from D3);have Ab:Hid (ak wr b wr l):=Bg;have Do:=(show Hid (Rd l b (Ç ↑(y,oa)) V ws q Æ)from z);clear Bg Cj A7 D3 D7 z;by_cases Bl:q+1<ſ ws
      .have Ef:(q:Int)+1<(ſ ws:Int):=by omega
       obtain⟨Du,Eo,ea,Fi,dn⟩:=Do.o.wd (q+1) (by rw[É];exact Bl);simp only[Ë,Ñ,and_true]at ea;obtain⟨rfl,rfl⟩:=ea;rw[È]at dn;have Br:Hid (ws.drop (q+1)=ws[q+1]::ws.drop (q+2)):=Î Bl;have As:Hid (∀a,Cp 33 #[Ã (ab ws[q+1])] a λe b=>e=Ê (Ý (bb ws[q+1]))/\a=b):=λw'=>iV _ w'
       cases Au:bb ws[q+1]with
       | false=>
        rw[Au]at As;have Bb:Hid (PG Æ [] ws (.bad (ws.drop (q+1)))):=I.o.ok rfl _ (by rw[A5.o];exact .letN (λw h=>by rw[Br.o]at h;cases h;exact Au));clear Au;generalize ab ws[q+1]=X1 at dn As;go_wp2_with fail;refine an (As.o _) ?_;have Am:=Ay.o (q+1) (by omega) Bb.o;have Aj:=aa Am;clear Am;obtain⟨bp,op,rfl,Dc⟩:=Az.o _ Ch.o (q+1) Bl
        generalize(((pl[q+1]?).getD s.size:Nat):Int)=K at Aj Dc
        go_wp2_with fail
        go_quiet (fail)
        go_wp2;refine Ì (v:=Ù #[À Ô 0 0,K,Ä Å 5]) (by simp[Û,Tryz.results17,go_sem]) rfl ?_;exact ol Aj.o (aP (Cc.o _ Ch.o) _)
       | true=>
        rw[Au]at As;have Cq:(ab ws[q+1]).size<=8:=wV Au;generalize D8:ab ws[q+1]=X1 at dn As Cq
        have Ep:Hid (iT ws[q+1]=⟨7,X1,0⟩):=by
         show _=_;rw[<-D8];rfl
        have Cf:Hid (bb ws[q+1]=true):=Au;clear Au D8;go_wp2_with fail;refine an (As.o _) ?_;go_wp2_with fail
        have Dt:Hid (Cp 34 #[Ø ↑b,Ã ⟨#[61]⟩] (((l.setCell ↑(b,1) ↑((q:Int)+1)).setCell ↑(b,1) ↑((q:Int)+1+1)).alloc (Â #[Ä Å 7,Ã X1,Ä Å 0] 81)) λe a=>(∃v,e=Ê v)/\Rd a b (Ç ↑(y,oa)) V ws (dy ws (q+2) Æ [61]) (dx ws (q+2) Æ [61])/\ak wr b wr a/\au wr (À ↑l.heap.size 1 1) [⟨7,X1,0⟩] a/\wr.heap.size<a.heap.size):=by
         have J:=Dq.o.setAt (q+2);rw[show((q+2:Nat):Int)=(q:Int)+1+1 by omega]at J;have Dv:ak wr b wr ((l.setCell ↑(b,1) ↑((q:Int)+1)).setCell ↑(b,1) ↑((q:Int)+1+1)):=(Ab.o.setCell (p:=↑(b,1)) (.inl rfl) _).setCell (p:=↑(b,1)) (.inl rfl) _;have Ei:((l.setCell ↑(b,1) ↑((q:Int)+1)).setCell ↑(b,1) ↑((q:Int)+1+1)).heap.size=l.heap.size:=by rw[Ó,Ó]
         generalize(l.setCell ↑(b,1) ↑((q:Int)+1)).setCell ↑(b,1) ↑((q:Int)+1+1)=S at J Dv Ei⊢
         have h3:=J.keep (Zb.alloc Zl (Â #[Ä Å 7,Ã X1,Ä Å 0] 81));have h4:ak wr b wr (S.alloc (Â #[Ä Å 7,Ã X1,Ä Å 0] 81)):=Dv.alloc (by omega) _;have h5:=au.one S ⟨7,X1,0⟩;rw[Ei]at h5;refine(p6 h3 hl (by omega) [61]).mono ?_;rintro e w'⟨hv,hR,hB⟩;have E9:=hB.size;rw[Á]at E9;exact⟨hv,hR,h4.trans (hB.mono (by rw[Á];omega)),(h5.but hB An).down (by omega),by omega⟩
        have Fn:=(show Hid (ir b (Ç ↑(y,oa)) V ws M q Æ B (À d (ſ B) N) wr)from I.o);refine Dt.o.mono ?_;rintro e O⟨⟨F1,rfl⟩,Bh,Dy,D4,Cl⟩;clear e1 e2 g1 g2 An Ew dn Dq Ch Ab Do As Dt Bm;have Bm:=Cl;have Ab:Hid (ak wr b wr O):=Dy;have Bd:Hid (au wr (À l.heap.size 1 1) [⟨7,X1,0⟩] O):=D4;clear Dy D4 Cl;generalize l.heap.size=gx at Bd⊢;by_cases Bf:ws[q+2]?=Ç ([61]:Wd)
        case' pos=>
         obtain⟨a1,a2⟩:=BD Bf;rw[a1,a2]at Bh;obtain⟨E4,Dw⟩:=List.getElem?_eq_some_iff.1 Bf
         have Cd:Hid (ws.drop q=dH::ws[q+1]::[61]::ws.drop (q+3)):=by
          show _=_;rw[A5.o,Br.o,Î E4,Dw]
         have Cg:Hid (∀{w3 w4 w7:Þ}{r:Rs}{ns:List Td}{v4 v7:Value},gq b (Ç ↑(y,oa)) V ws (.level 0) (q+3) w3 r ns v4 w4->Rd w7 b (Ç ↑(y,oa)) V ws (dy ws (ſ ws-ſ r.rest) r.isBad [59]) (dx ws (ſ ws-ſ r.rest) r.isBad [59])->bR (b+1) v7 (B++[⟨7,X1,0⟩::ns]) w7->ak M b M w7->_):=λJ h2 h3 h4=>ID I.o (show q<=q+3 by omega) (show q+3<=ſ ws by omega) Cq J
          (λu h=>by rw[Cd.o];exact .letB Cf.o h) (λm ms u h h5=>by rw[Cd.o];exact .letX Cf.o h h5) (λm ms u r h h5=>by rw[Cd.o];exact .letO Cf.o h (by rw[Ep.o];exact h5)) h2 h3 h4
         have A8:Hid (Cp 35 #[Ø b,Ä Å 0] O λe a=>∃r c d N,e=Ê (À d (ſ c) N)/\gq b (Ç ↑(y,oa)) V ws (.level 0) (q+3) O r c (À d (ſ c) N) a):=CO hl B0.o (by omega) O Bh;clear Bh a1 a2 Bf Dw A5 Br Cd
        case' neg=>
         obtain⟨a1,a2⟩:=Ha Bf;rw[a1,a2]at Bh
         have Bb:Hid (PG (fP ws q) B (ws.drop q) (.bad (ws.drop (q+2)))):=by
          show PG _ _ _ _;rw[A5.o,Br.o];exact .letE Cf.o (by rw[mF];exact Bf)
         have Cg:Hid (∀{w3 w4 w7:Þ}{r:Rs}{ns:List Td}{v4 v7:Value},wh b (Ç ↑(y,oa)) V ws (q+2) w3 r ns v4 w4->Rd w7 b (Ç ↑(y,oa)) V ws (dy ws (ſ ws-ſ r.rest) r.isBad [59]) (dx ws (ſ ws-ſ r.rest) r.isBad [59])->bR (b+1) v7 (B++[⟨7,X1,0⟩::ns]) w7->ak M b M w7->_):=λJ h2 h3 h4=>MI I.o (show q<q+2 by omega) (show q+2<=ſ ws by omega) J Bb.o h2 h3 h4
         have A8:Hid (Cp 35 #[Ø b,Ä Å 0] O λe a=>∃r c d N,e=Ê (À d (ſ c) N)/\wh b (Ç ↑(y,oa)) V ws (q+2) O r c (À d (ſ c) N) a):=by
          refine(JE Bh).mono ?_;rintro e w'⟨rfl,hR,hB⟩;refine⟨.bad (ws.drop (q+2)),[],Ô,0,rfl,⟨au.nil _ _,?_,?_,hB,rfl,rfl⟩⟩
          .show 0+(ws.drop (q+2)).length<=_;omega
          .show Rd w' b _ V ws (ſ ws-(ws.drop (q+2)).length) true;rw[dE (by omega),show (ſ ws)-(ſ ws-(q+2))=q+2 by omega];exact hR
         clear Bh a1 a2 Bf A5 Br Bb
        all_goals
         go_wp2_with fail;refine A8.o.mono ?_;rintro e w4⟨r4,G,A4,c4,rfl,H⟩;have Cz:=aa H;have Ev:b<w4.heap.size:=H.rd.row.lt;have B1:Hid (Cp 34 #[Ø b,Ã ⟨#[59]⟩] w4 λe a=>(∃v,e=Ê v)/\Rd a b (Ç ↑(y,oa)) V ws (dy ws (ſ ws-ſ r4.rest) r4.isBad [59]) (dx ws (ſ ws-ſ r4.rest) r4.isBad [59])/\ak w4 b w4 a):=p6 H.rd hl (by omega) [59];have B7:=H.n;rw[dE (by omega)]at B7;have E7:=H.bt.size;have Ct:Hid (ak wr b wr w4):=Ab.o.trans (H.bt.mono (by omega));have By:Hid (au wr (À gx 1 1) [(⟨7,X1,0⟩:Td)] w4):=Bd.o.but H.bt B4;have Bv:Hid (au O (À A4 (ſ G) c4) G w4):=H.o;have Bt:Hid (A4=Ô->ſ G=0/\c4=0):=H.o.none.2;generalize Ak:ſ G=n4 at B7 Bt;have Ai:Hid (ſ G=n4):=Ak;clear H Ak A8;go_wp2_with fail;refine B1.o.mono ?_;rintro e w5⟨⟨vv,rfl⟩,B2,Ad⟩;have E8:=Ad.size;have Bz:Hid (au wr (À gx 1 1) [(⟨7,X1,0⟩:Td)] w5):=By.o.but Ad B4;have Cw:Hid (aG w5 A4 G):=(Bv.o.but Ad (by omega)).tds;have Cu:Hid (ak wr b wr w5):=Ct.o.trans (Ad.mono (by omega));have C4:Hid (Rd w5 b (Ç ↑(y,oa)) V ws (dy ws (ſ ws-ſ r4.rest) r4.isBad [59]) (dx ws (ſ ws-ſ r4.rest) r4.isBad [59])):=B2;clear Ad B2 B1 By Bv Bd;go_wp2_with(at_builtin;refine jf rfl _ _ rfl wr.heap.size _ [(⟨7,X1,0⟩:Td)] rfl Bz.o A4 n4 G Ai.o c4 rfl Cw.o Bt.o (1+n4) rfl (by omega) (by omega) ?_);intro A6 c6 O Q c;have a:Ï wr w5 O:= Zb.grown c (by omega) (λa b=>(World.ownsRow.lt Bz.o a b).1);have Cl:=a.size;obtain⟨g6,eg⟩:=tE Q;subst eg;have Bq:Hid (ak wr b wr O):=Cu.o.trans (ak.of a)
         have At:bR (b+1) (À d al N) B O:=by
          have h8:=I.o.o.but Bq.o (by omega);rw[Ah.o]at h8;exact h8
         have C2:Hid (bR (b+1) (À d al N) B O):=At;obtain⟨n1,n2,n3⟩:=sa At (Q.down (show b+1<=wr.heap.size by omega));have N1:=(show Hid (bR (b+1) (À d al N) B (O.alloc (Â #[À g6 (1+n4) c6] 82)))from n1);have N2:=(show Hid (au (b+1) (À g6 (1+n4) c6) ((⟨7,X1,0⟩:Td)::G) (O.alloc (Â #[À g6 (1+n4) c6] 82)))from n2);have N3:=(show Hid ((O.alloc (Â #[À g6 (1+n4) c6] 82)).cell? O.heap.size=Ç (À g6 (1+n4) c6))from n3)
         have C0:Hid (((⟨7,X1,0⟩:Td)::G).length=1+n4):=by
          show _=_;rw[Õ,Ai.o];omega
         have Bp:Hid (Ï wr w5 O):=a;clear Q c At n1 n2 n3 a;go_wp2_with(at_builtin;refine rO rfl _ _ rfl (b+1) _ B rfl N1.o O.heap.size g6 (1+n4) c6 ((⟨7,X1,0⟩:Td)::G) C0.o rfl N3.o N2.o (al+1) (by rw[Ah.o]) (by omega) (by simp only[Á];omega) ?_);intro A9 c9 w9 f Ae;have L:Ï (b+1) O w9:=(Zb.alloc (by omega) _).grown Ae (by simp only[Á];omega) (λa b=>C2.o.own_le b);have Ao:Ï (b+1) w5 w9:=(Bp.o.mono (by omega)).trans L;have Ap:ak M b M w9:=(I.o.bt.trans (Bq.o.mono Cm)).trans (ak.of (L.mono (by rw[Bc.o];exact Ò _)));obtain⟨Ac,B6⟩:=Cg.o Cz.o (C4.o.keepB Ao (by omega)) f Ap;have B5:=f.cell.1;have C:=aa Ac;have C1:=aa B6;have Bs:=(show Hid (_=_)from B5);clear f Ae L Ao Ap Ac B6 B5;go_wp2
         go_roundw
         case rel=>exact⟨_,_,_,A9,c9,by rw[<-Bs.o],by rw[<-Bs.o];exact C.o⟩
         case measure=>rw[C.o.rd.at_eq,C.o.rd.nb_eq,I.o.rd.at_eq,I.o.rd.nb_eq];exact C1.o
      .have Ef:¬(q:Int)+1<(ſ ws:Int):=by omega
       have Bb:Hid (PG Æ [] ws (.bad (ws.drop (q+1)))):=I.o.ok rfl _ (by rw[A5.o];exact .letN (λw h=>by rw[List.drop_eq_nil_of_le (by omega)]at h;cases h));have Am:=Ay.o (q+1) (by omega) Bb.o;have Aj:=aa Am;clear Am;have Av:pl[q+1]?=none:=Bu.o (q+1) (by omega);rw[Av]at Aj;go_wp2;refine Ì (v:=Ù #[À Ô 0 0,(s.size:Int),Ä Å 5]) (by simp[Û,Tryz.results17,go_sem]) rfl ?_;exact ol Aj.o (Cc.o _ Ch.o)
   .have E5:q=ſ ws:=by omega
    have E6:¬(q:Int)<(ſ ws:Int):=by omega
    have hG:PG Æ [] ws (.ok B):=I.o.ok rfl _ (by rw[E5,List.drop_length];exact .done);have HG:=aa (Dn.o B hG)
    have C3:Hid (Cb 36 #[À d al N] wr (Ù #[((aW B).1:Int),(aW B).2])):=by
     have J:=Pd B d N wr I.o.o.prg (λt ht x hx=>by have:=I.o.tx rfl t ht x hx;omega);rw[Ah.o]at J;exact J
    clear hG;generalize Fx:(aW B).2=F at C3 HG;by_cases hF:F=0
    .subst hF;have Cy:=aa (HG.o.2 rfl);clear HG;go_wp2_with fail;refine ai C3.o λl An=>?_
     have Ab:=aa An;clear An;go_wp2;refine Ì (v:=Ù #[À d al N,Ä Å 0,Ä Å 0]) (by simp[Û,Tryz.results17,go_sem]) rfl ?_;have hc:=I.o.o.cell;have hs:=A3.o.size;exact⟨B,0,0,d,N,by rw[Ah.o],Cy.o,I.o.o.prg.W Ab.o,hc.2.2.1,hc.2.1,A3.o.trans (Ab.o.mono hs)⟩
    .have Cy:=aa (HG.o.1 hF);clear HG;go_wp2_with fail;refine ai C3.o λl An=>?_
     have Ab:=aa An;clear An;go_wp2;refine Ì (v:=Ù #[À Ô 0 0,Ä Å 0,F]) (by simp[Û,Tryz.results17,go_sem]) rfl ?_;have hs:=A3.o.size;exact ol Cy.o (A3.o.trans (Ab.o.mono hs))
