import Derived.Test.YtelcnplcpboonaaGreatDoorPe45
import Derived.Test.YtelcnplcpboonaaGreatDoorPe41
open Go.Proofs.Tryz
open List renaming length->ſ
open Go.Value renaming string->À,slice->Á,pointer->Ã,int->É,tuple->Ë,nilIface->Ñ,bool->Ù,iface->Ý
open Option renaming none->Â,some->Å
open Go.Obj renaming cells->Ä
open Go.Ending renaming returned->Æ,panicked->Þ
open Go.RowKit renaming Below->Ç,intOf->ß
open Nat renaming lt_succ_self->È,zero_le->Û,le_succ->à
open Go.IntKind renaming i64->Ê
open Go.World renaming size_alloc->Ì,cell?->Î,frozen?->Ò,block_lt_of_cell?->Ö
open List renaming getElem_mem->Í,mem_of_mem_take->Ó,length_append->Ú,head?_take->Ü,head?->â
open Go.ByteArray renaming toList_eq->Ï
open Go renaming World->Ð,callsIn_wide->Ô,wpAny_ready->Õ,Calls->Ø,undef->á
namespace Go.Proofs.YtelcnplcpboonaaGreatDoor
open Go Go.RowKit Go.Maps
set_option maxRecDepth 100000
set_option maxHeartbeats 8000000
def uC(ps old:List (List Td))(n:Nat)(w:Ð)(e:Ending)(w':Ð):Prop:=Ç w w w'/\
 ((bu ps=0/\∃ov mv,e=Æ (Ë #[.agg #[É Ê (n:Int),ov,mv],É Ê (cV ps old:Nat),Ñ])/\fG w' ov mv ps n)\/
  (bu ps≠0/\e=Æ (Ë #[.agg #[É Ê 0,Á Â 0 0,.map Â],É Ê 0,aF (bu ps)])))
theorem EO(h:Array Obj)(a b):((h.push a).push b)[h.size+1]?=Å b:=by grind
theorem dr.cells{ps C n j i k}{w:Ð}{wr}(h:dr ps C n w j i k wr):∃A c,wr.cell? ⟨w,0,Â⟩=Å (É Ê (n:Int))/\wr.cell? ⟨w,1,Â⟩=Å (Á A j c)/\wr.cell? ⟨w,2,Â⟩=Å (.map (Å (w.heap.size+1)))/\(∀o,wr.frozen? ⟨w,o,Â⟩=false)/\
  wr.heap[w.heap.size]?=Å (Ä #[(n:Int),Á A j c,.map (Å (w.heap.size+1))] 91 (0,0))/\cP (w.heap.size+2) (Á A j c) ((ps.take j).map cH) wr:=by
 obtain⟨A,c,B,D⟩:=h.nx;exact⟨A,c,by simp[Î,B],by simp[Î,B],by simp[Î,B],λo=>by simp[Ò,B],B,D⟩
theorem dr.start{ps A}{n:Nat}{w:Ð}{C}(D:C.heap[w.heap.size]?=Å (Ä #[(n:Int),Á Â 0 0,.map (Å (w.heap.size+1))] 91 (0,0)))(E:C.heap[w.heap.size+1]?=Å (.map #[] 0))(G:Ç w w C):dr ps A n w 0 0 0 C:=by
 refine⟨Û _,?_,rfl,λt H=>by simp at H,⟨Â,0,D,⟨rfl,.inl ⟨rfl,rfl⟩⟩⟩,?_,G⟩
 .simp[cV]
 .have B:=dd.made w (w.alloc (.map #[] 0)) n;rw[Ì]at B;refine B.kept (E.trans ?_);exact(EO w.heap _ _).symm
theorem Jw{T}(B ps n b A c w)(hS:cq T w b B n)(hP:bP w A ps)(Aq:∀t∈ps,ag t=0)(Ao:∀t∈ps,fU t)(hl:ſ ps<=20)(ht:eo w):
  Ø prog 59 #[Ã (Å ⟨b,0,Â⟩),Á A (ſ ps) c] w λe a=>uC ps B n w e a:=by
 obtain⟨oA,oc,m,s0,s1,s2,sf,_,At⟩:=hS.cell;have R:=hS.lt;obtain⟨Bb,Ba,Ax,Q⟩:=hS;have y:=Q.ok;have Ad:=Q.w1;have Ae:=Q.w2;have HP:Hid (bP w A ps):=hP;have G:Hid (∀t∈ps,ag t=0):=Aq;have Y:Hid (∀t∈ps,fU t):=Ao;have L:Hid (∀t∈B,ag t=0):=y;have Aw:Hid (∀t∈B,bS t=0):=Q.pg;have HT:Hid (eo w):=ht;have Ag:Hid ((m=Â/\B=[])\/∃b,m=Å b/\dd w w b B n):=At;have Af:Hid (∀W,Ç w w W->W.cell? ⟨b,0,Â⟩=Å (É Ê (n:Int))/\W.cell? ⟨b,2,Â⟩=Å (.map m)):=λW h=>⟨((a9 h).1 _ _ R).trans s0,((a9 h).1 _ _ R).trans s2⟩
 have Bc:(w.alloc (Ä #[É Ê 0,Á Â 0 0,.map Â] 91)).cell? ⟨b,0,Â⟩=Å (É Ê (n:Int)):=((a9 (aC w _)).1 _ _ R).trans s0;clear hP Aq Ao y ht At Ax Q s0 s1 s2 sf Bb Ba;generalize Ap:ſ ps=np at hl⊢;have Av:Hid (ſ ps=np):=Ap;clear Ap;go_in;have A8:=@run_makeMap prog
 have Ah:Hid (dr ps B n w 0 0 0 ((w.alloc (Ä #[É Ê (n:Int),Á Â 0 0,.map (Å (w.heap.size+1))] 91)).alloc (.map #[] 0))):=by
  refine dr.start ?_ ?_ (qg w _ _)
  .show((w.heap.push _).push _)[w.heap.size]?=_
   simp[Array.getElem?_push]
  .exact EO w.heap _ _
 go_wp2_with fail;clear Bc A8
 go_loopw [5,23] (λq x wr=>∃i k:Nat,q=É Ê (k:Int)/\x=É Ê (i:Int)/\dr ps B n w i i k wr) (λ_ x _=>np-(ß x).toNat)
 case atStart=>exact⟨0,0,rfl,rfl,Ah.o⟩
 case round=>
  clear Ah;obtain⟨i,k,rfl,rfl,f⟩:=hrel;have A7:=Av.o;have Bm:=f.le;by_cases Bn:i<np
  .have A2:(i:Int)<(np:Int):=by omega
   have K:i<ſ ps:=by omega
   obtain⟨b0,o0,X,a,rfl,Ay,Aj,g,Ac⟩:=HP.o i K;have d0:=((a9 f.bl).1 _ _ Ay).trans Aj;have l:=G.o ps[i] (Í _);have HK:Hid (Cb 80 #[Á X ps[i].length a] wr (Ë #[À (cH ps[i]),Ñ])):=Ua l (Y.o _ (Í _)) X a g wr (Ac.W f.bl) (HT.o.W f.bl);have HV:Hid (dr ps B n w i i k wr):=f;have Bl:=vQ l;have Aa:Hid (aG w X ps[i]):=Ac;have H:Hid (ag ps[i]=0):=l;have Bj:Hid (cH ps[i]=cH ps[i]):=rfl;clear f Aj Ac l;go_wp2_with fail;refine ai HK.o λw3 b3=>?_
   have Z:Hid (dr ps B n w i i k w3):=HV.o.grow b3;obtain⟨A3,c3,x0,x1,r,xf,xh,xo⟩:=Z.o.cells;have Ai:=(show Hid (_=_)from xh);have Ab:Hid (cP (w.heap.size+2) (Á A3 i c3) ((ps.take i).map cH) w3):=xo;clear b3 xh xo HV HK d0 xf;go_wp2_with(at_builtin;refine uF rfl _ _ rfl (w.heap.size+2) _ ((ps.take i).map cH) rfl ?c1 (Å ⟨w3,0,Â⟩) 1 [cH ps[i]] rfl 1 rfl ?c2 (λh=>by cases h) (i+1) ?c3 ?c4 ?c5 ?_)
   case c1=>exact gN Ab.o (aC _ _)
   case c2=>
    intro j hj;have A5:j=0:=by simp at hj;exact hj
    subst A5;exact⟨w3.heap.size,0,rfl,by simp,by simp[go_sem]⟩
   case c3=>simp;omega
   case c4=>omega
   case c5=>
    have:=Z.o.sz
    simp;omega
   intro A4 c4 w4 Al An;obtain⟨Ak,d⟩:=Z.o.key K Ai.o Ab.o An (by rw[List.map_take];exact Al);have I:Hid (dr ps B n w (i+1) i k (w4.setCell ⟨w,1,Â⟩ (Á A4 (i+1) c4))):=Ak;have z1:w4.cell? ⟨w,1,Â⟩=Å (Á A3 i c3):=by simp[Î,d]
   have z2:w4.cell? ⟨w,2,Â⟩=Å (.map (Å (w.heap.size+1))):=by simp[Î,d]
   have zf:w4.frozen? ⟨w,1,Â⟩=false:=by simp[Ò,d]
   clear Ak d Al An Ai Ab Z x0 x1 r;go_wp2_with fail
   generalize(w4.setCell ⟨w,1,Â⟩ (Á A4 (i+1) c4))=w5 at I⊢
   clear z1 z2 zf
   have Bi:k<=20:=by
    have h1:=I.o.cnt;have h2:=ru ps B;omega
   by_cases hm:ps[i]∈ps.take i
   .obtain⟨A6,c6,_,E,_,_⟩:=I.o.kn.look hm H.o;have HN:Hid (dr ps B n w (i+1) (i+1) k w5):=I.o.same G.o L.o hm;clear hm;generalize ab (ce n ps[i])=S6 at E;rw[E];go_wp2;refine⟨⟨i+1,k,rfl,by go_num,HN.o.grow (aC w5 _)⟩,?_⟩;simp[ß];omega
   .have E:=I.o.kn.miss (k:=cH ps[i]) (by omega) (λu a e=>hm (by rw[<-vP (G.o u (Ó a)) H.o e];exact a));have C:Hid (dr ps B n w (i+1) i k (w5.alloc (Ä #[Á Â 0 0,À ⟨#[]⟩] 137))):=I.o.grow (aC w5 _);obtain⟨Bd,Be⟩:=Af.o _ C.o.bl;have HM:Hid (ps[i]∉ps.take i):=hm;clear I hm Bd;rw[E];go_wp2_with fail;clear E Be
    generalize(w5.alloc (Ä #[Á Â 0 0,À ⟨#[]⟩] 137))=w6 at C⊢
    by_cases s:ps[i]∈B
    .rcases Ag.o with⟨_,e0⟩|⟨mb,rfl,M⟩
     .rw[e0]at s;simp at s
     .obtain⟨A6,c6,_,E,Az,Am⟩:=(M.kept (C.o.bl.block mb M.lt)).look s H.o;have P:=(rP K G.o L.o C.o.cnt).1 (.inl s);have D:Hid (dr ps B n w (i+1) i k (w6.alloc (Ä #[Á A6 ps[i].length c6,À (ab (ce n ps[i]))] 137))):=C.o.grow (aC w6 _);obtain⟨_,_,_,_,r,_,_,_⟩:=D.o.cells;obtain⟨w8,V,U,S⟩:=D.o.kn.put (t:=ps[i]) (λu a=>G.o u (Ó a)) (by simp;omega) H.o HM.o Az Am;have Ar:bS ps[i]=0:=Aw.o _ s;have HN:Hid (dr ps B n w (i+1) (i+1) k w8):=D.o.put Ar P U S;clear P U S M Am Ar D C;generalize ab (ce n ps[i])=S6 at E V r;rw[E];go_wp2;refine⟨⟨i+1,k,rfl,by go_num,HN.o⟩,?_⟩;simp[ß];omega
    .have E:(Instr.lookup 89 (.map m) (À (cH ps[i])) true).run prog w6=.ok (Ë #[i2,Ù false]) w6:=by
      rcases Ag.o with⟨rfl,e0⟩|⟨mb,rfl,M⟩
      .exact UV w6 (by omega)
      .exact(M.kept (C.o.bl.block mb M.lt)).miss (by omega) (λu a e=>s (by rw[<-vP (L.o u a) H.o e];exact a))
     have P:=(rP K G.o L.o C.o.cnt).2 (λq=>q.elim s HM.o);have D:Hid (dr ps B n w (i+1) i k (w6.alloc (Ä #[Á Â 0 0,À ⟨#[]⟩] 137))):=C.o.grow (aC w6 _);obtain⟨As,_⟩:=Af.o _ D.o.bl;have Au:=(show Hid (_=_)from P);have Bk:w.heap.size+2<=w6.heap.size:=C.o.sz;clear P s;by_cases hp:bS ps[i]=0
     .have HL:Hid (Cp 81 #[Á X ps[i].length a,É Ê (n:Int)] (w6.alloc (Ä #[Á Â 0 0,À ⟨#[]⟩] 137)) λe b=>e=Æ (Ë #[jN X ps[i].length a (ab (ce n ps[i])),Ñ])/\Ç (w6.heap.size+1) (w6.alloc (Ä #[Á Â 0 0,À ⟨#[]⟩] 137)) b):=by
       have h1:=Km H.o (Y.o _ (Í K)) hp Ad Ae X a g (w6.alloc (Ä #[Á Â 0 0,À ⟨#[]⟩] 137)) (Aa.o.W D.o.bl) (HT.o.W D.o.bl);unfold Cb at h1;rw[Ì]at h1;exact h1
      have N:Hid (bS ps[i]=0):=hp;clear hp;rw[E];go_wp2_with fail;refine ai HL.o λw7 b7=>?_
      have O:Ç w6 w6 ((w7.setCell ⟨w6,0,Â⟩ (Á X ps[i].length a)).setCell ⟨w6,1,Â⟩ (À (ab (ce n ps[i])))):=(((aC w6 _).trans (b7.mono (à _))).setCell (p:=⟨w6,0,Â⟩) Zl _).setCell (p:=⟨w6,1,Â⟩) Zl _;have J:Hid (dr ps B n w (i+1) i k ((w7.setCell ⟨w6,0,Â⟩ (Á X ps[i].length a)).setCell ⟨w6,1,Â⟩ (À (ab (ce n ps[i]))))):=C.o.grow O;have y0:w7.cell? ⟨w6,0,Â⟩=Å (Á Â 0 0):=(b7.cell (p:=⟨w6,0,Â⟩) (È _)).trans (by simp[go_sem]);have y1:w7.cell? ⟨w6,1,Â⟩=Å (À ⟨#[]⟩):=(b7.cell (p:=⟨w6,1,Â⟩) (È _)).trans (by simp[go_sem]);have f0:w7.frozen? ⟨w6,0,Â⟩=false:=(b7.frozen (p:=⟨w6,0,Â⟩) (È _)).trans (by simp[go_sem]);have f1:w7.frozen? ⟨w6,1,Â⟩=false:=(b7.frozen (p:=⟨w6,1,Â⟩) (È _)).trans (by simp[go_sem]);obtain⟨_,_,_,_,r,_,_,_⟩:=J.o.cells;obtain⟨w8,V,U,S⟩:=J.o.kn.put (t:=ps[i]) (λu a=>G.o u (Ó a)) (by simp;omega) H.o HM.o g Aa.o;have HN:Hid (dr ps B n w (i+1) (i+1) (k+1) w8):=J.o.put N.o Au.o U S;clear U S O b7 J D C HL As E;generalize ab (ce n ps[i])=S6 at V r⊢;go_wp2;refine⟨⟨i+1,k+1,by go_num,by go_num,HN.o⟩,?_⟩;simp[ß];omega
     .have HL:Hid (Cp 81 #[Á X ps[i].length a,É Ê (n:Int)] (w6.alloc (Ä #[Á Â 0 0,À ⟨#[]⟩] 137)) λe a=>e=Æ (Ë #[i2,Ý 50 (É Ê (bS ps[i]))])/\Ç (w6.heap.size+1) (w6.alloc (Ä #[Á Â 0 0,À ⟨#[]⟩] 137)) a):=by
       have h1:=Kl H.o (Y.o _ (Í K)) hp Ad Ae X a g (w6.alloc (Ä #[Á Â 0 0,À ⟨#[]⟩] 137)) (Aa.o.W D.o.bl) (HT.o.W D.o.bl);unfold Cb at h1;rw[Ì]at h1;exact h1
      have N:Hid (bu ps≠0/\aF (bu ps)=Ý 50 (É Ê (bS ps[i]))):=by
       have hz:=D.o.z;rw[List.drop_eq_getElem_cons K,qN hp]at hz;rw[<-hz];exact⟨hp,cN hp⟩
      clear hp;rw[E];go_wp2_with fail;refine ai HL.o λw7 b7=>?_
      have O:Ç w6 w6 ((w7.setCell ⟨w6,0,Â⟩ (Á Â 0 0)).setCell ⟨w6,1,Â⟩ (À ⟨#[]⟩)):=(((aC w6 _).trans (b7.mono (à _))).setCell (p:=⟨w6,0,Â⟩) Zl _).setCell (p:=⟨w6,1,Â⟩) Zl _;have J:Hid (dr ps B n w (i+1) i k ((w7.setCell ⟨w6,0,Â⟩ (Á Â 0 0)).setCell ⟨w6,1,Â⟩ (À ⟨#[]⟩))):=C.o.grow O;have y0:w7.cell? ⟨w6,0,Â⟩=Å (Á Â 0 0):=(b7.cell (p:=⟨w6,0,Â⟩) (È _)).trans (by simp[go_sem]);have y1:w7.cell? ⟨w6,1,Â⟩=Å (À ⟨#[]⟩):=(b7.cell (p:=⟨w6,1,Â⟩) (È _)).trans (by simp[go_sem]);have f0:w7.frozen? ⟨w6,0,Â⟩=false:=(b7.frozen (p:=⟨w6,0,Â⟩) (È _)).trans (by simp[go_sem]);have f1:w7.frozen? ⟨w6,1,Â⟩=false:=(b7.frozen (p:=⟨w6,1,Â⟩) (È _)).trans (by simp[go_sem]);obtain⟨A9,c9,x0,x1,r,xf,_,_⟩:=J.o.cells;have Bf:=xf 0;have Bg:=xf 1;have Bh:=xf 2;clear O b7 D C HL As E xf;generalize bS ps[i]=z at N⊢;go_wp2_with fail;refine bodyPost_ret (v:=Ë #[.agg #[É Ê 0,Á Â 0 0,.map Â],É Ê 0,Ý 50 (É Ê z)]) (by simp[results,Tryz.results59,go_sem,x0,x1,r]) rfl ?_;exact⟨((J.o.bl.setCell (p:=⟨w,0,Â⟩) Zl _).setCell (p:=⟨w,1,Â⟩) Zl _).setCell (p:=⟨w,2,Â⟩) Zl _,.inr ⟨N.o.1,by rw[N.o.2]⟩⟩
  .have A2:¬(i:Int)<(np:Int):=by omega
   have A1:i=ſ ps:=by omega
   subst A1;obtain⟨hz,hk,A9,c9,o,q2⟩:=f.sheet G.o Y.o (by omega) Ad Ae;rw[A7]at o q2;have x0:wr.cell? ⟨w,0,Â⟩=Å (É Ê (n:Int)):=by simp[Î,o]
   have x1:wr.cell? ⟨w,1,Â⟩=Å (Á A9 np c9):=by simp[Î,o]
   have r:wr.cell? ⟨w,2,Â⟩=Å (.map (Å (w.heap.size+1))):=by simp[Î,o]
   have Bf:wr.frozen? ⟨w,0,Â⟩=false:=by simp[Ò,o]
   have Bg:wr.frozen? ⟨w,1,Â⟩=false:=by simp[Ò,o]
   have Bh:wr.frozen? ⟨w,2,Â⟩=false:=by simp[Ò,o]
   have HQ:Hid (cq 91 wr w.heap.size ps n):=⟨_,_,o,q2⟩;have HM:Hid (fG wr (Á A9 np c9) (.map (Å (w.heap.size+1))) ps n):=q2;have HB:Hid (Ç w w wr):=f.bl;have HZ:Hid (bu ps=0/\k=cV ps B):=⟨hz,hk⟩;clear f o q2 hz hk;go_wp2_with fail;refine bodyPost_ret (v:=Ë #[.agg #[É Ê (n:Int),Á A9 np c9,.map (Å (w.heap.size+1))],É Ê (k:Int),Ñ]) (by simp[results,Tryz.results59,go_sem,x0,x1,r]) rfl ?_;obtain⟨_,hx⟩:=HQ.o.put HM.o;exact⟨((HB.o.setCell (p:=⟨w,0,Â⟩) Zl _).setCell (p:=⟨w,1,Â⟩) Zl _).setCell (p:=⟨w,2,Â⟩) Zl _,.inl ⟨HZ.o.1,_,_,by rw[HZ.o.2],HM.o.apart hx HQ.o.blk⟩⟩
inductive sO (s:ByteArray) (old:List (List Td)):List (List Td)->Nat->Int->Int->Prop where
 | bad {ps k f} (hp:cJ s ps k f) (hf:f≠0):sO s old old 0 k f
 | full {ps} (hp:cJ s ps 0 0) (hf:bu ps≠0):sO s old old 0 0 (bu ps)
 | ok {ps} (hp:cJ s ps 0 0) (hf:bu ps=0):sO s old ps (cV ps old) 0 0
theorem fG.fresh(w){n}(B:10<=n)(C:n<=100):fG w (Á Â 0 0) (.map Â) [] n:=
 ⟨λt A=>by simp at A,λt A=>by simp at A,λt A=>by simp at A,by simp,B,C,⟨Â,0,rfl,ep.nil _ _ _⟩,.inl ⟨rfl,rfl⟩,λ_ _ _ _ e=>by cases e⟩
theorem cq.fresh(T)(w:Ð){n:Nat}(A:10<=n)(B:n<=100):cq T (w.alloc (Ä #[(n:Int),Á Â 0 0,.map Â] T)) w.heap.size [] n:=
 ⟨_,_,by show(w.heap.push _)[w.heap.size]?=_;simp,fG.fresh _ A B⟩
theorem Kn{n:Nat}(A:10<=n)(B:n<=100)(w:Ð):
  Ø prog 21 #[(n:Int)] w λe E=>e=Æ (Ë #[Ã w.heap.size,Ñ])/\cq 93 E w.heap.size [] n/\Ç w w E:=by
 have C:=aa (rA A B w);go_in;go_wp2_with fail;refine C.o.mono ?_;rintro e D⟨rfl,rfl⟩;go_wp2;go_ret2;exact⟨rfl,cq.fresh _ w A B,aC w _⟩
theorem RA{T B n b}(w:Ð)(C:cq T w b B n):
  Cb 64 #[Ã b] w (À (ab (aJ n B))):=by
 unfold Cb;have A:=aa (RD B n b w C);generalize ab (aJ n B)=S at A⊢;go_in;go_wp2_with fail;refine ai A.o λD b1=>?_
 go_wp2;go_ret;exact⟨rfl,b1⟩
theorem zy{T}(s C n d)(w:Ð)(hS:cq T w d C n)(ht:eo w):
  Ø prog 46 #[Ã (Å ⟨d,0,Â⟩),À s] w λe a=>∃b x k f,e=Æ (Ë #[É Ê (x:Nat),É Ê k,aF f])/\sO s C b x k f/\cq T a d b n/\am w d w a:=by
 have p:Hid (cq T w d C n):=hS;have q:Hid (eo w):=ht;have I:Hid (Cp 63 #[À s] w λe a=>∃B k f A c,e=Æ (Ë #[Á A (ſ B) c,É Ê k,aF f])/\cJ s B k f/\bP a A B/\(ſ B)<=c/\Ç w w a):=IU s w ht;clear hS ht;go_in;go_wp2_with fail;refine I.o.mono ?_;rintro e X⟨B,k,f,A,c,rfl,J,m,_,S⟩;have M:Hid (Ç w w X):=S;have H:Hid (cq T X d C n):=p.o.W S;by_cases g:f=0
 .subst g;obtain⟨rfl,_,V,G⟩:=lM J;have Z:Hid (Cp 59 #[Ã (Å ⟨d,0,Â⟩),Á A (ſ B) c] X λe a=>uC B C n X e a):=Jw C B n d A c X H.o m G (AQ J) V (q.o.W S);have P:Hid (cJ s B 0 0):=J;rw[cS];clear m S G J I;generalize (ſ B)=np at Z⊢;go_wp2_with fail;refine Z.o.mono ?_;rintro e D⟨l,r⟩;have Q:Hid (cq T D d C n):=H.o.W l;have E:Hid (Ç w w D):=aH M.o Zl l;clear l;rcases r with⟨K,t,o,rfl,U⟩|⟨K,rfl⟩
  .have HM:Hid (fG D t o B n):=U;obtain⟨Y,a,rfl,_⟩:=U.ord
   obtain⟨L,rfl⟩:∃L,o=.map L:=by
    rcases U.kn with⟨rfl,_⟩|⟨b,rfl,_⟩
    .exact⟨_,rfl⟩
    .exact⟨_,rfl⟩
   have R:Hid (cq T (D.alloc (Ä #[É Ê (n:Int),Á Y (ſ B) a,.map L] 91)) d C n):=Q.o.W (aC D _);have i:Hid (fG (D.alloc (Ä #[É Ê (n:Int),Á Y (ſ B) a,.map L] 91)) (Á Y (ſ B) a) (.map L) B n):=U.W (aC D _);have N:Hid (Ç w w (D.alloc (Ä #[É Ê (n:Int),Á Y (ſ B) a,.map L] 91))):=E.o.trans ((aC D _).mono E.o.size);have j:Hid (bu B=0):=K;obtain⟨oA,oc,om,s0,s1,s2,h,_,_⟩:=R.o.cell;have y:=h 0;have z:=h 1;have Aa:=h 2;clear U K Z h;go_wp2;go_ret3;obtain⟨u,v⟩:=R.o.put i.o;exact⟨B,_,0,0,rfl,.ok P.o j.o,u,(am.of N.o).trans (v.mono N.o.size)⟩
  .have j:Hid (bu B≠0):=K;have O:Hid (aF (bu B)=Ý 50 (É Ê (bu B))):=cN K;rw[O.o];clear K Z;go_wp2;go_ret3;exact⟨C,0,0,bu B,by rw[O.o];rfl,.full P.o j.o,Q.o.W (aC D _),am.of (E.o.trans ((aC D _).mono E.o.size))⟩
 .have O:Hid (aF f=Ý 50 (É Ê f)):=cN g;have P:Hid (cJ s B k f/\f≠0):=⟨J,g⟩;rw[O.o];clear J m S g I;generalize (ſ B)=np;go_wp2;go_ret3;exact⟨C,0,k,f,by rw[O.o];rfl,.bad P.o.1 P.o.2,H.o,am.of M.o⟩
end Go.Proofs.YtelcnplcpboonaaGreatDoor
namespace Go.Proofs.YtelcnplcpboonaaGreatDoor
open Go Go.RowKit Go.Shelf
attribute [local go_sem] Oper.semAt_some
set_option maxRecDepth 100000
set_option maxHeartbeats 4000000
theorem SL(n)(hn:5<=n){σ:Ss}(M d)(w:Ð)(hS:bG w M d σ)(hl:(aJ σ.wd σ.ps).length<=100000000):
  CallsIn Fence.wide n prog 47 #[Ã (Å ⟨M,0,Â⟩)] w λe a=>e=Æ (À (ab (gF (aJ σ.wd σ.ps))))/\Ç w w a:=by
 have h1:1<=n:=by omega
 obtain⟨T,S⟩:∃T,ab (aJ σ.wd σ.ps)=T:=⟨_,rfl⟩;have HT:Hid (ab (aJ σ.wd σ.ps)=T):=S;have i:T.size<=100000000:=by rw[<-S,cg];exact hl
 have HR:Hid (gF (aJ σ.wd σ.ps)=dV (rl (ae T))):=by
  show _=_;rw[<-S];rfl
 rw[HR.o];obtain⟨F,E⟩:∃F,F=Fence.wide:=⟨_,rfl⟩;rw[<-E];have u:∀f,F.fn f:=λf=>by rw[E];trivial
 have V:F.round=none:=by rw[E];rfl
 have C:Hid (F=Fence.wide):=E
 have q:Hid (Cp 64 #[Ã (Å ⟨d,0,Â⟩)] (w.alloc (Ä #[Ã Â,Á Â 0 0] 38)) λe a=>e=Æ (À T)/\Ç (w.alloc (Ä #[Ã Â,Á Â 0 0] 38)).heap.size (w.alloc (Ä #[Ã Â,Á Â 0 0] 38)) a):=by
  have h:=RA _ (hS.W (aC w (Ä #[Ã Â,Á Â 0 0] 38))).sh;rw[S]at h;exact h
 have s0:(w.alloc (Ä #[Ã Â,Á Â 0 0] 38)).cell? ⟨M,0,Â⟩=Å (Ã (Å ⟨d,0,Â⟩)):=(hS.W (aC w _)).cell0;have r:Hid (cT w.heap.size w.heap.size [] (w.alloc (Ä #[Ã Â,Á Â 0 0] 38))):=cT.fresh w;clear E S hS hl;refine callsIn_of_wp_marks func47 rfl (u 47) ?_ V;simp only[ntmps47,List.size_toArray,List.length_cons,List.length_nil,Nat.reduceAdd,Nat.reduceSub,Array.replicate_succ,Array.replicate_zero,List.push_toArray,List.append_toArray,List.nil_append,List.cons_append]
 gi_wp2_with (first
  | (gi_at_call 64;rw[C.o];refine(Ô.2 q.o).mono ?_;rintro e H⟨rfl,P⟩)
  | (gi_at_call 9;rw[C.o];refine(Ô.2 (JN _ _)).mono ?_;rintro e w'⟨rfl,rfl⟩))
 rename_i Q0 K0 hK0;have Z:Hid (Ç w w (H.alloc (Ä #[À T] 9))):=(ji Zb Zl P).trans ((aC H _).mono (by have:=P.size;simp at this;omega));have b:Hid (cT w.heap.size w.heap.size [] (H.alloc (Ä #[À T] 9))):=(r.o.W P).W (aC H _);have Ab:w.heap.size+1<=H.heap.size:=by have:=P.size;simpa using this
 have I:=JO n (by omega) H.heap.size T i (H.alloc (Ä #[À T] 9)) (by simp) (by rw[Lib.cell_of_heap (heap_alloc_new H _)];rfl);rw[<-C.o]at I;clear P q r s0
 refine JP V h1 (gf:=22) (lb:=#[Ã (Å ⟨H,0,Â⟩)]) rfl (u 22) (enters_of func22 (by kernel_rfl) rfl) (enc:=ke) (T:=o8 T) (N:=ny T)
  I (λ_=>rfl) (λB W=>cT w.heap.size w.heap.size (dV (eJ B)) W/\Ç w w W) ⟨b.o,Z.o⟩ ?stable
  (λx=>{tmps:=#[Ã (Å ⟨M,0,Â⟩),á,À ⟨#[]⟩,Ã (Å ⟨w,0,Â⟩),À x.1,Ã (Å ⟨M,0,Â⟩),Ã (Å ⟨M,0,Â⟩),Ã (Å ⟨M,0,Â⟩),Ã (Å ⟨d,0,Â⟩),À T,.func (.func 22) #[] #[Ã (Å ⟨H,0,Â⟩)],À x.1,á,á,á,á,á],defers:=[]}) ?assign ?body ?done
 case stable=>
  rintro s A A'⟨q1,q2⟩z U;have hz:=q2.size;refine⟨q1.ex z λk t h3=>q1.notBare (U k h3) t,q2.trans (z.W (λk hk=>?_) hz)⟩;rcases hk with rfl|rfl<;>simp<;>omega
 case assign=>
  intro l x W K Q
  gi_wp2
  exact Q
 case body=>
  rintro l B x W⟨L,J⟩hN m G;simp only[Ì]at m G;obtain⟨l1,l2⟩:=hN.len;have l3:=qK (eJ B);have Ac:=x.2
  have HE:Hid (dV (eJ (B++[x]))=dV (eJ B)++ae ((⟨#[124]⟩:ByteArray)++x.1++(⟨#[10]⟩:ByteArray))):=by
   show _=_;rw[qx,zj];simp[ae]
  generalize x.1=xs at *;have y:((⟨#[124]⟩:ByteArray)++xs++(⟨#[10]⟩:ByteArray)).size<=100000002:=by simp[ByteArray.size_append];show 1+xs.size+1<=_;omega
  have t:1<=n-1-1:=by omega
  gi_wp2_with (gi_at_call 10;rw[C.o];refine(CallsIn.inRound l (Ô.2 (Je _ L (by omega) J.size))).mono ?_;rintro e w4⟨rfl,j,X⟩)
  have O:Hid (cT w.heap.size w.heap.size (dV (eJ B)) W):=L;have g:=J.size;have a:Hid (Ç w w W):=J;refine⟨λk hk=>?_,?_,?_⟩
  .refine X.block k ?_ λU=>O.o.notBare (G k hk) U
   rcases hk with rfl|rfl<;>omega
  .rw[HE.o];exact j
  .exact a.o.trans (X.W (O.o.ge Zl) g)
 case done=>
  rintro D ys W hD p⟨L,J⟩Q;have Aa:H.heap.size+1<=D:=by simpa using hD
  have c:Hid (eJ ys=rl (ae T)):=p;apply hK0
  gi_wp2_with (gi_at_call 12;rw[C.o];refine(Ô.2 (BC L)).mono ?_;rintro e w5⟨rfl,Y⟩)
  have R:w5.heap[D]?=Å (.deferred (Å [])):=(Y.block D (Array.getElem?_eq_some_iff.1 Q).1 λU=>L.notBare (k:=D) (by intro o v;rw[Q]at v;cases v;exact .inr ⟨_,rfl⟩) U).trans Q;refine⟨by simp,.inl ⟨_,_,rfl,run_takeDeferred R,?_⟩⟩;refine⟨_,results_tmp rfl _ _ _,?_,(J.trans (Y.W (L.ge Zl) J.size)).trans (belowK_b (w:=w) Zl w5 D _ _ (by omega) R rfl rfl)⟩;rw[c.o];rfl
theorem Oa{σ:Ss}(M d)(w:Ð)(A:bG w M d σ)(B:(aJ σ.wd σ.ps).length<=100000000):
  Ø prog 47 #[Ã M] w λe C=>e=Æ (À (ab (gF (aJ σ.wd σ.ps))))/\Ç w w C:=Ô.1 (SL 5 Zl M d w A B)
end Go.Proofs.YtelcnplcpboonaaGreatDoor
namespace Go.Proofs.YtelcnplcpboonaaGreatDoor
open Go Go.RowKit Go.Maps
set_option maxRecDepth 100000
set_option maxHeartbeats 8000000
theorem PW:(prog.info? 82).map (λi=>(i.zero,i.size,i.bytes))=Å (Å (Á Â 0 0),1,24):=by kernel_rfl
theorem JT{w G rest o a}{Q:Exit->Act->Ð->Prop}(I:o.guard=Â)(s x)
  (g:o.op=.call {callee:=.builtin .append,args:=#[s,x],argTypes:=#[28,28]})
  (B v k e) (H:a.eval s=v) (E:w.ownsRow B 82 1 v k e)
  (d:Nat) (b l0 c0) (i:a.eval x=Á d 1 1) (f:w.cell? d=Å (Á b l0 c0))
  (l:k<=1000000) (C:B<=w.heap.size)
  (h:∀A c Z,Z.ownsRow B 82 1 (Á A (k+1) c) (k+1) (e++[Á b l0 c0])->w.grownBy Z v.ownBlock->wpList prog G Q rest (a.put o.dst (Á A (k+1) c)) Z):wpList prog G Q (o::rest) a w:=by
 obtain⟨V,U,K,L,M⟩:=info_parts PW;refine wpList_append_own w I s x 28 g B 82 V _ 1 24 Tryz.underlying28 U K L M rfl (by decide) v k e H E d 1 1 [Á b l0 c0] i rfl ?_ (by intro u O;simp at O;subst O;rfl) (by unfold maxLen;omega) (by omega) C ?_
 .intro j u J;cases j with
  | zero=>
   simp at J;subst J;rw[qo];exact f
  | succ j=>simp at J
 .intro W Z N S _
  obtain⟨A,D,rfl⟩:∃A D,W=Á A (k+1) D:=by
   rcases N.2 with⟨P,Y⟩|⟨X,D,R,P,_⟩
   .omega
   .exact⟨_,D,P⟩
  exact h A D Z N S
theorem SK{B}{w:Ð}{A n c M}(h:w.ownsRow B 82 1 (Á A n c) n M):n<=c/\∀j u,j<n->M[j]?=Å u->∃g,A=Å ⟨g,0,Â⟩/\g<w.heap.size/\w.cell? ⟨g,j,Â⟩=Å u:=by
 rcases h.2 with⟨D,K⟩|⟨g,J,H,D,_,G,E,_,I,C⟩
 .simp only[Value.slice.injEq]at D;obtain⟨rfl,rfl,rfl⟩:=D;exact⟨Nat.le_refl _,λj u N=>by omega⟩
 .simp only[Value.slice.injEq]at D;obtain⟨rfl,_,rfl⟩:=D;refine⟨E,λj u N L=>⟨g,rfl,(Array.getElem?_eq_some_iff.1 G).1,?_⟩⟩;rw[<-C,List.getElem?_take_of_lt (by omega)]at L;simp only[Î,G];simpa using L
structure wm(qs:List (List Td))(w:Ð)(i:Nat)(v:Value)(wr:Ð):Prop where
 le:i<=ſ qs
 row:∃hs,wr.ownsRow w.heap.size 82 1 v i hs/\∀j(hj:j<ſ qs),j<i->∃A c,hs[j]?=Å (Á A qs[j].length c)/\qs[j].length<=c/\aG w A qs[j]
 bl:Ç w w wr
theorem O7{T}(qs n b)(w:Ð)(hS:cq T w b qs n):
  Ø prog 60 #[Ã b] w λe a=>(∃A c,e=Æ (Á A (ſ qs) c)/\bP a A qs/\(ſ qs)<=c)/\Ç w w a:=by
 obtain⟨oA,oc,m,s0,s1,s2,sf,sW,u⟩:=hS.cell;have K:=hS.lt;obtain⟨_,_,_,J⟩:=hS;have M:=J.len;have U:=aa J.ok;have HW:=aa sW;have R:=aa u;have Q:Hid (∀W,Ç w w W->W.cell? (b,2)=Å (.map m)):=λW h=>((a9 h).1 _ _ K).trans s2
 have X:Hid (wm qs w 0 (Á Â 0 0) w):=⟨Û _,⟨[],⟨rfl,.inl ⟨rfl,rfl⟩⟩,λj _ h=>by omega⟩,Below.refl _ _⟩;generalize q:ſ qs=np at M s1⊢;have S:=aa q;go_in;go_wp2_with fail
 go_loopw [3,11] (λv x wr=>∃(i:Nat)(A:Option Addr)(c:Nat),v=Á A i c/\x=(i:Int)/\wm qs w i v wr) (λ_ x _=>np-(ß x).toNat)
 case atStart=>exact⟨0,Â,0,rfl,rfl,X.o⟩
 case round=>
  obtain⟨i,vA,vc,rfl,rfl,H⟩:=hrel;have Ac:=S.o;have Ab:=H.le;by_cases Ad:i<np
  .have l:(i:Int)<(np:Int):=by omega
   have E:i<ſ qs:=by omega
   obtain⟨ob,oo,rfl,r,I⟩:=HW.o i (by simpa using E);rw[List.getElem_map]at I;have d0:=((a9 H.bl).1 _ _ r).trans I;have s:=U.o qs[i] (Í _);rcases R.o with⟨_,e0⟩|⟨mb,rfl,L⟩
   .rw[e0]at E;simp at E
   .obtain⟨O,Z,p,_,f,d⟩:=(L.kept (H.bl.block mb L.lt)).look (Í E) s;have s2:=Q.o wr H.bl;have G:=aa H;have Y:Hid (qs[i].length<=Z/\aG w O qs[i]):=⟨f,d⟩;generalize ab (ce n qs[i])=S6 at p;obtain⟨hs,D,B⟩:=G.o.row;have V:=aa D;have P:=aa B;have Aa:=Ku;go_wp2_with(at_builtin;refine JT rfl _ _ rfl w.heap.size _ i hs rfl ?c1 wr.heap.size O qs[i].length Z ?cx ?c2 ?c3 ?c4 ?_)
    case cx=>rfl
    case c1=>exact gN V.o (aC _ _)
    case c2=>simp[go_sem]
    case c3=>omega
    case c4=>
     have:=G.o.bl.size
     simp;omega
    intro y c4 w4 a C
    have HN:Hid (wm qs w (i+1) (Á y (i+1) c4) w4):=by
     have hz:=C.size;rw[Ì]at hz;refine⟨by omega,⟨_,a,λj hj hji=>?_⟩,G.o.bl.trans ⟨C.os,C.tape,C.output,by omega,λx hx=>?_⟩⟩
     .have z:=V.o.1;rw[Nat.mul_one]at z;by_cases e:j<i
      .obtain⟨A,c,N,t⟩:=P.o j hj e;exact⟨A,c,by rw[List.getElem?_append_left (by omega)];exact N,t⟩
      .have o:j=i:=by omega
       subst o;exact⟨O,Z,by rw[List.getElem?_append_right (by omega),z];simp,Y.o⟩
     .have Ae:=G.o.bl.size;have N:=C.block x (by rw[Ì];omega) (λe=>by have:=IC V.o e.symm;omega);exact N.trans ((aC wr _).block x (by omega))
    go_wp2;refine⟨⟨i+1,y,c4,rfl,by go_num,HN.o⟩,?_⟩;simp[ß];omega
  .have l:¬(i:Int)<(np:Int):=by omega
   have k:i=np:=by omega
   subst k;have G:=aa H;go_wp2;go_ret;obtain⟨hs,D,B⟩:=G.o.row;obtain⟨N,t⟩:=SK D;refine⟨⟨vA,vc,rfl,λj hj=>?_,N⟩,G.o.bl⟩;obtain⟨A,c,r1,r2,r3⟩:=B j hj (by omega);obtain⟨g,e,hg,hc⟩:=t j _ (by omega) r1;exact⟨g,0,A,c,e,hg,by rw[Nat.zero_add];exact hc,r2,r3.W G.o.bl⟩
end Go.Proofs.YtelcnplcpboonaaGreatDoor
namespace Go.Proofs.YtelcnplcpboonaaGreatDoor
open Go Go.RowKit
set_option maxRecDepth 100000
set_option maxHeartbeats 2000000
inductive eD (M d:Nat) (σ:Ss) (k:Kd) (K:Nat) (w:Ð):Ending->Ð->Prop where
 | ok {ans τ w'} (h:ck σ k ans τ) (hs:bG w' M d τ) (hl:ſ ans<=100000000) (ht:τ.tx.length<=σ.tx.length+K) (hx:Ex (ek M d) w w'):eD M d σ k K w (Æ (À (ab ans))) w'
 | bad {ans τ w'} (h:ck σ k ans τ) (hs:bG w' M d τ) (hl:ſ ans<=100000000) (ht:τ.tx.length<=σ.tx.length+K) (hx:Ex (ek M d) w w'):eD M d σ k K w (Þ [kU ans]) w'
theorem ri(l k):ae (l.extract 0 k)=(ae l).take k:=by
 show(l.extract 0 k).data.toList=l.data.toList.take k
 rw[Lib.extract_eq];simp
theorem T5(l)(h:0<l.size)(B:l[0]=43)(w):Cw 41 #[À l,À ⟨#[43]⟩] w (Ë #[À (l.extract 1 l.size),Ù true]):=by
 unfold Cw;refine zr l ⟨#[43]⟩ h ?_ w
 have e:ae (l.extract 0 1)=[43]:=by
  rw[ri];have A:0<(ae l).length:=by rw[aw];exact h
  rw[List.take_succ_eq_append_getElem A];show []++[l[0]]=[43];rw[B];rfl
 rw[Ï ⟨#[43]⟩];exact rR e
theorem od(l)(h:(ae l).head?≠Å 43)(w):Cw 41 #[À l,À ⟨#[43]⟩] w (Ë #[À l,Ù false]):=by
 unfold Cw;refine FJ l ⟨#[43]⟩ ?_ w;rcases Nat.eq_zero_or_pos l.size with A|A
 .exact .inl (by rw[A];decide)
 .refine .inr ⟨A,?_⟩;rw[Ï ⟨#[43]⟩];refine jh (u:=[43]) λe=>h ?_
  have B:=(ri l 1).symm.trans e
  have:=congrArg â B
  rw[Ü]at this;simpa using this
theorem T6(l)(h:(ae l).take 5=ip)(w):Cw 41 #[À l,À ⟨#[119,105,100,101,32]⟩] w (Ë #[À (l.extract 5 l.size),Ù true]):=by
 unfold Cw;have A:5<=l.size:=by
  have:=congrArg List.length h
  rw[List.length_take,aw,show (ſ ip)=5 from rfl]at this;omega
 refine zr l ⟨#[119,105,100,101,32]⟩ A ?_ w;rw[Ï ⟨#[119,105,100,101,32]⟩];exact rR ((ri l 5).trans h)
theorem pQ(l)(h:(ae l).take 5≠ip)(w):Cw 41 #[À l,À ⟨#[119,105,100,101,32]⟩] w (Ë #[À l,Ù false]):=by
 unfold Cw;refine FJ l ⟨#[119,105,100,101,32]⟩ ?_ w;rcases Nat.lt_or_ge l.size 5 with A|A
 .exact .inl A
 .refine .inr ⟨A,?_⟩;rw[Ï ⟨#[119,105,100,101,32]⟩];exact jh (u:=ip) λe=>h ((ri l 5).symm.trans e)
theorem Nz{σ:Ss}(l)(W:l.size<=3000)(h:0<l.size)(R:l[0]=43)(M d w)(P:bG w M d σ)(U:σ.tx.length<=1000000):
  Ø prog 26 #[Ã ↑M,À l] w λe V=>eD M d σ (cG (ae l)) l.size w e V:=by
 have H:=aa (zK h R)
 have B:Hid (ab σ.tx++(l.extract 1 l.size++(⟨#[10]⟩:ByteArray))=ab (σ.tx++((ae l).tail++[10]))):=by
  show _=_;have K:(⟨#[10]⟩:ByteArray)=ab [10]:=rfl;rw[zC,K,bn,bn]
 have A:Hid (bG (w.setCell (M,1) (À (ab (σ.tx++((ae l).tail++[10]))))) M d ⟨σ.tx++((ae l).tail++[10]),σ.ps,σ.wd⟩):=P.text _;have E:=aa (T5 l h R w);have J:=P.cell1;have L:=P.frozen 1
 have I:Hid ((ae l).tail.length+1=l.size):=by
  show _=_;rw[List.length_tail,aw];omega
 have D:(ab σ.tx).size<=1000000:=by rw[cg];exact U
 have C:(l.extract 1 l.size).size<=3000:=by rw[ByteArray.size_extract];omega
 rw[<-B.o]at A;generalize ab σ.tx=T at J D B A;generalize l.extract 1 l.size=X at E C B A;go_in;go_wp2_with fail;refine E.o.mono ?_;rintro e O⟨rfl,rfl⟩;go_wp2;go_ret;have G:=ck.add (σ:=σ) (ae l).tail;rw[<-H.o]at G;refine eD.ok (ans:=eI) G A.o (by decide) ?_ (Ex.at (S:=ek M d) (p:=(M,1)) (.inl rfl) _);have N:=I.o;simp only[Ú,List.length_singleton];omega
theorem Pt{σ:Ss}(M d w)(G:bG w M d σ):
  Ø prog 26 #[Ã (Å ⟨M,0,Â⟩),À ⟨#[100,114,111,112]⟩] w λe H=>eD M d σ .drop 0 w e H:=by
 have C:=aa (G.text []);have A:Hid (Cw 41 #[À ⟨#[100,114,111,112]⟩,À ⟨#[43]⟩] w (Ë #[À ⟨#[100,114,111,112]⟩,Ù false])):=od _ (by decide) w;have B:Hid (Cw 41 #[À ⟨#[100,114,111,112]⟩,À ⟨#[119,105,100,101,32]⟩] w (Ë #[À ⟨#[100,114,111,112]⟩,Ù false])):=pQ _ (by decide) w;have D:=G.cell1;have E:=G.frozen 1;generalize ab σ.tx=T at D;go_in;go_wp2_with fail;refine an A.o ?_;go_wp2_with fail;refine an B.o ?_;go_wp2;go_ret;exact eD.ok (ans:=eI) .drop C.o (by decide) (Û _) (Ex.at (S:=ek M d) (p:=(M,1)) (.inl rfl) _)
theorem NA{σ:Ss}(l)(R:cG (ae l)=.bad)(M d w)(P:bG w M d σ):
  Ø prog 26 #[Ã (Å ⟨M,0,Â⟩),À l] w λe S=>eD M d σ .bad 0 w e S:=by
 obtain⟨C,D,E,G,H,I⟩:=F5 R;have K:(l.toList==[115,101,116])=false:=jh E;have L:(l.toList==[116,101,120,116])=false:=jh G;have N:(l.toList==[108,111,111,107])=false:=jh H;have O:(l.toList==[100,114,111,112])=false:=jh I;have A:Hid (Cw 41 #[À l,À ⟨#[43]⟩] w (Ë #[À l,Ù false])):=od l C w;have B:Hid (Cw 41 #[À l,À ⟨#[119,105,100,101,32]⟩] w (Ë #[À l,Ù false])):=pQ l D w;have J:Hid (bG w M d σ):=P;clear P R C D E G H I;go_in;go_wp2_with fail;refine an A.o ?_;go_wp2_with fail;refine an B.o ?_;go_wp2;exact⟨rfl,eD.bad (ans:=jZ) .bad J.o (by decide) Zl (Ex.refl _ _)⟩
theorem bG.lines{w M d}{σ:Ss}(h:bG w M d σ):(aJ σ.wd σ.ps).length<=40000020:=by
 obtain⟨_,_,_,q⟩:=h.sh;have A:=qO σ.wd σ.ps q.ok (rT σ.ps q.pg);have B:=Nat.mul_le_mul_right 2000001 q.len;omega
theorem Pv{σ:Ss}(M d w)(U:bG w M d σ):
  Ø prog 26 #[Ã (Å ⟨M,0,Â⟩),À ⟨#[116,101,120,116]⟩] w λe V=>eD M d σ .text 0 w e V:=by
 have R:=U.lines;have B:Hid (Cw 41 #[À ⟨#[116,101,120,116]⟩,À ⟨#[43]⟩] w (Ë #[À ⟨#[116,101,120,116]⟩,Ù false])):=od _ (by decide) w;have C:Hid (Cw 41 #[À ⟨#[116,101,120,116]⟩,À ⟨#[119,105,100,101,32]⟩] w (Ë #[À ⟨#[116,101,120,116]⟩,Ù false])):=pQ _ (by decide) w;have H:=aa (Oa M d w U (by omega));have N:=aa U
 have G:(gF (aJ σ.wd σ.ps)).length<=90000000:=by
  have P:=qK (rl (aJ σ.wd σ.ps));have Q:=wS (aJ σ.wd σ.ps);have e:gF (aJ σ.wd σ.ps)=dV (rl (aJ σ.wd σ.ps)):=rfl;rw[e];omega
 have E:Hid (ab (gF (aJ σ.wd σ.ps))++(⟨#[111,107,10]⟩:ByteArray)=ab (gF (aJ σ.wd σ.ps)++eI)):=by
  show _=_;rw[show(⟨#[111,107,10]⟩:ByteArray)=ab eI from rfl,bn]
 have I:Hid ((gF (aJ σ.wd σ.ps)++eI).length<=100000000):=by
  show _<=_;rw[Ú,show (ſ eI)=3 from rfl];omega
 have O:(ab (gF (aJ σ.wd σ.ps))).size<=90000000:=by rw[cg];exact G
 have J:Hid (ck σ .text (gF (aJ σ.wd σ.ps)++eI) σ):=.text;generalize gF (aJ σ.wd σ.ps)++eI=A at E I J;generalize ab (gF (aJ σ.wd σ.ps))=D at H E O;go_in;go_wp2_with fail;refine an B.o ?_;go_wp2_with fail;refine an C.o ?_;go_wp2_with fail;refine ai H.o λX b1=>?_
 go_wp2;go_ret;have L:=eD.ok (K:=0) J.o (N.o.W b1) I.o Zl (Ex.of (S:=ek M d) b1);rw[<-E.o]at L;exact L
end Go.Proofs.YtelcnplcpboonaaGreatDoor
namespace Go.Proofs.YtelcnplcpboonaaGreatDoor
open Go Go.RowKit Go.Maps
set_option maxRecDepth 100000
set_option maxHeartbeats 4000000
inductive wq (n:Nat) (wd:Int):Nat->Int->Prop where
 | no (h:wd<10\/100<wd):wq n wd n 1
 | ok {m:Nat} (h:wd=(m:Int)) (h1:10<=m) (h2:m<=100):wq n wd m 0
theorem Np{T E n b}(w)(D:cq T w b E n):
  Cw 49 #[Ã b] w (n:Int):=by
 unfold Cw;obtain⟨A,B,m,C,_⟩:=D.cell;go_in;go_wp2;go_ret;exact⟨rfl,rfl⟩
theorem CC{T}(wd B n d)(w:Ð)(hS:cq T w d B n)(ht:eo w):
  Ø prog 43 #[Ã (Å ⟨d,0,Â⟩),É Ê wd] w λe a=>∃m f,e=Æ (aF f)/\wq n wd m f/\cq T a d B m/\am w d w a:=by
 have y:Hid (cq T w d B n):=hS;have HT:Hid (eo w):=ht;clear ht;by_cases h:wd<10\/100<wd
 .have Z:Hid (Cw 38 #[É Ê wd] w (Ý 50 (É Ê 1))):=uj h w;have u:Hid (wd<10\/100<wd):=h;clear h hS;go_in;go_wp2_with fail;refine an Z.o ?_;go_wp2;go_ret;exact⟨n,1,rfl,.no u.o,y.o,am.refl _ _ _⟩
 .obtain⟨m,rfl⟩:∃m:Nat,wd=(m:Int):=⟨wd.toNat,by omega⟩;have G:10<=m:=by omega
  have H:m<=100:=by omega
  obtain⟨_,_,_,C⟩:=hS;have q:Hid (∀t∈B,ag t=0):=C.ok;have p:Hid (∀t∈B,fU t):=C.ni;have l:Hid (bu B=0):=rT B C.pg;have V:=C.len;have Z:Hid (Cw 38 #[É Ê (m:Int)] w Ñ):=rA G H w;have E:Hid (cq T (w.alloc (Ä #[É Ê (m:Int),Á Â 0 0,.map Â] 91)) d B n):=y.o.W (aC w _);have Q:Hid (Cp 60 #[Ã (Å ⟨d,0,Â⟩)] (w.alloc (Ä #[É Ê (m:Int),Á Â 0 0,.map Â] 91)) λe a=>(∃A c,e=Æ (Á A (ſ B) c)/\bP a A B/\(ſ B)<=c)/\Ç (w.alloc (Ä #[É Ê (m:Int),Á Â 0 0,.map Â] 91)).heap.size (w.alloc (Ä #[É Ê (m:Int),Á Â 0 0,.map Â] 91)) a):=O7 B n d _ E.o;have N:Hid (cq 91 (w.alloc (Ä #[É Ê (m:Int),Á Â 0 0,.map Â] 91)) w.heap.size [] m):=cq.fresh _ w G H;have j:Hid (Ç w w (w.alloc (Ä #[É Ê (m:Int),Á Â 0 0,.map Â] 91))):=aC w _;clear C h;go_in;go_wp2_with fail;refine an Z.o ?_;go_wp2_with fail;refine Q.o.mono ?_;rintro e J⟨⟨x,z,rfl,U,_⟩,a⟩;have r:Hid (cq T J d B n):=E.o.W a;have O:Hid (cq 91 J w.heap.size [] m):=N.o.W a;have K:Hid (Ç w w J):=ji Zb Zl a;have k:Hid (Cp 59 #[Ã (Å ⟨w,0,Â⟩),Á x (ſ B) z] J λe a=>uC B [] m J e a):=Jw [] B m w.heap.size x z J O.o U q.o p.o V (HT.o.W K.o);clear a U Q N E j Z;generalize X:ſ B=no at k⊢;have P:Hid (ſ B=no):=X;clear X;go_wp2_with fail;refine k.o.mono ?_;rintro e D⟨v,h3⟩;have s:Hid (cq T D d B n):=r.o.W v;have L:Hid (Ç w w D):=aH K.o Zl v;clear v;rcases h3 with⟨_,ov,mv,rfl,S⟩|⟨hz,rfl⟩
  .obtain⟨Y,g,rfl,_⟩:=S.ord
   obtain⟨I,rfl⟩:∃I,mv=.map I:=by
    rcases S.kn with⟨rfl,_⟩|⟨b,rfl,_⟩
    .exact⟨_,rfl⟩
    .exact⟨_,rfl⟩
   rw[P.o]at S;have R:Hid (cq T (D.alloc (Ä #[É Ê (m:Int),Á Y no g,.map I] 91)) d B n):=s.o.W (aC D _);have o:Hid (fG (D.alloc (Ä #[É Ê (m:Int),Á Y no g,.map I] 91)) (Á Y no g) (.map I) B m):=S.W (aC D _);have M:Hid (Ç w w (D.alloc (Ä #[É Ê (m:Int),Á Y no g,.map I] 91))):=L.o.trans ((aC D _).mono L.o.size);obtain⟨oA,oc,om,s0,s1,s2,i,_,_⟩:=R.o.cell;have Aa:=i 0;have Ab:=i 1;have Ac:=i 2;rw[P.o];clear S k i;go_wp2;go_ret;obtain⟨q1,q2⟩:=R.o.put o.o;exact⟨m,0,rfl,.ok rfl G H,q1,(am.of M.o).trans (q2.mono M.o.size)⟩
  .exact absurd l.o hz
end Go.Proofs.YtelcnplcpboonaaGreatDoor
namespace Go.Proofs.YtelcnplcpboonaaGreatDoor
open Go Go.RowKit
set_option maxRecDepth 100000
set_option maxHeartbeats 4000000
theorem Ll{x}(h:gh x=true):aY x<=9999:=(AA h).2.2.2.2
def iu(B:Nat)(w:Ð):Prop:=∀a,Ç B w a->fo a
theorem iu.at{B w}(h:iu B w):fo w:=h w Zb
theorem iu.to{B w A}(h:iu B w)(D:Ç B w A):iu B A:=λE C=>h E (D.trans C)
theorem iu.ex{B M d w A}(h:iu B w)(E:B<=M)(G:B<=d)(C:B<=w.heap.size)(D:Ex (ek M d) w A):iu B A:=h.to (D.W (by rintro k (rfl|rfl)<;>assumption) C)
theorem Pw{σ:Ss}(l)(hl:l.size<=3000)(h:(ae l).take 5=ip)(B M d)(hM:B<=M)(hd:B<=d)(w)(z:bG w M d σ)(V:iu B w):
  Ø prog 26 #[Ã M,À l] w λe x=>eD M d σ (cG (ae l)) 0 w e x:=by
 have r:(ae l).head?≠Å 43:=by
  have:=congrArg â h
  rw[Ü]at this;have e:(ae l).head?=Å 119:=by simpa[ip]using this
  rw[e];decide
 have I:=aa (od l r w);have H:=aa (T6 l h w);have k:=aa (F6 r h);have p:=zA l 5;have S:(l.extract 5 l.size).size<=3000:=by rw[ByteArray.size_extract];omega
 generalize l.extract 5 l.size=X at H p S;rw[<-p]at k;rw[k.o];have Z:=aa z;have a:=aa V.at;have n:Hid (∀W,Ex (ek M d) w W->fo W):=λW L=>(V.ex hM hd (by have:=z.lt;omega) L).at
 have J:Hid (∀W,Ç w w W->bG W M d σ):=λW y=>Z.o.W y
 have u:=z.cell0;cases U:gh (ae X)with
 | false=>
  have N:Hid (ck σ (.wide (ae X)) jZ σ):=.wideN U;have Q:Hid (∀W,Ç w w W->Cp 44 #[À X] W λe x=>e=Þ [kU jZ]/\Ç w w x):=λW y=>(N7 X U S W (a.o.W y)).mono λe x q=>⟨q.1,aH y Zl q.2⟩
  go_in;go_wp2_with fail;refine I.o.mono ?_;rintro e G⟨rfl,rfl⟩;go_wp2_with fail;refine H.o.mono ?_;rintro e G⟨rfl,rfl⟩;go_wp2_with fail
  go_region_dies
  all_goals
   refine ai (Q.o _ (by first|exact Below.refl _ _|exact Zb.drew)) λG E=>?_
   exact⟨rfl,eD.bad N.o (Z.o.W E) (by decide) Zl (Ex.of E)⟩
 | true=>
  have v:=Ll U;have Q:Hid (∀W,Ç w w W->Cp 44 #[À X] W λe x=>e=Æ (aY (ae X):Nat)/\Ç w w x):=λW y=>(N8 X U W (a.o.W y)).mono λe x q=>⟨q.1,aH y Zl q.2⟩
  have O:=aa U;by_cases s:10<=aY (ae X)/\aY (ae X)<=100
  .have N:Hid (ck σ (.wide (ae X)) eI ⟨σ.tx,σ.ps,aY (ae X)⟩):=.wide O.o s
   have R:Hid (∀W,Ç w w W->Cp 43 #[Ã d,(aY (ae X):Nat)] W λe x=>e=Æ Ñ/\bG x M d ⟨σ.tx,σ.ps,aY (ae X)⟩/\Ex (ek M d) w x):=λW y=>by
    have Y:=Z.o.W y;refine(CC _ _ _ _ W Y.sh (a.o.W y).tabs).mono ?_;rintro e x⟨m,f,rfl,j,i,L⟩;cases j with
    | no q=>omega
    | ok q _ _=>
     obtain rfl:aY (ae X)=m:=by omega
     exact⟨rfl,Y.desk L i,(Ex.of y).trans L.ex⟩
   have P:Hid (∀W,Cw 42 #[É Ê 0,Ñ] W (Ë #[])):=λW=>AU 0 W
   generalize aY (ae X)=m at *;go_in;go_wp2_with fail;refine I.o.mono ?_;rintro e G⟨rfl,rfl⟩;go_wp2_with fail;refine H.o.mono ?_;rintro e G⟨rfl,rfl⟩;go_wp2_with fail
   go_region_with (first
    | (go_at_call 44;refine(Q.o _ ?_).mono ?_;exact Zb.drew;rintro e G⟨rfl,E⟩;have C:Hid (Ç w w G):=E;clear E;have o:=(J.o _ C.o).cell0)
    | (go_at_call 43;refine(R.o _ ?_).mono ?_;exact C.o;rintro e b⟨rfl,D,A⟩;have c:Hid (bG b M d ⟨σ.tx,σ.ps,m⟩):=D;have g:Hid (Ex (ek M d) w b):=A;clear D A)
    | (go_at_call 42;refine(P.o _).mono ?_;rintro e t⟨rfl,rfl⟩))
   all_goals
    go_wp2;go_ret;exact eD.ok (ans:=eI) N.o c.o (by decide) Zl g.o
  .have N:Hid (ck σ (.wide (ae X)) (bQ 0 1) σ):=.wideR O.o s
   have R:Hid (∀W,Ç w w W->Cp 43 #[Ã d,(aY (ae X):Nat)] W λe x=>e=Æ (aF 1)/\bG x M d σ/\Ex (ek M d) w x):=λW y=>by
    have Y:=Z.o.W y;refine(CC _ _ _ _ W Y.sh (a.o.W y).tabs).mono ?_;rintro e x⟨m,f,rfl,j,i,L⟩;cases j with
    | no q=>exact⟨rfl,Y.desk L i,(Ex.of y).trans L.ex⟩
    | ok q _ _=>omega
   have P:Hid (∀W,fo W->Cp 42 #[É Ê 0,aF 1] W λe x=>e=Þ [kU (bQ 0 1)]/\Ç W W x):=λW hr=>AR (.inl rfl) 0 (by decide) W hr
   generalize aY (ae X)=m at *;generalize aF 1=EV at R P;go_in;go_wp2_with fail;refine I.o.mono ?_;rintro e G⟨rfl,rfl⟩;go_wp2_with fail;refine H.o.mono ?_;rintro e G⟨rfl,rfl⟩;go_wp2_with fail
   go_region_dies
   .refine ai (Q.o _ (by first|exact Below.refl _ _|exact Zb.drew)) λG E=>?_
    have C:=aa E;have o:=(J.o _ E).cell0;rename_i K hK;refine hK _ _ ?_;refine Õ (rs:=[6]) (by kernel_rfl) (by simp) ?_;refine AllReady.cons rfl (λK hK=>?_) AllReady.nil
    go_simp
    refine(R.o _ C.o).mono ?_;rintro e b⟨rfl,D,A⟩;refine hK _ _ ?_;refine Õ (rs:=[7]) (by kernel_rfl) (by simp) ?_;refine AllReady.cons rfl (λK hK=>?_) AllReady.nil
    go_simp
    refine ai (P.o _ (n.o _ A)) λt b3=>?_
    exact⟨rfl,eD.bad N.o (D.W b3) (by decide) Zl (A.trans (Ex.of b3))⟩
   .refine ai (Q.o _ (by first|exact Below.refl _ _|exact Zb.drew)) λG E=>?_
    have C:=aa E;have o:=(J.o _ E).cell0;rename_i K hK;refine hK _ _ ?_;refine Õ (rs:=[3]) (by kernel_rfl) (by simp) ?_;refine AllReady.cons rfl (λK hK=>?_) AllReady.nil
    go_simp
    refine hK _ _ ?_;refine Õ (rs:=[6]) (by kernel_rfl) (by simp) ?_;refine AllReady.cons rfl (λK hK=>?_) AllReady.nil
    go_simp
    refine(R.o _ C.o).mono ?_;rintro e b⟨rfl,D,A⟩;refine hK _ _ ?_;refine Õ (rs:=[7]) (by kernel_rfl) (by simp) ?_;refine AllReady.cons rfl (λK hK=>?_) AllReady.nil
    go_simp
    refine ai (P.o _ (n.o _ A)) λt b3=>?_
    exact⟨rfl,eD.bad N.o (D.W b3) (by decide) Zl (A.trans (Ex.of b3))⟩
def Bx(w:Ð)(b:Nat)(o l:Int):Prop:=w.cell? ⟨b,0,Â⟩=Å (É Ê o)/\w.cell? ⟨b,1,Â⟩=Å (É Ê l)
theorem Bx.W{w w' b o l}(h:Bx w b o l)(A:Ç w w w'):Bx w' b o l:=
 ⟨(A.cell (p:=b) (Ö w b h.1)).trans h.1,(A.cell (p:=(b,1)) (Ö w b h.1)).trans h.2⟩
theorem Bx.new(w:Ð)(o l:Int)(T):Bx (w.alloc (Ä #[o,l] T)) w.heap.size o l:=⟨by simp[go_sem],by simp[go_sem]⟩
