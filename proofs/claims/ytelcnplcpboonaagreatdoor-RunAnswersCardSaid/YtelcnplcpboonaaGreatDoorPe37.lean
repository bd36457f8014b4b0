import Derived.Test.YtelcnplcpboonaaGreatDoorPe31
import Derived.Test.YtelcnplcpboonaaGreatDoorPe22
import Derived.Test.YtelcnplcpboonaaGreatDoorPe33
open Go.Proofs.Tryz
open List renaming length->ſ
open List renaming length_cons->À,length_take->Á,length_append->Å,append_assoc->É,length_drop->Ë,length_nil->Î,length->Ñ,nil_append->Ú,length_map->Û
open Option renaming none->Â,some->Ã
open Go.Value renaming slice->Ä,int->È,string->Ì,bool->Ø
open Go.IntKind renaming i64->Æ
open Go.RowKit.Below renaming refl->Ç
open Go.Calls renaming quiet_of_same->Ê
open Go.RowKit renaming Below->Í,intOf->Ù
open Go.Ending renaming returned->Ï
open Go renaming World->Ð,madeCells->Ó,bodyPost_ret->Õ,results_none->Ö
open Nat renaming le_refl->Ò,add_sub_cancel->Ô,lt_or_ge->Ü,zero_le->Ý
namespace Go.Proofs.YtelcnplcpboonaaGreatDoor
open Go Go.RowKit
set_option maxRecDepth 100000
set_option maxHeartbeats 4000000
theorem Qx(B b ds a cap)(hl:ſ ds<=400)(tx n A)(f:Nat->List Int->Except Int (List UInt8 × List Int))(sA fl)(hA:iI B b ds a cap A f)(hF:gB ds a cap A sA fl)(Ac:sA.size<=8800):iI B b ds a cap (⟨8,tx,n⟩::A) (kJ f sA fl):=by
 intro i r Z X wa wc s w hd hN hI I q U z;obtain⟨hi,e1,e2⟩:=fg (x:=⟨8,tx,n⟩) (r:=A++r) hd;obtain⟨b0,o0,ea,Ab,d1,d2,d3⟩:=hN i hi;subst ea;rw[e1]at d1 d2 d3;dsimp only at d1 d2 d3;simp only[À]at U z;have j:=aa e2;have l:=aa hN;have V:=aa hI;have K:=aa q;have t:=q.bsize;obtain⟨d,h1,c0,Y,c2,c3,f1,f2,f3⟩:=q;have Q:Hid (∀O:Obj,Í B w (w.alloc O)):=λO=>(Ç _ w).alloc t O
 have HA:=aa hA;have HF:=aa hF;have m:Hid (((i+1:Nat):Int)=(i:Int)+1):=(show _=_ by omega)
 match X,V,K,I,Y with
 | [],V,K,I,Y=>
  simp only[Î]at K Y;go_in;go_wp2_with fail;refine(IZ (K.o.alloc _)).mono ?_;rintro e w2⟨rfl,D,H⟩;have C:=aa D;obtain⟨_,_,_,_,_,o,_,_,_⟩:=D;go_wp2;refine Õ (Ö rfl _ _ _) rfl ?_;exact⟨rfl,⟨by decide,_,_,C.o⟩,(Q.o _).trans H⟩
 | c::X,V,K,I,Y=>
  simp only[À]at K Y I;by_cases u:c=1
  .subst u;go_in;go_wp2_with fail;refine(pP 1 X (K.o.alloc _) (V.o.W (Q.o _)) I).mono ?_;rintro e w2⟨rfl,⟨N,P,D,L,M⟩,H⟩;have C:=aa D;have S:=aa L;have E:=aa ((Q.o _).trans H);obtain⟨_,_,_,_,_,o,_,_,_⟩:=D;go_wp2_with fail;rw[<-m.o];refine(HA.o (i+1) r Z X N P s _ j.o (l.o.W E.o) S.o M C.o (by omega) (by omega)).mono ?_;rintro e g⟨rfl,y,G⟩;go_wp2;refine Õ (Ö rfl _ _ _) rfl ?_;refine⟨rfl,?_,E.o.trans G⟩;rw[kJ,if_pos rfl];exact y
  .have Aa:(c==1)=false:=by simp[u]
   have HC:=aa u;cases fl with
   | true=>
    go_in;go_wp2_with fail;refine(pP c X (K.o.alloc _) (V.o.W (Q.o _)) I).mono ?_;rintro e w2⟨rfl,⟨N,P,D,L,M⟩,H⟩;have C:=aa D;have S:=aa L;have E:=aa ((Q.o _).trans H);obtain⟨_,k1,k0,_,_,k3,_,_,_⟩:=D;go_wp2_with fail;rw[<-m.o];refine ai (HF.o (i+1) r _ j.o ((l.o.W E.o).nods C.o.bsize)) λg G=>?_
    have J:=aa (C.o.W G);have R:=aa (E.o.trans (C.o.grown G));have k:=aa (S.o.W (C.o.grown G));obtain⟨_,m1,m0,_,m2,m3,_,g2,o⟩:=J.o;go_wp2
    go_end0
    have h:∀v,Í B w (g.setCell (b,2) v):=λv=>R.o.setCell (p:=(b,2)) d _
    refine⟨rfl,?_,h _⟩;rw[kJ,if_neg HC.o,if_pos rfl];exact⟨N,P,s++sA,by simp,J.o.text _,k.o.W ((Ç B g).setCell (p:=(b,2)) d _),M⟩
   | false=>
    go_in;go_wp2_with fail;refine(pP c X (K.o.alloc _) (V.o.W (Q.o _)) I).mono ?_;rintro e w2⟨rfl,⟨N,P,D,L,M⟩,H⟩;have C:=aa D;have E:=aa ((Q.o _).trans H);obtain⟨_,k1,k0,_,_,k3,_,_,_⟩:=D;go_wp2_with fail;rw[<-m.o];refine ai (HF.o (i+1) r _ j.o ((l.o.W E.o).nods C.o.bsize)) λg G=>?_
    have J:=aa (C.o.W G);have R:=aa (E.o.trans (C.o.grown G));obtain⟨_,m1,m0,_,m2,m3,_,g2,o⟩:=J.o;go_wp2
    go_end0
    refine⟨rfl,?_,(R.o.setCell (p:=(b,3)) d _).setCell (p:=(b,2)) d _⟩;rw[kJ,if_neg HC.o,if_neg (by decide)];exact⟨by decide,_,_,(J.o.fault 4).text _⟩
structure gy(wd:Nat)(ws:List ByteArray)(bL k:Nat)(w:Ð):Prop where
 rl:fV w bL (ſ ws+1)
 cl:∀j,k<=j->j<=ſ ws->w.cell? ⟨bL,j,Â⟩=Ã (È Æ ((best wd (ws.drop j):Nat):Int))
theorem gy.kept{C:Nat}{ws:List ByteArray}{A k:Nat}{w w':Ð}(h:gy C ws A k w)(B:w'.heap[A]?=w.heap[A]?):gy C ws A k w' where
 rl:=h.rl.kept B
 cl:=λj a b=>(World.cell?_of_block (w:=w) (a:=⟨A,j,Â⟩) B).trans (h.cl j a b)
theorem gy.made(B ws)(w:Ð):gy B ws w.heap.size (ſ ws) (w.alloc (.cells (Ó #[È Æ 0] (ſ ws+1)) 3)):=by
 have A:(w.alloc (.cells (Ó #[È Æ 0] (ſ ws+1)) 3)).heap[w.heap.size]?=Ã (.cells (Ó #[È Æ 0] (ſ ws+1)) 3 (0,0)):=heap_alloc_new w _;refine⟨⟨_,_,A,size_madeCells _ _⟩,λj a b=>?_⟩;obtain rfl:j=ſ ws:=by omega
 have:best B (ws.drop (ſ ws))=0:=by rw[List.drop_length];rfl
 rw[this];simp only[World.cell?,A];exact DA _ (by omega)
def j2(g:Nat->Nat)(m:Nat):Int:=if m=0 then -1 else(dI g m:Int)
structure gT(wd:Nat)(ws:List ByteArray)(bL i m:Nat)(w:Ð):Prop where
 l:gy wd ws bL (i+1) w
 c:w.cell? ⟨bL,i,Â⟩=Ã (È Æ (j2 (dK wd (ws.drop i)) m))
theorem gT.set{D ws C i m w z}(h:gy D ws C (i+1) w)(hi:i<ſ ws)(E:z=j2 (dK D (ws.drop i)) m):gT D ws C i m (w.setCell (C,i) z):=by
 obtain⟨B,A⟩:=h.rl.cell (i:=i) (by omega);refine⟨⟨h.rl.set,λj a b=>(af (.inr (by omega))).trans (h.cl j a b)⟩,?_⟩;rw[E];exact cF A
theorem gT.kept{C:Nat}{ws:List ByteArray}{A i m:Nat}{w w':Ð}(h:gT C ws A i m w)(B:w'.heap[A]?=w.heap[A]?):gT C ws A i m w' where
 l:=h.l.kept B
 c:=(World.cell?_of_block (w:=w) (a:=⟨A,i,Â⟩) B).trans h.c
theorem gT.done{C ws D i m w}(h:gT C ws D i m w)(hi:i<ſ ws)(E:m=ſ ws-i):gy C ws D i w:=by
 have A:ws.drop i≠[]:=λe=>by
  have:=congrArg Ñ e
  rw[Ë,Î]at this;omega
 have B:=h.c;refine⟨h.l.rl,λj a b=>?_⟩;by_cases e:j=i
 .subst e;rw[qJ C A,Ë,<-E];rw[j2,if_neg (by omega)]at B;exact B
 .exact h.l.cl j (by omega) b
theorem zZ{g:Nat->Nat}{q}(A:1<=q)(h:q=1\/g q<dI g (q-1)):((g q:Nat):Int)=j2 g (q+1-1):=by
 obtain⟨m,rfl⟩:∃m,q=m+1:=⟨q-1,by omega⟩;simp only[Ô]at h⊢;rw[j2,if_neg (by omega),Gh,if_pos (by omega)]
theorem Sf{g:Nat->Nat}{q}(B:1<=q)(A:¬q=1)(h:¬g q<dI g (q-1)):j2 g (q-1)=j2 g (q+1-1):=by
 obtain⟨m,rfl⟩:∃m,q=m+1:=⟨q-1,by omega⟩;simp only[Ô]at h A⊢;rw[j2,if_neg (by omega),j2,if_neg (by omega),Gh,if_neg (by omega)]
theorem yY{ws}{B D A:Nat}{w:Ð}{wr}(H:bN w (Ã ↑(B,D)) ws)(G:dC ws)(J:A<=100)(I:Í w w wr)(i q c n)(E:1<=q)(C:i+q<=ſ ws):
  Calls prog 92 #[Ä (Ã ↑(B,D+i)) q c,A,Ø ((i:Int)+(q:Int)==(ſ ws:Int))] (wr.drewN n) λe K=>e=Ï (È Æ (bd (ln ((ws.drop i).take q)) A (q==ſ ws-i)))/\K=wr.drewN n:=by
 rw[yI C];exact(Lu q _ (rx E C).1 _ c A _ _ ((G.drop i).take q) J (bN.W ((ep.drop H i).take q) (aP I n))).mono λ_ _ h=>⟨h.1,h.2.symm⟩
theorem MN{ws}{A B:Nat}{w:Ð}{wr}(G:bN w (Ã ↑(A,B)) ws)(E:dC ws)(H:Í w w wr)(i q c)(C:1<=q)(D:i+q<=ſ ws):
  Cw 93 #[Ä (Ã ↑(A,B+i)) q c] wr (Ì (dw ((ws.drop i).take q))):=by
 unfold Cw;have:=sr ((ws.drop i).take q) (Ã ↑(A,B+i)) c wr ((E.drop i).take q) (bN.W ((ep.drop G i).take q) H)
 rw[(rx C D).1]at this;exact this
structure pd(wd:Nat)(ws:List ByteArray)(w w1:Ð)(k:Nat)(done:List ByteArray)(L:Option Addr)(lc:Nat)(wx:Ð):Prop where
 b:Í (w.heap.size+1) w1 wx
 le:k<=ſ ws
 dl:ſ done<=k
 ro:cP (w.heap.size+1) (Ä L (ſ done) lc) done wx
 li:cz wd ws=done++cz wd (ws.drop k)
theorem Nv(ws a)(cap wd:Nat)(w:Ð)(hc:ſ ws<=cap)(hF:dC ws)(hw:wd<=100)(hW:bN w a ws):
  Calls prog 67 #[Ä a (ſ ws) cap,È Æ wd] w λe a=>(∃L c,e=Ï (Ä L (cz wd ws).length c)/\cP w (Ä L (cz wd ws).length c) (cz wd ws) a)/\Í w w a:=by
 have hl:=hF.1;have HW:Hid (bN w a ws):=hW;have y:Hid (dC ws):=hF
 have Bd:∀W:Ð,(Instr.makeSlice 73 (È Æ ((ſ ws:Int)+1)) (È Æ ((ſ ws:Int)+1))).run prog W=.ok (Ä (Ã ⟨W,0,Â⟩) (ſ ws+1) (ſ ws+1)) (W.alloc (.cells (Ó #[È Æ 0] (ſ ws+1)) 3)):=λW=>by
  have:=run_make_row' 73 3 _ 8 Tryz.underlying73 lW rfl Æ Æ (ſ ws+1) (by omega) (by omega) W
  have e:((ſ ws+1:Nat):Int)=(ſ ws:Int)+1:=by omega
  rw[e]at this;exact this
 have HM:Hid (gy wd ws w.heap.size (ſ ws) (w.alloc (.cells (Ó #[È Æ 0] (ſ ws+1)) 3))):=gy.made wd ws w;clear hW hF;go_in;go_wp2
 go_loopw [7] (λi wr=>Í w w wr/\∃k:Nat,k<=ſ ws/\i=È Æ ((k:Int)-1)/\gy wd ws w.heap.size k wr) (λi _=>(Ù i+1).toNat)
 case atStart=>exact⟨(Ç _ w).alloc Zl _,ſ ws,Ò _,by go_num,HM.o⟩
 case round=>
  obtain⟨hb,k,hk,rfl,hL⟩:=hrel;have HB:Hid (Í w w wr):=hb;have d:Hid (gy wd ws w.heap.size k wr):=hL;clear hb hL;by_cases Aj:k=0
  .subst Aj;have A9:¬((0:Int)<=((0:Nat):Int)-1):=by omega
   have Ao:w.heap.size+1<=wr.heap.size:=d.o.rl.lt;generalize wr=w1 at HB d Ao;go_wp2
   go_loopw [10,11] (λl i a=>∃(k:Nat)(A:List ByteArray)(L:Option Addr)(x:Nat),i=È Æ (k:Int)/\l=Ä L (ſ A) x/\pd wd ws w w1 k A L x a) (λ_ i _=>ſ ws-(Ù i).toNat)
   case atStart=>exact⟨0,[],Â,0,rfl,rfl,{b:=Ç _ _,le:=Ý _,dl:=Ò _,ro:=World.ownsRow_nil _ _ _ _,li:=rfl}⟩
   case round=>
    obtain⟨k,A,L,x,rfl,rfl,hO⟩:=hrel;have D:Hid (pd wd ws w w1 k A L x wr):=hO;have Bb:=hO.le;have Bc:=hO.dl;have R:=hO.b;have Aq:Hid (gy wd ws w.heap.size 0 wr):=d.o.kept (R.block _ (by omega));have Aa:Hid (Í w w wr):=HB.o.trans (R.mono (by omega));have Be:=R.size;clear R hO;by_cases r:k<ſ ws
    .have U:(k:Int)<(ſ ws:Int):=by omega
     obtain⟨z,o0,ea,Av⟩:=HW.o.some (show 0<ſ ws by omega);subst ea
     have N:ws.drop k≠[]:=λe=>by
      have:=congrArg Ñ e
      rw[Ë,Î]at this;omega
     obtain⟨Aw,o⟩:=mW wd N;rw[Ë]at o;have g:=BI (dK wd (ws.drop k)) (ws.drop k).length (by rw[Ë];omega);rw[<-qJ wd N]at g;have Y:Hid (dK wd (ws.drop k) (eT wd (ws.drop k))=best wd (ws.drop k)):=g
     have E:Hid (∀q,eT wd (ws.drop k)<q->q<=ſ ws-k->dK wd (ws.drop k) q≠best wd (ws.drop k)):=λq h1 h2=>by
      rw[qJ wd N];exact BU _ _ q h1 (by rw[Ë];exact h2) (by omega)
     have Z:Hid (cz wd ws=(A++[dw ((ws.drop k).take (eT wd (ws.drop k)))])++cz wd (ws.drop (k+eT wd (ws.drop k)))):=by
      show cz wd ws=_;rw[D.o.li,mz wd N,List.drop_drop,É];rfl
     have A2:best wd (ws.drop k)<=1300000:=FA hw _ _ Zl (y.o.drop k);have Af:Hid (∀W:Ð,gy wd ws w.heap.size 0 W->W.cell? ⟨w,k,Â⟩=Ã (È Æ ((best wd (ws.drop k):Nat):Int))):=λW h=>h.cl k (Ý _) (by omega)
     generalize Au:eT wd (ws.drop k)=av at Y E Z Aw o;generalize best wd (ws.drop k)=tv at Y E Af A2;clear N g Au;go_wp2
     go_loopw [12] (λv a=>∃m q:Nat,a=wr.drewN m/\av<=q/\q<=ſ ws-k/\v=È Æ (q:Int)) (λv _=>(Ù v).toNat)
     case atStart=>exact⟨0,ſ ws-k,rfl,o,Ò _,by congr 1;omega⟩
     case round=>
      rename_i wo _;obtain⟨m,q,Q,P,Am,rfl⟩:=hrel;have At:=(show Hid (wr=_)from Q)
      have f:Hid (gy wd ws w.heap.size 0 wr):=by
       show gy _ _ _ _ _;rw[Q];exact Aq.o.kept rfl
      have C:Hid (Í w w wr):=by
       show Í _ _ _;rw[Q];exact aP Aa.o m
      have A1:w.heap.size+1<=wr.heap.size:=f.o.rl.lt
      have Ae:Hid (pd wd ws w w1 k A L x wr):=by
       show pd _ _ _ _ _ _ _ _ _;rw[Q];exact⟨aP D.o.b m,D.o.le,D.o.dl,D.o.ro,D.o.li⟩
      clear Q;have c1:=Af.o wr f.o;have V:k+q<=ſ ws:=by omega
      have A6:(k:Int)+(q:Int)<=(ſ ws:Int):=by omega
      have A0:=wZ z o0 (ſ ws) cap k q (by omega) (by omega);have H:wr.cell? ⟨w,k+q,Â⟩=Ã (È Æ ((best wd (ws.drop (k+q)):Nat):Int)):=f.o.cl (k+q) (by omega) V
      have B:Hid (∀n,Cp 92 #[Ä (Ã ⟨z,o0+k,Â⟩) q (cap-k),È Æ wd,Ø ((k:Int)+(q:Int)==(ſ ws:Int))] (wr.drewN n) λe a=>e=Ï (È Æ (bd (ln ((ws.drop k).take q)) wd (q==ſ ws-k)))/\a=wr.drewN n):=λn=>
       yY HW.o y.o hw C.o k q (cap-k) n (by omega) V
      have HJ:Hid (∀n,Cp 93 #[Ä (Ã ⟨z,o0+k,Â⟩) q (cap-k)] (wr.drewN n) λe a=>e=Ï (Ì (dw ((ws.drop k).take q)))/\wr.drewN n=a):=λn=>
       MN HW.o y.o (aP C.o n) k q (cap-k) (by omega) V
      have K:Hid (dK wd (ws.drop k) q=bd (ln ((ws.drop k).take q)) wd (q==ſ ws-k)+best wd (ws.drop (k+q))):=wH wd ws k q;have I:=wI hw (y.o.drop k) q;rw[K.o]at I;generalize bd (ln ((ws.drop k).take q)) wd (q==ſ ws-k)=bv at B K I;generalize best wd (ws.drop (k+q))=sv at H K I;by_cases S:bv+sv=tv
      .have An:q=av:=by
        rcases Ü av q with h|h
        .exact absurd (K.o.trans S) (E.o q h Am)
        .omega
       subst An;have Az:((bv:Int)+(sv:Int) != (tv:Int))=false:=by simp;omega
       generalize dw ((ws.drop k).take q)=s at HJ Z;clear S;go_wp2_with fail
       go_quiet ((go_at_call 92;exact Ê (B.o _)))
       go_wp2_with fail;refine an (HJ.o nq) ?_;have Ad:Hid (cP (w.heap.size+1) (Ä L (ſ A) x) A (wr.drewN nq)):=Ae.o.ro;have Ap:Hid (Í (w.heap.size+1) w1 (wr.drewN nq)):=aP Ae.o.b nq;obtain⟨i0,Ax,A3,A4,A5⟩:=info_parts j7;go_wp2_with(at_builtin;refine wpList_append_lies _ rfl _ _ 72 rfl (w.heap.size+1) 9 i0 _ 1 16 Tryz.underlying72 Ax A3 A4 A5 rfl (by decide) _ _ _ rfl (World.ownsRow.alloc (w:=wr.drewN nq) Ad.o _) ⟨wr,0,Â⟩ 1 1 [Ì s] rfl rfl (cell_one_new (wr.drewN nq) _ _) (by intro u hu;simp at hu;subst hu;rfl) (by decide) (by unfold maxLen;omega) (by omega) (by simp;omega) (wr.heap.size+1) (by simp) ?_);intro g2 M w3 O J Ah Al;have Ai:=(Ap.o.alloc (show w.heap.size+1<=(wr.drewN nq).heap.size from A1) (.cells #[Ì s] 9)).grown J (by simp;omega) (λj a=>(World.ownsRow.lt Ad.o j a).1)
       have Ag:cP (w.heap.size+1) (Ä (Ã ⟨g2,0,Â⟩) (A++[s]).length M) (A++[s]) w3:=by
        show w3.ownsRow _ _ _ _ _ _;rw[lB,Å];exact O
       have As:Hid (pd wd ws w w1 (k+q) (A++[s]) (Ã ⟨g2,0,Â⟩) M w3):=⟨Ai,V,by simp;omega,Ag,Z.o⟩;clear O J Ai Ag Ah Al;go_wp2
       go_roundw
       case rel=>exact⟨k+q,A++[s],Ã ⟨g2,0,Â⟩,M,by go_num,by rw[Å];rfl,As.o⟩
       case measure=>simp[Ù];omega
      .have An:av<q:=by
        rcases Ü av q with h|h
        .exact h
        .obtain rfl:q=av:=by omega
         exact absurd (K.o.symm.trans Y.o) S
       have Az:((bv:Int)+(sv:Int) != (tv:Int))=true:=by simp;omega
       clear S;go_wp2_with fail
       go_quiet ((go_at_call 92;exact Ê (B.o _)))
       go_wp2
       go_roundw
       case rel=>exact⟨m+nq,q-1,by rw[At.o,World.drewN_drewN],by omega,by omega,by congr 1;omega⟩
       case measure=>simp[Ù];omega
    .have U:¬(k:Int)<(ſ ws:Int):=by omega
     have HE:Hid (cz wd ws=A):=by
      show cz wd ws=A;rw[D.o.li,List.drop_eq_nil_of_le (by omega),lG,List.append_nil]
     go_wp2;go_ret;rw[HE.o];exact⟨⟨L,x,rfl,Joins.ownsRow_le D.o.ro (by omega)⟩,Aa.o⟩
  .obtain⟨i,rfl⟩:∃i,k=i+1:=⟨k-1,by omega⟩;have U:(((i+1:Nat):Int)-1)=(i:Int):=by omega
   rw[U];have hi:i<ſ ws:=by omega
   obtain⟨y1,e1⟩:=d.o.rl.cell (show i<ſ ws+1 by omega);have f1:wr.frozen? ⟨w,i,Â⟩=false:=d.o.rl.frozen;have Bf:w.heap.size<wr.heap.size:=d.o.rl.lt;have Ar:Hid (gT wd ws w.heap.size i 0 (wr.setCell ⟨w,i,Â⟩ (È Æ (-1)))):=gT.set d.o hi rfl;clear U Aj;go_wp2
   go_loopw [8] (λn a=>Í w w a/\∃q:Nat,1<=q/\i+q<=ſ ws+1/\n=È Æ (q:Int)/\gT wd ws w.heap.size i (q-1) a) (λn _=>(ſ ws+1-(Ù n).toNat))
   case atStart=>exact⟨HB.o.setCell (p:=⟨w,i,Â⟩) Zl _,1,by omega,by omega,by go_num,Ar.o⟩
   case round=>
    obtain⟨hb,q,P,Am,rfl,hM⟩:=hrel;have C:Hid (Í w w wr):=hb;have G:Hid (gT wd ws w.heap.size i (q-1) wr):=hM;clear hb hM;by_cases r:i+q<=ſ ws
    .obtain⟨z,o0,ea,Av⟩:=HW.o.some (show 0<ſ ws by omega);subst ea;have A7:(i:Int)+(q:Int)<=(ſ ws:Int):=by omega
     have A8:(q:Int)<=(ſ ws:Int)-(i:Int):=by omega
     have A0:=wZ z o0 (ſ ws) cap i q (by omega) (by omega);have H:wr.cell? ⟨w,i+q,Â⟩=Ã (È Æ ((best wd (ws.drop (i+q)):Nat):Int)):=G.o.l.cl (i+q) (by omega) r
     have B:Hid (∀n,Cp 92 #[Ä (Ã ⟨z,o0+i,Â⟩) q (cap-i),È Æ wd,Ø ((i:Int)+(q:Int)==(ſ ws:Int))] (wr.drewN n) λe a=>e=Ï (È Æ (bd (ln ((ws.drop i).take q)) wd (q==ſ ws-i)))/\a=wr.drewN n):=λn=>
      yY HW.o y.o hw C.o i q (cap-i) n P r
     have D:Hid (dK wd (ws.drop i) q=bd (ln ((ws.drop i).take q)) wd (q==ſ ws-i)+best wd (ws.drop (i+q))):=wH wd ws i q;have I:=wI hw (y.o.drop i) q;rw[D.o]at I;generalize bd (ln ((ws.drop i).take q)) wd (q==ſ ws-i)=bv at B D I;generalize best wd (ws.drop (i+q))=sv at H D I;have f2:wr.frozen? ⟨w,i,Â⟩=false:=G.o.l.rl.frozen;have Ao:w.heap.size<wr.heap.size:=G.o.l.rl.lt;have e2:=G.o.c;have Ab:Hid (gy wd ws w.heap.size (i+1) wr):=G.o.l;by_cases hq:q=1
     .have HP:Hid (∀a,gT wd ws w.heap.size i (q+1-1) ((wr.drewN a).setCell ⟨w,i,Â⟩ (È Æ ((bv:Int)+(sv:Int))))):=λnq=>
       gT.set (w:=wr.drewN nq) (Ab.o.kept rfl) hi (by rw[<-zZ P (.inl hq),D.o];omega)
      have e3:wr.cell? ⟨w,i,Â⟩=Ã (È Æ (-1)):=by rw[e2,hq];rfl
      clear hq e2;go_wp2_with fail
      go_quiet ((go_at_call 92;exact Ê (B.o _)))
      go_wp2
      go_roundw
      case rel=>exact⟨(aP C.o nq).setCell (p:=⟨w,i,Â⟩) Zl _,q+1,by omega,by omega,by go_num,HP.o nq⟩
      case measure=>simp[Ù];omega
     .generalize t:dI (dK wd (ws.drop i)) (q-1)=mv;have Ac:Hid (dI (dK wd (ws.drop i)) (q-1)=mv):=t;have e3:wr.cell? ⟨w,i,Â⟩=Ã (È Æ (mv:Int)):=by rw[e2,j2,if_neg (by omega),t]
      clear t e2;by_cases X:bv+sv<mv
      .have HP:Hid (∀a,gT wd ws w.heap.size i (q+1-1) ((wr.drewN a).setCell ⟨w,i,Â⟩ (È Æ ((bv:Int)+(sv:Int))))):=λnq=>
        gT.set (w:=wr.drewN nq) (Ab.o.kept rfl) hi (by rw[<-zZ P (.inr (by rw[Ac.o,D.o];exact X)),D.o];omega)
       have Ak:(bv:Int)+(sv:Int)<(mv:Int):=by omega
       have Ay:¬(mv:Int)<0:=by omega
       clear hq X;go_wp2_with fail
       go_quiet ((go_at_call 92;exact Ê (B.o _)))
       go_wp2
       go_roundw
       case rel=>exact⟨(aP C.o nq).setCell (p:=⟨w,i,Â⟩) Zl _,q+1,by omega,by omega,by go_num,HP.o nq⟩
       case measure=>simp[Ù];omega
      .have HP:Hid (∀a,gT wd ws w.heap.size i (q+1-1) (wr.drewN a)):=λnq=>by
        have h1:=G.o.kept (w':=wr.drewN nq) rfl;exact⟨h1.l,by rw[<-Sf P hq (by rw[Ac.o,D.o];exact X)];exact h1.c⟩
       have Ak:¬(bv:Int)+(sv:Int)<(mv:Int):=by omega
       have Ay:¬(mv:Int)<0:=by omega
       clear hq X;go_wp2_with fail
       go_quiet ((go_at_call 92;exact Ê (B.o _)))
       go_wp2
       go_roundw
       case rel=>exact⟨aP C.o nq,q+1,by omega,by omega,by go_num,HP.o nq⟩
       case measure=>simp[Ù];omega
    .have Ba:¬(q:Int)<=(ſ ws:Int)-(i:Int):=by omega
     have HD:Hid (gy wd ws w.heap.size i wr):=G.o.done hi (by omega);go_wp2
     go_roundw
     case rel=>exact⟨C.o,i,by omega,by go_num,HD.o⟩
     case measure=>simp[Ù]
theorem Qy(B b ds a cap)(hl:ſ ds<=400)(tx n A C)(f g:Nat->List Int->Except Int (List UInt8 × List Int))(hA:iI B b ds a cap A f)(hC:iI B b ds a cap C g)(hE:∀i r,ds.drop i=A++r->bB ds i 1=Ã (i+ſ A))(Aa:0<ſ C):iI B b ds a cap (⟨9,tx,n⟩::(A++C)) (lH f g):=by
 intro i r K U wa wc s w hd hN hI H k N u;obtain⟨hi,e1,e2⟩:=fg (x:=⟨9,tx,n⟩) (r:=(A++C)++r) hd;obtain⟨b0,o0,ea,Ac,z,d2,d3⟩:=hN i hi;subst ea;rw[e1]at z d2 d3;dsimp only at z d2 d3;simp only[À,Å]at N u;have Z:=aa e2;have h:=aa hN;have X:=aa hI;have J:=aa k;have o:=k.bsize;obtain⟨h0,h1,c0,Y,c2,c3,f1,f2,f3⟩:=k;have V:Hid (∀O:Obj,Í B w (w.alloc O)):=λO=>(Ç _ w).alloc o O
 have HA:=aa hA;have HC:=aa hC;have y:Hid (((i+1:Nat):Int)=(i:Int)+1):=(show _=_ by omega);rw[É]at Z;have HE:=aa (hE (i+1) (C++r) Z.o);have L:=aa (pX Z.o)
 have HJ:Hid (i+1+ſ A<ſ ds):=(show _<_ by
  have h1:=congrArg Ñ L.o;simp at h1
  omega)
 match U,X,J,H,Y with
 | [],X,J,H,Y=>
  simp only[Î]at J Y;go_in;go_wp2_with fail;refine(IZ (J.o.alloc _)).mono ?_;rintro e v⟨rfl,D,I⟩;have G:=aa D;obtain⟨_,_,_,_,_,g3,_,_,_⟩:=D;go_wp2;refine Õ (Ö rfl _ _ _) rfl ?_;exact⟨rfl,⟨by decide,_,_,G.o⟩,(V.o _).trans I⟩
 | c::U,X,J,H,Y=>
  simp only[À]at J Y H;by_cases p:c=0
  .subst p;go_in;go_wp2_with fail;refine(pP 0 U (J.o.alloc _) (X.o.W (V.o _)) H).mono ?_;rintro e v⟨rfl,⟨R,S,D,P,Q⟩,I⟩;have G:=aa D;have M:=aa P;have E:=aa ((V.o _).trans I);obtain⟨_,_,_,_,_,g3,_,_,_⟩:=D;go_wp2_with fail;rw[<-y.o];refine(HA.o (i+1) (C++r) K U R S s _ Z.o (h.o.W E.o) M.o Q G.o (by omega) (by omega)).mono ?_;rintro e w3⟨rfl,q,l⟩;go_wp2
   go_end0
   refine⟨rfl,?_,E.o.trans l⟩;rw[lH,if_pos rfl];exact q
  .have Ab:(c==0)=false:=by simp[p]
   have d:=aa p;go_in;go_wp2_with fail;refine(pP c U (J.o.alloc _) (X.o.W (V.o _)) H).mono ?_;rintro e v⟨rfl,⟨R,S,D,P,Q⟩,I⟩;have G:=aa D;have M:=aa P;have E:=aa ((V.o _).trans I);obtain⟨_,k1,k0,_,_,g3,_,_,_⟩:=D;go_wp2_with fail;rw[<-y.o];refine an (ot ds _ cap hl (ſ ds+1) (i+1) v ((h.o.W E.o).nods G.o.bsize) (by omega) (by omega)) ?_;rw[HE.o];have hz:lU (Ã (i+1+ſ A))=((i+1+ſ A:Nat):Int):=rfl;rw[hz];generalize hj:i+1+ſ A=j at L HJ⊢;go_wp2_with fail;refine(HC.o j r K U R S s _ L.o (h.o.W E.o) M.o Q G.o (by omega) (by omega)).mono ?_;rintro e w4⟨rfl,t,m⟩;go_wp2
   go_end0
   refine⟨rfl,?_,E.o.trans m⟩;rw[lH,if_neg d.o];exact t
theorem Qv(B b ds a cap)(hl:ſ ds<=400)(tx n A C)(f g:Nat->List Int->Except Int (List UInt8 × List Int))(hA:iI B b ds a cap A f)(hC:iI B b ds a cap C g)(hE:∀i r,ds.drop i=A++r->bB ds i 1=Ã (i+ſ A))(Al:0<ſ C)(z:∀a b u v,f a b=.ok (u,v)->a+8*ſ A<=3300->ſ u<=4000*ſ A):iI B b ds a cap (⟨6,tx,n⟩::(A++C)) (kM f g):=by
 intro i r deep ws wa wc s w hd hN hI V l M Ae;obtain⟨hi,e1,e2⟩:=fg (x:=⟨6,tx,n⟩) (r:=(A++C)++r) hd;obtain⟨b0,o0,ea,Am,d1,d2,d3⟩:=hN i hi;subst ea;rw[e1]at d1 d2 d3;dsimp only at d1 d2 d3;simp only[À,Å]at M Ae;have R:=aa e2;have Q:=aa hN;have HI:=aa hI;have HL:=aa l;have m:=l.bsize;obtain⟨h0,h1,c0,c1,c2,c3,f1,f2,f3⟩:=l;have P:Hid (∀O:Obj,Í B w (w.alloc O)):=λO=>(Ç _ w).alloc m O
 have HA:=aa hA;have HC:=aa hC;have X:Hid (((i+1:Nat):Int)=(i:Int)+1):=(show _=_ by omega);rw[É]at R;have HE:=aa (hE (i+1) (C++r) R.o);have J:=aa (pX R.o)
 have d:Hid (i+1+ſ A<ſ ds):=(show _<_ by
  have h1:=congrArg Ñ J.o;simp at h1
  omega)
 cases y:f deep ws with
 | error e0=>
  have H:=aa y;go_in;go_wp2_with fail;rw[<-X.o];refine(HA.o (i+1) (C++r) deep ws wa wc s _ R.o (Q.o.W (P.o _)) (HI.o.W (P.o _)) V (HL.o.alloc _) (by omega) (by omega)).mono ?_;rintro e Y⟨rfl,D,K⟩;rw[H.o]at D;obtain⟨o,v',s',D⟩:=D;have I:=aa D;have E:=aa ((P.o _).trans K);have S:=aa o;obtain⟨_,k1,k0,_,_,_,_,_,_⟩:=D;go_wp2_with fail;rw[<-X.o];refine an (ot ds _ cap hl (ſ ds+1) (i+1) Y ((Q.o.W E.o).nods I.o.bsize) (by omega) (by omega)) ?_;rw[HE.o];have hz:lU (Ã (i+1+ſ A))=((i+1+ſ A:Nat):Int):=rfl;rw[hz];generalize hj:i+1+ſ A=j at J d⊢;go_wp2_with fail;refine(RZ ds _ cap j deep Y d.o (Q.o.W E.o) I.o S.o).mono ?_;rintro e w4⟨rfl,G,L⟩;go_wp2
  go_end0
  refine⟨rfl,?_,E.o.trans L⟩;rw[kM,H.o];exact⟨S.o,_,_,G⟩
 | ok p=>
  obtain⟨u,N⟩:=p;have H:=aa y;have An:=z deep ws u N y (by omega);go_in;go_wp2_with fail;rw[<-X.o];refine(HA.o (i+1) (C++r) deep ws wa wc s _ R.o (Q.o.W (P.o _)) (HI.o.W (P.o _)) V (HL.o.alloc _) (by omega) (by omega)).mono ?_;rintro e Y⟨rfl,D,K⟩;rw[H.o]at D;obtain⟨Ah,Aj,s1,U,D,Aa,Af⟩:=D;have Ad:s1.size=s.size+ſ u:=by rw[<-fu,<-fu,U,Å]
  have h:=aa Ad;have Z:=aa U;have I:=aa D;have c:=aa Aa;have E:=aa ((P.o _).trans K);obtain⟨_,k1,k0,_,_,_,_,_,_⟩:=D;go_wp2_with fail;rw[<-X.o];refine an (ot ds _ cap hl (ſ ds+1) (i+1) Y ((Q.o.W E.o).nods I.o.bsize) (by omega) (by omega)) ?_;rw[HE.o];have hz:lU (Ã (i+1+ſ A))=((i+1+ſ A:Nat):Int):=rfl;rw[hz];generalize hj:i+1+ſ A=j at J d⊢;go_wp2_with fail;refine(HC.o j r deep N Ah Aj s1 _ J.o (Q.o.W E.o) c.o Af I.o (by omega) (by have:=h.o;omega)).mono ?_;rintro e w4⟨rfl,G,L⟩;go_wp2
  go_end0
  refine⟨rfl,?_,E.o.trans L⟩;rw[kM,H.o];dsimp only;cases hg:g deep N with
  | error e1=>rw[hg]at G;exact G
  | ok q=>
   obtain⟨t,Ao⟩:=q;rw[hg]at G;obtain⟨Ai,Ak,s2,k,Ac,Ab,Ag⟩:=G;exact⟨Ai,Ak,s2,by rw[k,Z.o,É],Ac,Ab,Ag⟩
def iy(ds:List Nd)(a:Option Addr)(cap:Nat)(A:List Nd)(f:List (List Int)->List (List Int)):Prop:=
 ∀(i:Nat)(r:List Nd)(bs:List (List Int))(ba:Option Addr)(bc m:Nat)(w:Ð),ds.drop i=A++r->aS w a ds->eW Â w ba bs->ſ bs<=bc->ſ bs<=301->(∀x∈bs,ſ x<=m)->m+ſ A<=900->
  Calls prog 125 #[Ä a (ſ ds) cap,È Æ i,Ä ba (ſ bs) bc,È Æ 300] w λe w'=>∃a' c',e=Ï (Ä a' (f bs).length c')/\(f bs).length<=c'/\(∀g:Option Nat,(∀k,g=Ã k->k<w.heap.size)->eW g w ba bs->eW g w' a' (f bs))/\Í w w w'
def nF(A:List Nd)(f:List (List Int)->List (List Int)):Prop:=
 (∀bs,ſ bs<=301->(f bs).length<=301)/\∀bs m,(∀x∈bs,ſ x<=m)->∀x∈f bs,ſ x<=m+ſ A
theorem eW.take{g w a ls}(h:eW g w a ls)(n):eW g w a (ls.take n):=by
 intro i B;have A:i<ſ ls:=by simp at B;omega
 have e:(ls.take n)[i]=ls[i]:=List.getElem_take;rw[e];exact h i A
theorem eX.o{B:Nat}{v:Value}{ls:List (List Int)}{w:Ð}(h:eX B v ls Â w):∃a c,v=Ä a (ſ ls) c/\(ſ ls)<=c/\(ſ ls=0\/∃k,a=Ã ⟨k,0,Â⟩)/\(∀g:Option Nat,(∀k,g=Ã k->k<B)->eW g w a ls)/\(∀k,v.ownBlock=Ã k->B<=k/\k<w.heap.size):=by
 have G:=h;obtain⟨L,I,_⟩:=G;rcases I.2 with⟨rfl,H⟩|⟨K,D,E,rfl,J,A,C,_⟩
 .rw[H]at *;exact⟨Â,0,rfl,Ò _,.inl rfl,λg M=>(h.waysN M).2,λk N=>by cases N⟩
 .exact⟨_,D,rfl,C,.inr ⟨_,rfl⟩,λg M=>(h.waysN M).2,λk N=>by
   cases N
   exact⟨J,(Array.getElem?_eq_some_iff.1 A).1⟩⟩
theorem pR{w A g B}(h:w.grownBy A g)(C:B<=w.heap.size)(D:∀k,g=Ã k->B<=k):Í B w A:=(Ç B w).grown h C D
theorem eW.apart{w:Ð}{w' a A g}(h:eW Â w a A)(B:Í w w w')(C:∀k,g=Ã k->w.heap.size<=k):eW g w' a A:=(h.new C).W B
theorem Ox(W a V op)(X:op=1\/op=2\/op=3\/op=4\/op=5)(tx n):iy W a V [⟨op,tx,n⟩] (λa=>a):=by
 intro i r bs N O m w J H Q A I S R;obtain⟨K,E,P⟩:=fg (x:=⟨op,tx,n⟩) (r:=r) J;obtain⟨M,U,G,L,B,C,D⟩:=H i K;subst G;rw[E]at B C D;dsimp only at B C D;rcases X with rfl|rfl|rfl|rfl|rfl
 all_goals
  go_in;go_wp2;go_ret;exact⟨_,_,rfl,A,λg _ h=>h,Ç _ _⟩
theorem LO(l a k)(q:ſ l<=400)(tx n A)(f:List (List Int)->List (List Int))(p:iy l a k A f):iy l a k (⟨7,tx,n⟩::A) f:=by
 intro i r N L M m w W H V B C b Z;obtain⟨X,O,P⟩:=fg (x:=⟨7,tx,n⟩) (r:=A++r) W;obtain⟨d,h,Q,Y,D,E,G⟩:=H i X;subst Q;rw[O]at D E G;dsimp only at D E G;simp only[À]at Z;have K:Hid (((i+1:Nat):Int)=(i:Int)+1):=(show _=_ by omega);have J:=aa (p (i+1) r N L M m w P H V B C b (by omega));go_in;go_wp2_with fail;rw[<-K.o];refine J.o.mono ?_;rintro e j⟨c,g,rfl,R,S,U⟩;have I:=aa S;go_wp2;go_ret;exact⟨_,_,rfl,R,I.o,U⟩
theorem LN(ds a cap)(hl:ſ ds<=400)(tx n A C)(f g:List (List Int)->List (List Int))(hA:iy ds a cap A f)(hC:iy ds a cap C g)(hg:nF C g)(hE:∀i r,ds.drop i=A++r->bB ds i 1=Ã (i+ſ A)):iy ds a cap (⟨6,tx,n⟩::(A++C)) (λa=>f (g a)):=by
 intro i r bs c d m w z J S K B U hm;obtain⟨hi,l,o⟩:=fg (x:=⟨6,tx,n⟩) (r:=(A++C)++r) z;obtain⟨b0,o0,p,Aa,P,Q,R⟩:=J i hi;subst p;rw[l]at P Q R;dsimp only at P Q R;simp only[À,Å]at hm;have O:Hid (((i+1:Nat):Int)=(i:Int)+1):=(show _=_ by omega);have D:=aa o;rw[É]at D;have N:=aa J;have Y:=aa (hE (i+1) (C++r) D.o);have G:=aa (pX D.o);have M:=aa (hC (i+1+ſ A) r bs c d m w G.o J S K B U (by omega));have X:=aa hA;have Z:=aa S;have H:=aa (hg.1 bs B);have I:=aa (hg.2 bs m U);go_in;go_wp2_with fail;rw[<-O.o];refine an (ot ds _ cap hl (ſ ds+1) (i+1) w N.o (by omega) (by omega)) ?_;rw[Y.o];have hz:lU (Ã (i+1+ſ A))=((i+1+ſ A:Nat):Int):=rfl;rw[hz];generalize hj:i+1+ſ A=j at M⊢;go_wp2_with fail;refine M.o.mono ?_;rintro e w2⟨b,k2,rfl,s,t,E⟩;have L:=aa t;go_wp2_with fail;rw[<-O.o];refine(X.o (i+1) (C++r) (g bs) b k2 (m+ſ C) w2 D.o (N.o.W E) (L.o Â (λ_ h=>by cases h) Z.o) s H.o I.o (by omega)).mono ?_;rintro e w5⟨a5,k5,rfl,u,v,y⟩;have V:=aa v;go_wp2;go_ret;refine⟨_,_,rfl,u,λq hq hw=>V.o q (λk hk=>?_) (L.o q hq hw),E.trans (y.mono E.size)⟩
 have:=hq k hk
 have:=E.size
 omega
theorem Qu(B b q a p tx n):iI B b q a p (⟨5,tx,n⟩::[]) (λ_ a=>.ok ([],a)):=by
 intro i r L ws Y wc s w U S R G C A E;obtain⟨V,P,g⟩:=fg (x:=⟨5,tx,n⟩) (r:=[]++r) U;obtain⟨Z,o,Q,X,I,J,K⟩:=S i V;subst Q;rw[P]at I J K;dsimp only at I J K;simp only[À,Î]at A E;have M:=aa R;have N:=aa C;have D:=C.bsize;obtain⟨l,m,c,d,e,f,h,j,k⟩:=C;have H:Hid (∀O:Obj,Í B w (w.alloc O)):=λO=>(Ç _ w).alloc D O
 go_in;go_wp2
 go_end0
 exact⟨rfl,⟨Y,wc,s,by simp,N.o.alloc _,M.o.W (H.o _),G⟩,H.o _⟩
theorem Qt(B b t a q tx n)(u:tx.size<=20):iI B b t a q (⟨1,tx,n⟩::[]) (λ_ a=>.ok (tx.data.toList,a)):=by
 intro i r L ws Z wc s w V U S H D A G;obtain⟨X,P,h⟩:=fg (x:=⟨1,tx,n⟩) (r:=[]++r) V;obtain⟨c,o,Q,Y,I,J,K⟩:=U i X;subst Q;rw[P]at I J K;dsimp only at I J K;simp only[À,Î]at A G;have M:=aa S;have N:=aa D;have E:=D.bsize;obtain⟨R,m,d,e,f,g,j,k,l⟩:=D;go_in;go_wp2_with fail
 go_region
 all_goals
  go_wp2
  go_end0
  have C:∀(O:Obj)(v:Value),Í B w ((w.setCell (b,2) v).alloc O).drew:=λO v=>Below.drew (((Ç B w).setCell (p:=(b,2)) R _).alloc (by rw[qD];exact E) O)
  exact⟨rfl,⟨Z,wc,s++tx,by simp,di.drew ((N.o.text _).alloc _),M.o.W (C _ _),H⟩,C _ _⟩
theorem Qw(B b ds a cap)(hl:ſ ds<=400)(tx n)(l:0<=n)(m:n<=8)(A)(f:Nat->List Int->Except Int (List UInt8 × List Int))(hA:iI B b ds a cap A f):iI B b ds a cap (⟨7,tx,n⟩::A) (λa b=>f (a+n.toNat) b):=by
 intro i r deep ws o wc s w h P g K E C J;obtain⟨j,Z,c⟩:=fg (x:=⟨7,tx,n⟩) (r:=A++r) h;obtain⟨p,o0,d,k,L,M,N⟩:=P i j;subst d;rw[Z]at L M N;dsimp only at L M N;simp only[À]at C J;have R:=aa c;have V:=aa P;have S:=aa g;have U:=aa E;have H:=E.bsize;obtain⟨h0,h1,q,t,u,v,y,z,f3⟩:=E;have D:Hid (∀O:Obj,Í B w (w.alloc O)):=λO=>(Ç _ w).alloc H O
 have Q:=aa hA;have X:Hid (((i+1:Nat):Int)=(i:Int)+1):=(show _=_ by omega);have Y:Hid (((deep+n.toNat:Nat):Int)=(deep:Int)+n):=(show _=_ by omega);go_in;go_wp2_with fail;rw[<-X.o,<-Y.o];refine(Q.o (i+1) r (deep+n.toNat) ws o wc s _ R.o (V.o.W (D.o _)) (S.o.W (D.o _)) K (U.o.alloc _) (by omega) (by omega)).mono ?_;rintro e w2⟨rfl,I,G⟩;go_wp2
 go_end0
 exact⟨rfl,I,(D.o _).trans G⟩
abbrev gd(ds:List Td)(a:Option Addr)(cap i:Nat)(tx:List UInt8)(W:Ð):Prop:=
 Calls prog 37 #[Ä a (ſ ds) cap,È Æ (i:Int)] W λe w'=>e=Ï (Ì (ab tx))/\Í W W w'
theorem I3{ds a cap p i}(W:Ð)(hN:aG W a ds)(hp:p<ſ ds)(hi:i<ſ ds)(j:ds[p].op=5\/ds[p].op=6)(D t)(hx:t.x=ds[i])(hz:ſ t.tx<=1000)(hT:gd ds a cap i t.tx W):
  Cb 54 #[Ä a (ſ ds) cap,È Æ (p:Int),È Æ (i:Int),Ø D] W (Ì (ab (br (cW ds[p].op D) t))):=by
 unfold Cb;have r:Hid (aG W a ds):=hN;have m:Hid (gd ds a cap i t.tx W):=hT
 have E:Hid (∀a:Ð,Cb 72 #[fk ds[p],fk ds[i],Ø D] a (Ø (decide (da t.x<cW ds[p].op D)))):=λW'=>by
  have:=JL ds[p] ds[i] D W'
  rw[FB _ _ _ j]at this;rw[hx];exact this
 have Af:(p:Int)<(ſ ds:Int):=by omega
 have Ae:(i:Int)<(ſ ds:Int):=by omega
 have Ac:(ab t.tx).size<=1000:=by rw[cg];exact hz
 have U:Hid (da t.x<cW ds[p].op D->(⟨#[40]⟩:ByteArray)++ab t.tx++⟨#[41]⟩=ab (br (cW ds[p].op D) t)):=λh=>by
  rw[br,if_pos h];have q:(⟨#[40]⟩:ByteArray)=ab [40]:=rfl;have g:(⟨#[41]⟩:ByteArray)=ab [41]:=rfl;rw[q,g,bn,bn];rfl
 have G:Hid (¬da t.x<cW ds[p].op D->ab t.tx=ab (br (cW ds[p].op D) t)):=λh=>by rw[br,if_neg h]
 have V:Hid (∀c,Í W W c->∃b o,a=Ã ⟨b,o,Â⟩/\b<c.heap.size/\(c.cell? ⟨b,o+p*3,Â⟩=Ã (È Æ ds[p].op)/\c.cell? ⟨b,o+p*3+1,Â⟩=Ã (Ì ds[p].tx)/\c.cell? ⟨b,o+p*3+2,Â⟩=Ã (È Æ ds[p].n))/\(c.cell? ⟨b,o+i*3,Â⟩=Ã (È Æ ds[i].op)/\c.cell? ⟨b,o+i*3+1,Â⟩=Ã (Ì ds[i].tx)/\c.cell? ⟨b,o+i*3+2,Â⟩=Ã (È Æ ds[i].n))):=λW' K=>by
  obtain⟨A,op,q,Aa,O,P,Q⟩:=(r.o.W K) p hp;obtain⟨bi,oi,g,Ad,L,M,N⟩:=(r.o.W K) i hi;rw[q]at g;simp only[Option.some.injEq,Addr.mk.injEq,and_true]at g;obtain⟨rfl,rfl⟩:=g;exact⟨A,op,q,Aa,⟨O,P,Q⟩,⟨L,M,N⟩⟩
 generalize ab (br (cW ds[p].op D) t)=R at U G⊢;generalize Ab:cW ds[p].op D=l at U G E;generalize k:ab t.tx=T at U G Ac;have f:Hid (ab t.tx=T):=k;clear hx hz hN hT j Ab k r;generalize ds[p]=xp at V E;generalize ds[i]=xi at V E;generalize da t.x=pr at U G E;obtain⟨c,d,Z⟩:=xp;obtain⟨X,Y,H⟩:=xi;by_cases K:pr<l
 .have s:=(show Hid (_=_)from U.o K);have S:Hid (decide (pr<l)=true):=decide_eq_true K;clear K U G;go_in;go_wp2_with fail;refine ai m.o λw1 b1=>?_
  rw[f.o];obtain⟨A,op,rfl,C,⟨O,P,Q⟩,L,M,N⟩:=V.o w1 b1;have J:Hid (Cp 72 #[fk ⟨c,d,Z⟩,fk ⟨X,Y,H⟩,Ø D] w1.drew λe a=>e=Ï (Ø (decide (pr<l)))/\Í w1 w1 a):=(E.o w1.drew).mono λ_ _ h=>⟨h.1,(Ç w1.heap.size w1).drew.trans h.2⟩
  have u:w1.drew.cell? ⟨A,op+p*3,Â⟩=Ã (È Æ c):=O;have v:w1.drew.cell? ⟨A,op+p*3+1,Â⟩=Ã (Ì d):=P;have w:w1.drew.cell? ⟨A,op+p*3+2,Â⟩=Ã (È Æ Z):=Q;have y:w1.drew.cell? ⟨A,op+i*3,Â⟩=Ã (È Æ X):=L;have z:w1.drew.cell? ⟨A,op+i*3+1,Â⟩=Ã (Ì Y):=M;have d6:w1.drew.cell? ⟨A,op+i*3+2,Â⟩=Ã (È Æ H):=N;have I:=aa b1;clear V E m b1;go_wp2_with fail
  go_region_held3 (λa=>a.cell? ⟨A,op+p*3,Â⟩=Ã (È Æ c)/\a.cell? ⟨A,op+p*3+1,Â⟩=Ã (Ì d)/\a.cell? ⟨A,op+p*3+2,Â⟩=Ã (È Æ Z)/\a.cell? ⟨A,op+i*3,Â⟩=Ã (È Æ X)/\a.cell? ⟨A,op+i*3+1,Â⟩=Ã (Ì Y)/\a.cell? ⟨A,op+i*3+2,Â⟩=Ã (È Æ H))
   (first|with_reducible exact⟨u,v,w,y,z,d6⟩|with_reducible exact⟨O,P,Q,L,M,N⟩|with_reducible exact⟨(B.cell (p:=⟨A,_,Â⟩) C).trans O,(B.cell (p:=⟨A,_,Â⟩) C).trans P,(B.cell (p:=⟨A,_,Â⟩) C).trans Q,(B.cell (p:=⟨A,_,Â⟩) C).trans L,(B.cell (p:=⟨A,_,Â⟩) C).trans M,(B.cell (p:=⟨A,_,Â⟩) C).trans N⟩)
   ((go_at_call 72;refine J.o.mono ?_;rintro e w2⟨rfl,B⟩;rw[S.o]))
  all_goals
   go_wp2;go_ret;exact⟨by rw[<-s.o];rfl,aH I.o Zl B⟩
 .have s:=(show Hid (_=_)from G.o K);have S:Hid (decide (pr<l)=false):=decide_eq_false K;clear K U G;go_in;go_wp2_with fail;refine ai m.o λw1 b1=>?_
  rw[f.o];obtain⟨A,op,rfl,C,⟨O,P,Q⟩,L,M,N⟩:=V.o w1 b1;have J:Hid (Cp 72 #[fk ⟨c,d,Z⟩,fk ⟨X,Y,H⟩,Ø D] w1.drew λe a=>e=Ï (Ø (decide (pr<l)))/\Í w1 w1 a):=(E.o w1.drew).mono λ_ _ h=>⟨h.1,(Ç w1.heap.size w1).drew.trans h.2⟩
  have u:w1.drew.cell? ⟨A,op+p*3,Â⟩=Ã (È Æ c):=O;have v:w1.drew.cell? ⟨A,op+p*3+1,Â⟩=Ã (Ì d):=P;have w:w1.drew.cell? ⟨A,op+p*3+2,Â⟩=Ã (È Æ Z):=Q;have y:w1.drew.cell? ⟨A,op+i*3,Â⟩=Ã (È Æ X):=L;have z:w1.drew.cell? ⟨A,op+i*3+1,Â⟩=Ã (Ì Y):=M;have d6:w1.drew.cell? ⟨A,op+i*3+2,Â⟩=Ã (È Æ H):=N;have I:=aa b1;clear V E m b1;go_wp2_with fail
  go_region_held3 (λa=>a.cell? ⟨A,op+p*3,Â⟩=Ã (È Æ c)/\a.cell? ⟨A,op+p*3+1,Â⟩=Ã (Ì d)/\a.cell? ⟨A,op+p*3+2,Â⟩=Ã (È Æ Z)/\a.cell? ⟨A,op+i*3,Â⟩=Ã (È Æ X)/\a.cell? ⟨A,op+i*3+1,Â⟩=Ã (Ì Y)/\a.cell? ⟨A,op+i*3+2,Â⟩=Ã (È Æ H))
   (first|with_reducible exact⟨u,v,w,y,z,d6⟩|with_reducible exact⟨O,P,Q,L,M,N⟩|with_reducible exact⟨(B.cell (p:=⟨A,_,Â⟩) C).trans O,(B.cell (p:=⟨A,_,Â⟩) C).trans P,(B.cell (p:=⟨A,_,Â⟩) C).trans Q,(B.cell (p:=⟨A,_,Â⟩) C).trans L,(B.cell (p:=⟨A,_,Â⟩) C).trans M,(B.cell (p:=⟨A,_,Â⟩) C).trans N⟩)
   ((go_at_call 72;refine J.o.mono ?_;rintro e w2⟨rfl,B⟩;rw[S.o]))
  all_goals
   go_wp2;go_ret;exact⟨by rw[<-s.o];rfl,aH I.o Zl B⟩
theorem VG(ds a cap)(hl:ſ ds<=400)(tx n A)(f:List (List Int)->List (List Int))(sA)(hA:iy ds a cap A f)(hf:nF A f)(hF:gB ds a cap A sA true)(F:List (List Int)->List (List Int))(HF:Hid (∀a,F a=(a.map (0::·)++(f a).map (1::·)).take 301)):iy ds a cap (⟨8,tx,n⟩::A) F:=by
 intro i r bs ba bc m w hd hN hM o H hx hm;obtain⟨hi,e1,e2⟩:=fg (x:=⟨8,tx,n⟩) (r:=A++r) hd;obtain⟨b0,o0,ea,Ab,c1,c2,c3⟩:=hN i hi;subst ea;rw[e1]at c1 c2 c3;dsimp only at c1 c2 c3;simp only[À]at hm;have HX:Hid (((i+1:Nat):Int)=(i:Int)+1):=(show _=_ by omega);have HN:=aa hN;have j:=aa hM;have N:=aa hx;have HA:=aa hA;have Y:=aa (hf.1 bs H);have Z:=aa (hf.2 bs m hx);have b:=aa hF;have HD:=aa e2;go_in;go_wp2_with fail;rw[<-HX.o];refine ai (b.o (i+1) _ _ HD.o HN.o) λw1 hb1=>?_
 have I:=aa hb1;have U:=hb1.size;go_wp2_with fail;refine(pS w.heap.size (Ä Â 0 0) [] bs 0 ba bc w1 (eX.nil _ _ _) (j.o.W I.o) U (by simp;omega) (λx h=>by have:=N.o x h;omega)).mono ?_;rintro e w2⟨v2,rfl,C,Q,Aa⟩;rw[Ú]at C;have E:(bs.map (0::·)).length<=301:=by rw[Û];exact H
 generalize s:bs.map (0::·)=l1 at C E;have X:=aa s;have M:=aa E;have B:=aa (I.o.trans (pR Q U (λk h=>by cases h)));have v:=B.o.size;obtain⟨a2,k2,rfl,_,_,_,S⟩:=C.o;have E:=M.o;generalize Ac:ſ l1=n1 at C S E;have c:=aa C;have G:=aa S;go_wp2_with fail;rw[<-HX.o];refine(HA.o (i+1) r bs ba bc m w2 HD.o (HN.o.W B.o) (j.o.W B.o) o H N.o (by omega)).mono ?_;rintro e w3⟨a3,k3,rfl,h3,h4,O⟩;have l:=aa (h4 (Ä a2 n1 k2).ownBlock (λk h=>(G.o k h).2) (j.o.apart B.o λk h=>(G.o k h).1));have d:=aa (c.o.W O);have J:=aa (B.o.trans (O.mono v));have V:=J.o.size;go_wp2_with fail;refine(pS w.heap.size (Ä a2 n1 k2) l1 (f bs) 1 a3 k3 w3 d.o l.o V (by have:=Y.o;have:=M.o;omega) (λx h=>by have:=Z.o x h;omega)).mono ?_;rintro e w5⟨v5,rfl,P,R,_⟩;generalize t:l1++(f bs).map (1::·)=l5 at P;have g:=aa P;have L:Hid (F bs=l5.take 301):=(show _=_ by rw[HF.o,X.o,t]);have K:=aa (J.o.trans (pR R V (λk h=>(G.o k h).1)));obtain⟨a5,k5,rfl,h5,h6,h7,_⟩:=g.o.o;have z:=aa h7;generalize u:ſ l5=n5 at h5 h6;have D:=aa u;by_cases hcut:301<n5
 .obtain⟨y,rfl⟩:∃y,a5=Ã ⟨y,0,Â⟩:=h6.resolve_left (by omega);have p:(301:Int)<(n5:Int):=by omega
  go_wp2;go_ret;rw[L.o];refine⟨Ã ↑y,k5,?_,?_,λq a _=>(z.o q a).take 301,K.o⟩
  .have e:(l5.take 301).length=301:=by rw[Á,D.o];omega
   rw[e];rfl
  .rw[Á,D.o];omega
 .have p:¬(301:Int)<(n5:Int):=by omega
  go_wp2;go_ret;rw[L.o];refine⟨a5,k5,?_,?_,λq a _=>(z.o q a).take 301,K.o⟩
  .have e:(l5.take 301).length=n5:=by rw[Á,D.o];omega
   rw[e];rfl
  .rw[Á,D.o];omega
theorem VF(ds a cap)(hl:ſ ds<=400)(tx n A)(f:List (List Int)->List (List Int))(sA)(hA:iy ds a cap A f)(hf:nF A f)(hF:gB ds a cap A sA false)(F:List (List Int)->List (List Int))(HF:Hid (∀a,F a=(([]:List (List Int))++(f a).map (1::·)).take 301)):iy ds a cap (⟨8,tx,n⟩::A) F:=by
 intro i r bs ba bc m w hd u hM S H v hm;obtain⟨hi,e1,e2⟩:=fg (x:=⟨8,tx,n⟩) (r:=A++r) hd;obtain⟨b0,o0,ea,Aa,o,p,s⟩:=u i hi;subst ea;rw[e1]at o p s;dsimp only at o p s;simp only[À]at hm;have j:Hid (((i+1:Nat):Int)=(i:Int)+1):=(show _=_ by omega);have g:=aa u;have d:=aa hM;have Q:=aa v;have z:=aa hA;have L:=aa (hf.1 bs H);have M:=aa (hf.2 bs m v);have N:=aa hF;have c:=aa e2;go_in;go_wp2_with fail;rw[<-j.o];refine ai (N.o (i+1) _ _ c.o g.o) λw1 hb1=>?_
 have B:=aa hb1;have Y:=hb1.size;go_wp2_with fail;rw[<-j.o];refine(z.o (i+1) r bs ba bc m w1 c.o (g.o.W B.o) (d.o.W B.o) S H Q.o (by omega)).mono ?_;rintro e w3⟨a3,k3,rfl,h3,h4,R⟩;have P:=aa (h4 Â (λk h=>by cases h) (d.o.W B.o));have D:=aa (B.o.trans (R.mono Y));have K:=D.o.size;go_wp2_with fail;refine(pS w.heap.size (Ä Â 0 0) [] (f bs) 1 a3 k3 w3 (eX.nil _ _ _) P.o K (by have:=L.o;simp;omega) (λx h=>by have:=M.o x h;omega)).mono ?_;rintro e w5⟨v5,rfl,I,J,_⟩;generalize V:([]:List (List Int))++(f bs).map (1::·)=l5 at I;have O:=aa I;have G:Hid (F bs=l5.take 301):=(show _=_ by rw[HF.o,V]);have E:=aa (D.o.trans (pR J K (λk h=>by cases h)));obtain⟨l,y,rfl,h5,t,h7,_⟩:=O.o.o;have b:=aa h7;generalize X:ſ l5=n5 at h5 t;have C:=aa X;by_cases hcut:301<n5
 .obtain⟨Z,rfl⟩:∃Z,l=Ã ⟨Z,0,Â⟩:=t.resolve_left (by omega);have U:(301:Int)<(n5:Int):=by omega
  go_wp2;go_ret;rw[G.o];refine⟨Ã ↑Z,y,?_,?_,λq a _=>(b.o q a).take 301,E.o⟩
  .have e:(l5.take 301).length=301:=by rw[Á,C.o];omega
   rw[e];rfl
  .rw[Á,C.o];omega
 .have U:¬(301:Int)<(n5:Int):=by omega
  go_wp2;go_ret;rw[G.o];refine⟨l,y,?_,?_,λq a _=>(b.o q a).take 301,E.o⟩
  .have e:(l5.take 301).length=n5:=by rw[Á,C.o];omega
   rw[e];rfl
  .rw[Á,C.o];omega
theorem LP(ds a cap)(hl:ſ ds<=400)(tx n A C)(f g:List (List Int)->List (List Int))(hA:iy ds a cap A f)(hf:nF A f)(hC:iy ds a cap C g)(hg:nF C g)(hE:∀i r,ds.drop i=A++r->bB ds i 1=Ã (i+ſ A))(F:List (List Int)->List (List Int))(HF:Hid (∀a,F a=((f a).map (0::·)++(g a).map (1::·)).take 301)):iy ds a cap (⟨9,tx,n⟩::(A++C)) F:=by
 intro i r bs ba bc m w hd hN hM S G hx hm;obtain⟨hi,e1,e2⟩:=fg (x:=⟨9,tx,n⟩) (r:=(A++C)++r) hd;obtain⟨b0,o0,ea,Ai,c1,c2,c3⟩:=hN i hi;subst ea;rw[e1]at c1 c2 c3;dsimp only at c1 c2 c3;simp only[À,Å]at hm;have HX:Hid (((i+1:Nat):Int)=(i:Int)+1):=(show _=_ by omega);have z:=aa hN;have d:=aa hM;have P:=aa hx;have HA:=aa hA;have I:=aa (hf.1 bs G);have t:=aa (hf.2 bs m hx);have HC:=aa hC;have o:=aa (hg.1 bs G);have p:=aa (hg.2 bs m hx);have c:=aa e2;rw[É]at c;have HE:=aa (hE (i+1) (C++r) c.o);have M:=aa (pX c.o);go_in;go_wp2_with fail;rw[<-HX.o];refine(HA.o (i+1) (C++r) bs ba bc m w c.o z.o d.o S G P.o (by omega)).mono ?_;rintro e w1⟨a1,k1,rfl,h1,h4,Q⟩;have Aa:=aa (h4 Â (λk h=>by cases h) d.o);have l:=aa Q;have Z:=Q.size;go_wp2_with fail;refine(pS w.heap.size (Ä Â 0 0) [] (f bs) 0 a1 k1 w1 (eX.nil _ _ _) Aa.o Z (by have:=I.o;simp;omega) (λx h=>by have:=t.o x h;omega)).mono ?_;rintro e w2⟨v2,rfl,D,V,Ah⟩;rw[Ú]at D;have H:((f bs).map (0::·)).length<=301:=by rw[Û];exact I.o
 generalize Ad:(f bs).map (0::·)=l1 at D H;have s:=aa Ad;have O:=aa H;have B:=aa (l.o.trans (pR V Z (λk h=>by cases h)));have Ag:=B.o.size;obtain⟨a2,k2,rfl,_,_,_,Y⟩:=D.o;have H:=O.o;generalize Aj:ſ l1=n1 at D Y H;have u:=aa D;have J:=aa Y;go_wp2_with fail;rw[<-HX.o];refine an (ot ds _ cap hl (ſ ds+1) (i+1) w2 (z.o.W B.o) (by omega) (by omega)) ?_;rw[HE.o];have hz:lU (Ã (i+1+ſ A))=((i+1+ſ A:Nat):Int):=rfl;rw[hz];generalize hj:i+1+ſ A=j at M⊢;go_wp2_with fail;refine(HC.o j r bs ba bc m w2 M.o (z.o.W B.o) (d.o.W B.o) S G P.o (by omega)).mono ?_;rintro e w3⟨a3,k3,rfl,h3,h4,R⟩;have Ab:=aa (h4 (Ä a2 n1 k2).ownBlock (λk h=>(J.o k h).2) (d.o.apart B.o λk h=>(J.o k h).1));have v:=aa (u.o.W R);have K:=aa (B.o.trans (R.mono Ag));have b:=K.o.size;go_wp2_with fail;refine(pS w.heap.size (Ä a2 n1 k2) l1 (g bs) 1 a3 k3 w3 v.o Ab.o b (by have:=I.o;have:=o.o;have:=O.o;omega) (λx h=>by have:=p.o x h;omega)).mono ?_;rintro e w5⟨v5,rfl,U,X,_⟩;generalize Ae:l1++(g bs).map (1::·)=l5 at U;have y:=aa U;have N:Hid (F bs=l5.take 301):=(show _=_ by rw[HF.o,s.o,Ae]);have L:=aa (K.o.trans (pR X b (λk h=>(J.o k h).1)));obtain⟨a5,k5,rfl,h5,h6,h7,_⟩:=y.o.o;have H7:=aa h7;generalize Af:ſ l5=n5 at h5 h6;have E:=aa Af;by_cases hcut:301<n5
 .obtain⟨q5,rfl⟩:∃a,a5=Ã ⟨a,0,Â⟩:=h6.resolve_left (by omega);have Ac:(301:Int)<(n5:Int):=by omega
  go_wp2;go_ret;rw[N.o];refine⟨Ã ↑q5,k5,?_,?_,λq a _=>(H7.o q a).take 301,L.o⟩
  .have e:(l5.take 301).length=301:=by rw[Á,E.o];omega
   rw[e];rfl
  .rw[Á,E.o];omega
 .have Ac:¬(301:Int)<(n5:Int):=by omega
  go_wp2;go_ret;rw[N.o];refine⟨a5,k5,?_,?_,λq a _=>(H7.o q a).take 301,L.o⟩
  .have e:(l5.take 301).length=n5:=by rw[Á,E.o];omega
   rw[e];rfl
  .rw[Á,E.o];omega
theorem qj(t:Tr):nF t.N t.tl:=⟨rG t,qk t⟩
theorem tD(L:List Nd)(a:Option Addr)(K:Nat)(M:ſ L<=400):∀t:Tr,t.Wf->ſ t.N<=400->iy L a K t.N t.tl
 | .leaf ⟨op,tx,n⟩,h,hn=>Ox L a K op (iZ h.1 h.2) tx n
 | .one ⟨op,tx,n⟩ a',h,hn=>by
  have O:ſ a'.N<=400:=by simp[Tr.N]at hn;omega
  have D:=tD L a K M a' h.2.2 O;rcases jD h.2.1 with e|e
  all_goals (simp only at e;subst e)
  .exact LO L a K M tx n _ _ D
  .have A:=mB L a K M a' h.2.2 O
   have J:Tr.tl (.one ⟨8,tx,n⟩ a')=λa=>((if a'.isFlat=true then a.map (0::·)else [])++(a'.tl a).map (1::·)).take 301:=by
    funext bs
    simp[Tr.tl]
   rw[J];cases E:a'.isFlat with
   | true=>rw[E]at A;exact VG L a K M tx n _ _ _ D (qj a') A _ (show ∀_,_ from λa=>by simp)
   | false=>rw[E]at A;exact VF L a K M tx n _ _ _ D (qj a') A _ (show ∀_,_ from λa=>by simp)
 | .two ⟨op,tx,n⟩ a' c,h,hn=>by
  have B:ſ a'.N<=400:=by simp[Tr.N]at hn;omega
  have C:ſ c.N<=400:=by simp[Tr.N]at hn;omega
  have G:=tD L a K M a' h.2.2.1 B;have H:=tD L a K M c h.2.2.2 C;rcases jj h.2.1 with e|e
  all_goals (simp only at e;subst e)
  .have I:Tr.tl (.two ⟨6,tx,n⟩ a' c)=λa=>a'.tl (c.tl a):=by
    funext bs
    simp[Tr.tl]
   rw[I];exact LN L a K M tx n _ _ _ _ G H (qj c) λi r P=>oh h.2.2.1 P
  .exact LP L a K M tx n _ _ _ _ G (qj a') H (qj c) (λi r P=>oh h.2.2.1 P) _ (show ∀_,_ from λa=>by simp[Tr.tl])
