import Derived.Test.YtelcnplcpboonaaGreatDoorPe21
open Go.Proofs.Tryz
open List renaming length->ſ
open List renaming drop_eq_getElem_cons->À,length_drop->Â,length_append->Ä,getElem?_eq_some_iff->É,eq_nil_of_length_eq_zero->Ë,length_nil->Í,length_cons->Ñ,getElem_map->Ò,drop_eq_nil_of_le->Ó,length_map->Ô,append_assoc->Û,getElem_mem->Ý,length->Þ,append_nil->à
open Go.Value renaming slice->Á,string->Æ,int->Ï,bool->ß,pointer->ä
open Go.RowKit.Below renaming refl->Ã
open Go.Ending renaming returned->Å
open Go.Lib renaming toList_data->Ç
open Option renaming some->È,none->Õ
open Go renaming World->Ê,wpList_append_lies->Ù,madeCells->Ü,run_make_row'->á,Calls->â
open Go.IntKind renaming i64->Ì
open Go.RowKit renaming Below->Î,intOf->Ö
open Nat renaming zero_le->Ð,add_sub_cancel->Ø,lt_of_lt_of_le->Ú,le_refl->ã
namespace Go.Proofs.YtelcnplcpboonaaGreatDoor
open Go Go.RowKit
set_option maxRecDepth 100000
set_option maxHeartbeats 4000000
theorem yI{i q n:Nat}(h:i+q<=n):((i:Int)+(q:Int)==(n:Int))=(q==n-i):=by grind
theorem rx{ws:List ByteArray}{i q}(A:1<=q)(B:i+q<=ſ ws):((ws.drop i).take q).length=q/\(ws.drop i).take q≠[]:=by grind
theorem KJ{ws}{A D:Nat}{w:Ê}{wr}(G:bN w (È ↑(A,D)) ws)(E:dC ws)(H:Î w w wr)(i q c n)(B:1<=q)(C:i+q<=ſ ws):
  â prog 223 #[Á (È ↑(A,D+i)) q c] (wr.drewN n) λe I=>e=Å (ln ((ws.drop i).take q))/\wr.drewN n=I:=
 VZ q _ (rx B C).1 _ c _ (rx B C).2 ((E.drop i).take q) (bN.W ((ep.drop G i).take q) (aP H n))
theorem Gg{G ws I H i q D E nq w}(h:eZ G ws I H i (q-1) w)(hi:i<ſ ws)(L:1<=q)(J:dK G (ws.drop i) q=D+E)(K:q=1\/D+E<=dI (dK G (ws.drop i)) (q-1)):
  eZ G ws I H i (q+1-1) (((w.drewN nq).setCell (I,i) ((D:Int)+(E:Int))).setCell (H,i) (q:Int)):=by
 obtain⟨m,rfl⟩:∃m,q=m+1:=⟨q-1,by omega⟩;simp only[Ø]at h K⊢;have C:eZ G ws I H i m (w.drewN nq):=h.kept rfl rfl
 have:=C.put hi (by rw[J];omega)
 rw[J]at this;have A:((D+E:Nat):Int)=(D:Int)+(E:Int):=by omega
 have B:((m+1:Nat):Int)=(m:Int)+1:=by omega
 rw[A]at this;rw[B];exact this
theorem UT{B ws D C i q nq w}(h:eZ B ws D C i (q-1) w)(H:1<=q)(E:¬dK B (ws.drop i) q<=dI (dK B (ws.drop i)) (q-1))(G:¬q=1):eZ B ws D C i (q+1-1) (w.drewN nq):=by
 obtain⟨m,rfl⟩:∃m,q=m+1:=⟨q-1,by omega⟩;simp only[Ø]at h E⊢;have A:eZ B ws D C i m (w.drewN nq):=h.kept rfl rfl;exact A.skip (by omega)
theorem Pa(ws a)(cap wd:Nat)(w:Ê)(hc:ſ ws<=cap)(hF:dC ws)(hw:wd<=100)(hW:bN w a ws):
  â prog 197 #[Á a (ſ ws) cap,Ï Ì wd] w λe a=>(∃A c,e=Å (Á A (eF wd ws).length c)/\jm w.heap.size (Á A (eF wd ws).length c) (eF wd ws) a)/\Î w w a:=by
 have hl:=hF.1;have HW:Hid (bN w a ws):=hW;have y:Hid (dC ws):=hF
 have Aq:∀W:Ê,(Instr.makeSlice 73 (Ï Ì ((ſ ws:Int)+1)) (Ï Ì ((ſ ws:Int)+1))).run prog W=.ok (Á (È ⟨W,0,Õ⟩) (ſ ws+1) (ſ ws+1)) (W.alloc (.cells (Ü #[Ï Ì 0] (ſ ws+1)) 3)):=λW=>by
  have:=á 73 3 _ 8 Tryz.underlying73 lW rfl Ì Ì (ſ ws+1) (by omega) (by omega) W
  have e:((ſ ws+1:Nat):Int)=(ſ ws:Int)+1:=by omega
  rw[e]at this;exact this
 have Ar:∀W:Ê,(Instr.makeSlice 73 (Ï Ì (ſ ws:Int)) (Ï Ì (ſ ws:Int))).run prog W=.ok (Á (È ⟨W,0,Õ⟩) (ſ ws) (ſ ws)) (W.alloc (.cells (Ü #[Ï Ì 0] (ſ ws)) 3)):=λW=>
  á 73 3 _ 8 Tryz.underlying73 lW rfl Ì Ì (ſ ws) (by omega) (by omega) W
 have HM:Hid (ic wd ws w.heap.size (w.heap.size+1) (ſ ws) ((w.alloc (.cells (Ü #[Ï Ì 0] (ſ ws+1)) 3)).alloc (.cells (Ü #[Ï Ì 0] (ſ ws)) 3))):=ic.made wd ws w;clear hW hF;go_in;go_wp2
 go_loopw [7] (λi wr=>Î w w wr/\∃k:Nat,k<=ſ ws/\i=Ï Ì ((k:Int)-1)/\ic wd ws w.heap.size (w.heap.size+1) k wr) (λi _=>(Ö i+1).toNat)
 case atStart=>exact⟨((Ã _ w).alloc Zl _).alloc (by simp) _,ſ ws,ã _,by go_num,HM.o⟩
 case round=>
  obtain⟨g,k,hk,rfl,hL⟩:=hrel;have HB:Hid (Î w w wr):=g;have t:Hid (ic wd ws w.heap.size (w.heap.size+1) k wr):=hL;clear g hL;by_cases o:k=0
  .subst o;have Ak:¬((0:Int)<=((0:Nat):Int)-1):=by omega
   have Af:w.heap.size+2<=wr.heap.size:=t.o.rf.lt;go_wp2
   go_loopw [10,11] (λl i a=>Î (w.heap.size+2) wr a/\∃(k:Nat)(C:List Nat)(A:Option Addr)(c:Nat),k<=ſ ws/\(ſ C)<=k/\i=Ï Ì (k:Int)/\l=Á A (ſ C) c/\jm (w.heap.size+2) (Á A (ſ C) c) C a/\eF wd ws=C++eF wd (ws.drop k)) (λ_ i _=>ſ ws-(Ö i).toNat)
   case atStart=>exact⟨Ã _ _,0,[],Õ,0,Ð _,ã _,rfl,rfl,World.ownsRow_nil _ _ _ _,rfl⟩
   case round=>
    rename_i wo0 wo1 wo2;obtain⟨I,k,C,A,c,An,Ao,rfl,rfl,hO,hcut⟩:=hrel;have V:Hid (Î (w.heap.size+2) _ wr):=I;have H:Hid (jm (w.heap.size+2) (Á A (ſ C) c) C wr):=hO;have HC:Hid (eF wd ws=C++eF wd (ws.drop k)):=hcut;have z:Hid (ic wd ws w.heap.size (w.heap.size+1) 0 wr):=t.o.kept (I.block _ (by omega)) (I.block _ (by omega));have Au:=I.size;clear I hO hcut;by_cases E:k<ſ ws
    .have R:(k:Int)<(ſ ws:Int):=by omega
     have Q:ws.drop k≠[]:=λe=>by
      have:=congrArg Þ e
      rw[Â,Í]at this;omega
     have c1:=z.o.cf k (Ð _) E
     have X:Hid (eF wd ws=(C++[eT wd (ws.drop k)])++eF wd (ws.drop (k+eT wd (ws.drop k)))):=by
      show eF wd ws=_;rw[HC.o,pW wd Q,List.drop_drop,Û];rfl
     obtain⟨Ac,m⟩:=mW wd Q;rw[Â]at m;have Y:Hid (∀W:Ê,ic wd ws w.heap.size (w.heap.size+1) 0 W->W.cell? ⟨w.heap.size+1,k,Õ⟩=È (Ï Ì ((eT wd (ws.drop k):Nat):Int))):=λW h=>h.cf k (Ð _) E
     generalize eT wd (ws.drop k)=av at c1 X Ac m Y;clear Q;obtain⟨i0,Ad,Ag,Ah,Ai⟩:=info_parts lW;go_wp2_with(at_builtin;refine Ù _ rfl _ _ 73 rfl (w.heap.size+2) 3 i0 _ 1 8 Tryz.underlying73 Ad Ag Ah Ai rfl (by decide) _ _ _ rfl (World.ownsRow.alloc H.o _) ⟨wr,0,Õ⟩ 1 1 [Ï Ì (av:Int)] rfl rfl (cell_one_new wr _ _) (by intro u hu;simp at hu;subst hu;rfl) (by decide) (by unfold maxLen;omega) (by omega) (by simp;omega) (wr.heap.size+1) (by simp) ?_);intro g2 N w2 J D f r;have K:=(V.o.alloc (by omega) (.cells #[Ï Ì (av:Int)] 3)).grown D (by simp;omega) (λj a=>(World.ownsRow.lt H.o j a).1);have x:=(show Hid (Î _ _ _)from K);have c2:=Y.o w2 (t.o.kept (K.block _ (by omega)) (K.block _ (by omega)))
     have Aa:Hid (jm (w.heap.size+2) (Á (È ⟨g2,0,Õ⟩) (ſ C+1) N) (C++[av]) w2):=by
      show w2.ownsRow _ _ _ _ _ _;rw[IQ,Ä];exact J
     clear J D K f r;go_wp2
     go_roundw
     case rel=>exact⟨x.o,k+av,C++[av],È ⟨g2,0,Õ⟩,N,by omega,by simp;omega,by go_num,by rw[Ä];rfl,by rw[Ä];exact Aa.o,X.o⟩
     case measure=>simp[Ö];omega
    .have Ap:¬(k:Int)<(ſ ws:Int):=by omega
     have HE:Hid (eF wd ws=C):=by
      show eF wd ws=C;rw[HC.o,Ó (by omega),oG,à]
     go_wp2;go_ret;rw[HE.o];exact⟨⟨A,c,rfl,Joins.ownsRow_le H.o (by omega)⟩,HB.o.trans (V.o.mono (by omega))⟩
  .obtain⟨i,rfl⟩:∃i,k=i+1:=⟨k-1,by omega⟩;have R:(((i+1:Nat):Int)-1)=(i:Int):=by omega
   rw[R];have v:i<ſ ws:=by omega
   clear R o;go_wp2
   go_loopw [8] (λn a=>Î w w a/\∃q:Nat,1<=q/\i+q<=ſ ws+1/\n=Ï Ì (q:Int)/\eZ wd ws w.heap.size (w.heap.size+1) i (q-1) a) (λn _=>(ſ ws+1-(Ö n).toNat))
   case atStart=>exact⟨HB.o,1,by omega,by omega,by go_num,eZ.start t.o⟩
   case round=>
    rename_i wy;obtain⟨g,q,M,As,rfl,hM⟩:=hrel;have G:Hid (Î w w wr):=g;have B:Hid (eZ wd ws w.heap.size (w.heap.size+1) i (q-1) wr):=hM;clear g hM;by_cases E:i+q<=ſ ws
    .obtain⟨b0,o0,ea,Al⟩:=HW.o.some (show 0<ſ ws by omega);subst ea;have Aj:(i:Int)+(q:Int)<=(ſ ws:Int):=by omega
     have At:=wZ b0 o0 (ſ ws) cap i q (by omega) (by omega);have P:wr.cell? ⟨w,i+q,Õ⟩=È (Ï Ì ((best wd (ws.drop (i+q)):Nat):Int)):=B.o.l.cl (i+q) (by omega) E
     have Z:Hid (∀n,Cp 223 #[Á (È ⟨b0,o0+i,Õ⟩) q (cap-i)] (wr.drewN n) λe a=>e=Å (Ï Ì (ln ((ws.drop i).take q)))/\a=wr.drewN n):=λn=>
      (KJ HW.o y.o G.o i q (cap-i) n M E).mono λ_ _ h=>⟨h.1,h.2.symm⟩
     have O:Hid (∀n,Cp 222 #[Ï Ì (ln ((ws.drop i).take q)),Ï Ì wd,ß ((i:Int)+(q:Int)==(ſ ws:Int))] (wr.drewN n) λe a=>e=Å (Ï Ì (bd (ln ((ws.drop i).take q)) wd (q==ſ ws-i)))/\a=wr.drewN n):=λn=>by
      rw[yI E];exact(VW _ wd _ _ ((y.o.drop i).take q).ln hw).mono λ_ _ h=>⟨h.1,h.2.symm⟩
     have H:Hid (dK wd (ws.drop i) q=bd (ln ((ws.drop i).take q)) wd (q==ſ ws-i)+best wd (ws.drop (i+q))):=wH wd ws i q;have L:=wI hw (y.o.drop i) q;rw[H.o]at L;generalize ln ((ws.drop i).take q)=lv at Z O H L;generalize bd lv wd (q==ſ ws-i)=bv at O H L;generalize best wd (ws.drop (i+q))=sv at P H L;go_wp2_with fail
     go_quiet (first|(go_at_call 223;exact Calls.quiet_of_same (Z.o _))|(go_at_call 222;exact Calls.quiet_of_same (O.o _)))
     obtain⟨y1,e1⟩:=B.o.l.rl.cell (show i<ſ ws+1 by omega);obtain⟨y2,e2⟩:=B.o.l.rf.cell v;have f1:wr.frozen? ⟨w,i,Õ⟩=false:=B.o.l.rl.frozen;have f2:wr.frozen? ⟨w.heap.size+1,i,Õ⟩=false:=B.o.l.rf.frozen;have Af:w.heap.size+1<wr.heap.size:=B.o.l.rf.lt;by_cases U:q=1
     .have Ae:((q:Int)==1)=true:=by simp[U]
      have d:=aa (Gg (nq:=nq) B.o v M H.o (.inl U));clear U;go_wp2
      go_roundw
      case rel=>exact⟨EZ (aP G.o nq) Zl (by omega),q+1,by omega,by omega,by go_num,d.o⟩
      case measure=>simp[Ö];omega
     .have Ae:((q:Int)==1)=false:=by simp;omega
      have Ab:=(B.o.c (by omega)).1;generalize s:dI (dK wd (ws.drop i)) (q-1)=mv at Ab;have b:Hid (dI (dK wd (ws.drop i)) (q-1)=mv):=s;clear s e1;by_cases S:bv+sv<=mv
      .have d:=aa (Gg (nq:=nq) B.o v M H.o (.inr (by rw[b.o];exact S)));have p:(bv:Int)+(sv:Int)<=(mv:Int):=by omega
       clear U S;go_wp2
       go_roundw
       case rel=>exact⟨EZ (aP G.o nq) Zl (by omega),q+1,by omega,by omega,by go_num,d.o⟩
       case measure=>simp[Ö];omega
      .have d:=aa (UT (nq:=nq) B.o M (by rw[H.o,b.o];omega) U);have p:¬(bv:Int)+(sv:Int)<=(mv:Int):=by omega
       clear U S;go_wp2
       go_roundw
       case rel=>exact⟨aP G.o nq,q+1,by omega,by omega,by go_num,d.o⟩
       case measure=>simp[Ö];omega
    .have Am:¬(i:Int)+(q:Int)<=(ſ ws:Int):=by omega
     have HD:Hid (ic wd ws w.heap.size (w.heap.size+1) i wr):=B.o.done v (by omega);go_wp2
     go_roundw
     case rel=>exact⟨G.o,i,by omega,by go_num,HD.o⟩
     case measure=>simp[Ö]
def cz(wd:Nat)(ws:List ByteArray):List ByteArray:=mu ws (eF wd ws)
theorem mz(A){ws}(h:ws≠[]):cz A ws=dw (ws.take (eT A ws))::cz A (ws.drop (eT A ws)):=by
 rw[cz,pW A h];rfl
theorem lG(A):cz A []=[]:=by rw[cz,oG];rfl
theorem pY(A:Nat):∀(n:Nat)(ws:List ByteArray),ſ ws<=n->(cz A ws).length<=ſ ws
 | 0,ws,h=>by
  have:ws=[]:=Ë (by omega)
  subst this;rw[lG];simp
 | n+1,ws,h=>by
  by_cases B:ws=[]
  .subst B;rw[lG];simp
  .have C:=mW A B;have ih:=pY A n (ws.drop (eT A ws)) (by simp only[Â];omega);rw[mz A B,Ñ];simp only[Â]at ih;omega
theorem Ob(s)(w:Ê)(h:s.size<=281474976710656):
  Cb 115 #[Æ s] w (Æ s):=by
 unfold Cb;go_in;go_wp2_with fail;refine ai (zl s _ h) λB A=>?_
 go_wp2;go_ret;exact⟨rfl,A⟩
theorem VY(n ws)(S:ſ ws=n)(b o c:Nat)(w:Ê)(R:n<=c)(P:b<w.heap.size)(K:dC ws)(O:bN w (È ↑(b,o)) ws):
  Cb 198 #[Á (È ↑(b,o)) n c] w (Æ (dw ws)):=by
 unfold Cb;subst S
 have A:Hid (∀W:Ê,Î w w W->Cb 155 #[Á (È ↑(b,o)) (ſ ws) c,Æ ⟨#[32]⟩] W (Æ (dw ws))):=λW N=>by
  have I:=K.ln;have E:=K.1;refine vO b o c ws ⟨#[32]⟩ W ?_ (Ú P N.size) (by omega) R ?_
  .intro j x G;obtain⟨D,rfl⟩:=É.1 G;obtain⟨H,J,e,_,C⟩:=bN.W O N j D;simp only[Option.some.injEq,Addr.mk.injEq,and_true]at e;obtain⟨rfl,rfl⟩:=e;exact C
  .have:=F4 ws
   show(jx ws).length<=_
   omega
 have B:(dw ws).size<=281474976710656:=by
  rw[tL]
  have:=K.ln
  omega
 generalize dw ws=s at A B;go_in;go_wp2_with fail;refine ai (A.o _ Zb) λU L=>?_
 go_wp2_with fail;refine ai (Ob s _ B) λV M=>?_
 go_wp2;go_ret;exact⟨rfl,aH L Zl M⟩
structure sT(wd:Nat)(ws:List ByteArray)(ks:List Nat)(w w1:Ê)(k:Nat)(vs done:List ByteArray)(A L:Option Addr)(c lc:Nat)(wr:Ê):Prop where
 b:Î w1 w1 wr
 le:k<=ſ ks
 vc:ſ vs<=c
 wo:bN w A vs
 fe:dC vs
 cu:ks.drop k=eF wd vs
 ro:cP w1 (Á L (ſ done) lc) done wr
 li:cz wd ws=done++cz wd vs
 dl:ſ done+ſ vs<=60
theorem sT.step{K:Nat}{ws:List ByteArray}{O:List Nat}{w M:Ê}{k:Nat}{J A:List ByteArray}{b o:Nat}{L:Option Addr}{c V:Nat}{wr:Ê}(h:sT K ws O w M k J A (È ⟨b,o,Õ⟩) L c V wr)(R:k<ſ O):
  ∃q,O[k]=q/\1<=q/\q<=ſ J/\∃N,(∀W:Ê,(Instr.slice 72 (Á (È ⟨b,o,Õ⟩) (ſ J) c) (È (Ï Ì (q:Int))) Õ Õ).run prog W=.ok (Á N (J.drop q).length (c-q)) W)/\
   ∀g I P,Î M M P->cP M (Á (È ⟨g,0,Õ⟩) (A++[dw (J.take q)]).length I) (A++[dw (J.take q)]) P->sT K ws O w M (k+1) (J.drop q) (A++[dw (J.take q)]) N (È ⟨g,0,Õ⟩) (c-q) I P:=by
 have B:J≠[]:=λe=>by
  have C:=h.cu;rw[e,oG]at C
  have:=congrArg Þ C
  rw[Â,Í]at this;omega
 have C:=h.cu;rw[À R,pW K B,List.cons.injEq]at C;obtain⟨H,D⟩:=mW K B;obtain⟨N,E,G⟩:=LF h.wo D h.vc;refine⟨eT K J,C.1,H,D,N,E,λg I P S U=>?_⟩;exact{b:=S,le:=R,vc:=by have:=h.vc;rw[Â];omega,wo:=G,fe:=h.fe.drop _,cu:=C.2,ro:=U,li:=by rw[h.li,mz K B,Û];rfl,dl:=by have:=h.dl;rw[Ä,Â];simp;omega}
theorem VX(ws a)(cap wd:Nat)(w:Ê)(hc:ſ ws<=cap)(hW:bN w a ws)(h0:gD ws wd=0):
  â prog 154 #[Á a (ſ ws) cap,wd] w λe a=>(∃L c,e=Å (.tuple #[Á L (cz wd ws).length c,.nilIface])/\cP w (Á L (cz wd ws).length c) (cz wd ws) a)/\Î w w a:=by
 obtain⟨Ad,n,At,Au,Ah⟩:=Nu h0;obtain rfl:wd=n:=by omega
 have H0:=aa h0;have o:=aa (Hz Ad);have hl:=o.o.1;have y:=aa hW;go_in;go_wp2_with fail;refine an (Tw ws a cap wd _ y.o) ?_;rw[H0.o,cS];go_wp2_with fail;refine(Pa ws a cap wd _ hc o.o Ah y.o).mono ?_;rintro e w1⟨⟨K,kc,rfl,hO⟩,S⟩;generalize Y:eF wd ws=G at hO;have HK:=aa hO;have t:=aa Y;have O:=aa S
 have Ar:ſ G<=60:=by
  have:=pY wd _ ws Zl
  have e:∀(G:List Nat)(ws:List ByteArray),(mu ws G).length=ſ G:=by
   intro G
   induction G with
   | nil=>intro ws;rfl
   | cons k r ih=>intro ws;simp[mu,ih]
  rw[cz,e,Y]at this;omega
 have M:=S.size;go_wp2
 go_loopw [0,7,20] (λl x i wr=>∃(k:Nat)(C B:List ByteArray)(A L:Option Addr)(c d:Nat),l=Á A (ſ C) c/\x=Á L (ſ B) d/\i=(k:Int)/\sT wd ws G w w1 k C B A L c d wr) (λ_ _ i _=>ſ G-(Ö i).toNat)
 case atStart=>exact⟨0,ws,[],a,Õ,cap,0,rfl,rfl,rfl,{b:=Ã _ _,le:=Ð _,vc:=hc,wo:=y.o,fe:=o.o,cu:=t.o.symm,ro:=World.ownsRow_nil _ _ _ _,li:=rfl,dl:=by simpa using hl}⟩
 case round=>
  obtain⟨k,C,B,A,L,c,d,rfl,rfl,rfl,R⟩:=hrel;have D:=aa R;have As:=R.le;have Ay:=R.vc;have Ap:=R.dl;have Ai:=R.b.size;by_cases Z:k<ſ G
  .have Ag:(k:Int)<(ſ G:Int):=by omega
   obtain⟨g,rfl,hg,c0⟩:=JI HK.o k Z;have c1:=(D.o.b.cell (p:=(g,k)) hg).trans c0
   have Aj:0<ſ C:=by
    rcases Nat.eq_zero_or_pos (ſ C) with h|h
    .have:C=[]:=Ë h
     have N:=D.o.cu;rw[this,oG]at N
     have:=congrArg Þ N
     rw[Â,Í]at this;omega
    .exact h
   obtain⟨z,o0,ea,Ab⟩:=D.o.wo.some Aj;subst ea;obtain⟨q,hq,Av,Aw,A',hs,I⟩:=D.o.step Z;rw[hq]at c1;have P:=aa I;have Ae:=LE (È ↑(z,o0)) (ſ C) c q (by omega);have U:=O.o.trans (D.o.b.mono M)
   have HL:Hid (Cb 198 #[Á (È ↑(z,o0)) q c] wr (Æ (dw (C.take q)))):=
    VY q (C.take q) (by rw[List.length_take];omega) z o0 c wr (by omega) (Ú Ab U.size) (D.o.fe.take q) (bN.W (D.o.wo.take q) U)
   generalize Aq:dw (C.take q)=s at HL P;generalize X:(C.drop q).length=dl at hs;have m:=aa X;go_wp2_with fail;refine ai HL.o λw2 hb2=>?_
   have Q:=aa (gN D.o.ro hb2);have V:=D.o.b.trans (hb2.mono Ai);have f:=aa V;have Ax:=V.size;obtain⟨i0,Af,Ak,Al,Am⟩:=info_parts j7;go_wp2_with(at_builtin;refine Ù _ rfl _ _ 72 rfl w1.heap.size 9 i0 _ 1 16 Tryz.underlying72 Af Ak Al Am rfl (by decide) _ _ _ rfl (World.ownsRow.alloc Q.o _) w2.heap.size 1 1 [Æ s] rfl rfl (cell_one_new w2 _ _) (by intro u hu;simp at hu;subst hu;rfl) (by decide) (by unfold maxLen;omega) (by omega) (by simp;omega) (w2.heap.size+1) (by simp) ?_);intro g2 E w3 J H An Ao;have Ac:=(f.o.alloc (by omega) (.cells #[Æ s] 9)).grown H (by simp;omega) (λj a=>(World.ownsRow.lt Q.o j a).1)
   have Aa:cP w1 (Á g2 (B++[s]).length E) (B++[s]) w3:=by
    show w3.ownsRow _ _ _ _ _ _;rw[lB,Ä];exact J
   have v:=aa (P.o g2 E w3 Ac Aa);go_wp2
   go_roundw
   case rel=>exact⟨k+1,C.drop q,B++[s],A',È ↑g2,c-q,E,by rw[m.o],by rw[Ä];rfl,by go_num,v.o⟩
   case measure=>simp[Ö];omega
  .have Ag:¬(k:Int)<(ſ G:Int):=by omega
   have HE:Hid (cz wd ws=B):=by
    show cz wd ws=B;have N:=D.o.cu;rw[Ó (by omega)]at N
    have h2:C=[]:=by
     by_cases h:C=[]
     .exact h
     .rw[pW wd h]at N;cases N
    rw[D.o.li,h2,lG,à]
   go_wp2;go_ret2;rw[HE.o];exact⟨⟨L,d,rfl,Joins.ownsRow_le D.o.ro M⟩,O.o.trans (D.o.b.mono M)⟩
set_option maxHeartbeats 8000000
theorem Sn{w S}(h:ab w=S)(L:∀b∈w,ay b=true)(M:ſ w<=6):∃N:Nat->Nat,N 0=0/\N S.size=aY w/\∀k(h:k<S.size),N (k+1)=N k*10+(S[k].toNat-48)/\48<=S[k].toNat/\S[k].toNat<=57/\N k<=1000000:=by
 subst h;have H:(ab w).size=ſ w:=rfl
 have B:∀k(h:k<ſ w),aY (w.take (k+1))=aY (w.take k)*10+(w[k].toNat-48):=by
  intro k h;rw[List.take_succ_eq_append_getElem h];unfold aY;rw[List.foldl_append];rfl
 have A:∀k(h:k<ſ w),48<=w[k].toNat/\w[k].toNat<=57:=by
  intro k h;have D:=L w[k] (Ý h);unfold ay at D;simpa using D
 have G:∀k,k<=ſ w->aY (w.take k)+1<=10 ^ k:=by
  intro k
  induction k with
  | zero=>intro _;simp[aY]
  | succ k ih=>
   intro E;have D:=ih (by omega);have I:=A k (by omega);rw[B k (by omega),Nat.pow_succ];omega
 refine⟨λk=>aY (w.take k),by simp[aY],by show aY (w.take (ſ w))=_;rw[List.take_length],λk E=>?_⟩;have C:=E;have J:=G k (by omega);have K:10 ^ k<=10 ^ 6:=Nat.pow_le_pow_right (by omega) (by omega);exact⟨B k C,(A k C).1,(A k C).2,by show aY (w.take k)<=1000000;omega⟩
theorem Gi{w}(h:bb w=true):w≠[40]/\w≠[91]/\dN w=false:=by
 refine⟨λe=>?_,λe=>?_,?_⟩
 .rw[e,vV]at h;cases h
 .rw[e,vW]at h;cases h
 .cases A:dN w with
  | false=>rfl
  | true=>rw[nZ A]at h;cases h
theorem MF{w}(h:dN w=true):w≠[40]/\w≠[91]/\bb w=false:=by
 refine⟨λe=>?_,λe=>?_,nZ h⟩
 .rw[e,Iz]at h;cases h
 .rw[e,IA]at h;cases h
theorem GO{b A c ws p}{w:Ê}{I x}(H:p<ſ ws)(C:b<w.heap.size)(K:Rd I b A c ws (p+1) false)(J:ak w b w I)(L:PR .single (ws.drop p) (.ok 0 [x] (ws.drop (p+1)))):
  gq b A c ws .single p w (.ok 0 [x] (ws.drop (p+1))) [x] (Á I.heap.size 1 1) (I.alloc (.cells #[x.op,Æ x.tx,x.n] 81)):=by
 have E:=J.size;have D:(ws.drop p).length=ſ ws-p:=dE (by omega);have B:(ws.drop (p+1)).length=ſ ws-(p+1):=dE (by omega);have G:ſ ws-(Rs.ok 0 [x] (ws.drop (p+1))).rest.length=p+1:=by simp only[Rs.rest,B];omega
 refine⟨L,(au.one I x).down E,by rw[D];simp only[Rs.rest,B,Ñ,Í];omega,(λ_ _ _ e=>by cases e;rfl),?_,?_⟩
 .rw[G];exact K.keepB (Zb.alloc E _) C
 .exact J.alloc E _
theorem Ol{b A c ws p}(hl:ſ ws<=60000)(H:p<ſ ws)(Q:ws[p]≠[])(e:dN ws[p]=true)(ht:dR ws[p]):kO b A c ws p:=by
 intro w h;have HD:=aa h;have g:b<w.heap.size:=h.row.lt;have f1:w.frozen? (b,1)=false:=h.row.frozen;have f2:w.frozen? ↑(b,2)=false:=h.row.frozen;obtain⟨c0,c1,c2,_,v,_⟩:=h;have Ad:¬(ſ ws:Int)<=(p:Int):=by omega
 have u:(p:Int)<(ſ ws:Int):=by omega
 have U:Hid (ws.drop p=ws[p]::ws.drop (p+1)):=À H;obtain⟨ba,oa,rfl,Ac,q⟩:=v p (by rw[Ô];exact H);rw[Ò]at q;have G:Hid (aL (ab ws[p])=bb ws[p]):=(show aL (ab ws[p])=bb ws[p]from rfl);have D:((ab ws[p]).toList==[40])=(ws[p]==[40]):=by rw[Ç];rfl
 have E:((ab ws[p]).toList==[91])=(ws[p]==[91]):=by rw[Ç];rfl
 generalize P:ab ws[p]=X at q G D E;obtain⟨o,R⟩:=nW P Q;have HX:Hid (ab ws[p]=X):=P;have x:(0:Int)<(X.size:Int):=by omega
 have J:Hid (∀W:Ê,Cw 27 #[Ï .u8 (X[0].toNat:Int)] W (ß (dN ws[p]))):=λW=>by
  have:=jz X[0] W
  rw[R o]at this;exact this
 have K:Hid (∀W:Ê,Cw 33 #[Æ X] W (ß (bb ws[p]))):=λW=>by
  have:=iV X W
  rw[G.o]at this;exact this
 have Aa:Hid (∀B,Î w w (w.drewN B)):=λB=>aP (Ã _ w) B
 obtain⟨s,L,t⟩:=MF e;have y:(ws[p]==[40])=false:=by simpa using s
 have z:(ws[p]==[91])=false:=by simpa using L
 rw[y]at D;rw[z]at E;rw[e]at J;rw[t]at K;have C:=LT ht e;obtain⟨N,f,O,M⟩:=Sn P C.1 C.2;have Y:Hid (N X.size=aY ws[p]):=O;have V:Hid (∀k(h:k<X.size),N (k+1)=N k*10+(X[k].toNat-48)/\48<=X[k].toNat/\X[k].toNat<=57/\N k<=1000000):=M
 have Z:Hid (PR .single (ws.drop p) (.ok 0 [nH ws[p]] (ws.drop (p+1)))):=by
  show PR _ _ _;rw[U.o];exact .sNum e
 have Ab:X.size<=6:=by rw[<-P];exact C.2
 have a:Hid (∀B,Rd ((w.drewN B).setCell ↑(b,1) ↑((p:Int)+1)) b (È ↑(ba,oa)) c ws (p+1) false):=λB=>by
  have L:=(HD.o.keep (aP (Ã _ w) B)).setAt (p+1);rw[show((p+1:Nat):Int)=(p:Int)+1 by omega]at L;exact L
 have S:Hid (∀B,ak w b w ((w.drewN B).setCell ↑(b,1) ↑((p:Int)+1))):=λB=>(ak.of (aP (Ã _ w) B)).setCell (p:=↑(b,1)) (.inl rfl) _
 clear s L t y z e ht C O M;clear P R Q v G;show â _ _ _ _ _;go_in;go_wp2_with fail
 go_quiet (fail)
 go_wp2_with fail
 go_quiet (fail)
 go_wp2_with fail;refine an (K.o _) ?_;go_wp2_with fail;refine an (J.o _) ?_;go_wp2_with fail
 go_loopw [10,11] (λn i wr=>∃k:Nat,k<=X.size/\i=↑(k:Int)/\n=↑(N k:Int)/\∃B,wr=(w.drewN B).setCell ↑(b,1) ↑((p:Int)+1)) (λ_ i _=>X.size-(Ö i).toNat)
 case atStart=>exact⟨0,Ð _,rfl,by rw[f];rfl,_,rfl⟩
 case round=>
  obtain⟨k,hk,rfl,rfl,B,rfl⟩:=hrel;by_cases m:k<X.size
  .have l:(k:Int)<(X.size:Int):=by omega
   obtain⟨r,e2,e3,e4⟩:=V.o k m;have I:Hid (N (k+1)=N k*10+(X[k].toNat-48)):=r;generalize Ae:X[k].toNat=xk at e2 e3 I;clear r;go_wp2
   go_roundw
   case rel=>
    refine⟨k+1,by omega,by go_num,?_,B,rfl⟩;rw[I.o]
    congr 1
    omega
   case measure=>simp[Ö];omega
  .have l:¬(k:Int)<(X.size:Int):=by omega
   have j:k=X.size:=by omega
   subst j;rw[Y.o];have d:=GO H g (a.o B) (S.o B) Z.o;rw[World.size_setCell]at d;have HG:=aa d;clear d;go_wp2;go_ret;exact⟨_,[nH ws[p]],_,_,rfl,HG.o⟩
theorem M0{b A c ws p}(hl:ſ ws<=60000)(G:p<ſ ws)(P:ws[p]≠[])(hn:bb ws[p]=true)(h5:(ws[p+1]?==È [40])=false):kO b A c ws p:=by
 intro w h;have s:=aa h;have Y:b<w.heap.size:=h.row.lt;have f1:w.frozen? ↑(b,1)=false:=h.row.frozen;have f2:w.frozen? ↑(b,2)=false:=h.row.frozen;obtain⟨z,c1,c2,_,k,_⟩:=h;have x:¬(ſ ws:Int)<=(p:Int):=by omega
 have j:(p:Int)<(ſ ws:Int):=by omega
 have R:Hid (ws.drop p=ws[p]::ws.drop (p+1)):=À G;obtain⟨a,o,rfl,v,d⟩:=k p (by rw[Ô];exact G);rw[Ò]at d;have D:Hid (aL (ab ws[p])=bb ws[p]):=(show aL (ab ws[p])=bb ws[p]from rfl);have B:((ab ws[p]).toList==[40])=(ws[p]==[40]):=by rw[Ç];rfl
 have C:((ab ws[p]).toList==[91])=(ws[p]==[91]):=by rw[Ç];rfl
 generalize V:ab ws[p]=X at d D B C;obtain⟨Z,Q⟩:=nW V P;have u:Hid (ab ws[p]=X):=V;have l:(0:Int)<(X.size:Int):=by omega
 have K:Hid (∀W:Ê,Cp 27 #[Ï .u8 (X[0].toNat:Int)] W λe H=>e=Å (ß (dN ws[p]))/\W=H):=λW=>by
  have:=jz X[0] W
  rw[Q Z]at this;exact this
 have L:Hid (∀W:Ê,Cp 33 #[Æ X] W λe H=>e=Å (ß (bb ws[p]))/\W=H):=λW=>by
  have:=iV X W
  rw[D.o]at this;exact this
 have r:Hid (∀a,Î w w (w.drewN a)):=λq'=>aP (Ã _ w) q'
 obtain⟨f,M,g⟩:=Gi hn;have m:(ws[p]==[40])=false:=by simpa using f
 have n:(ws[p]==[91])=false:=by simpa using M
 rw[m]at B;rw[n]at C;rw[g]at K;rw[hn]at L
 have U:Hid (PR .single (ws.drop p) (.ok 0 [lz ws[p]] (ws.drop (p+1)))):=by
  show PR _ _ _;rw[R.o];refine .sName hn ?_;rw[mF];intro e;rw[e]at h5;exact absurd h5 (by decide)
 have E:Hid (∀d,Rd ((w.drewN d).setCell ↑(b,1) ↑((p:Int)+1)) b (È ↑(a,o)) c ws (p+1) false):=λq'=>by
  have M:=(s.o.keep (aP (Ã _ w) q')).setAt (p+1);rw[show((p+1:Nat):Int)=(p:Int)+1 by omega]at M;exact M
 have J:Hid (∀a,ak w b w ((w.drewN a).setCell ↑(b,1) ↑((p:Int)+1))):=λq'=>(ak.of (aP (Ã _ w) q')).setCell (p:=↑(b,1)) (.inl rfl) _
 have S:Hid (∀d,Cp 32 #[ä ↑b,Æ ⟨#[40]⟩] ((w.drewN d).setCell ↑(b,1) ↑((p:Int)+1)) λe H=>e=Å (ß false)/\Rd H b (È ↑(a,o)) c ws (p+1) false/\ak w b w H):=λq'=>by
  have I:=oW (E.o q') [40];rw[show(!false&&(ws[p+1]?==È [40]))=false from h5]at I;refine I.mono ?_;rintro e H⟨rfl,q,rfl⟩;exact⟨rfl,(E.o q').keep (aP Zb q),(J.o q').trans (ak.of (aP Zb q))⟩
 clear f M g m n hn h5 E J;clear V Q P k D;show â _ _ _ _ _;go_in;go_wp2_with fail
 go_quiet (fail)
 go_wp2_with fail
 go_quiet (fail)
 go_wp2_with fail;refine an (L.o _) ?_;go_wp2_with fail;refine an (K.o _) ?_;go_wp2_with fail;refine(S.o _).mono ?_;rintro e y⟨rfl,O,N⟩;have i:=GO G Y O N U.o;have t:=aa i;clear i O N;go_wp2;go_ret;refine⟨.ok 0 [lz ws[p]] (ws.drop (p+1)),[lz ws[p]],È ↑y.heap.size,1,rfl,?_⟩;have I:=t.o;unfold lz at I⊢;simp only[u.o]at I⊢;exact I
theorem MZ{b A c ws p}(hl:ſ ws<=60000)(k:p<ſ ws)(m:ws[p]≠[])(hn:bb ws[p]=true)(h5:(ws[p+1]?==È [40])=true)(hL:sI b A c ws [41] (p+2)):kO b A c ws p:=by
 intro w h;have HD:=aa h;have Ag:b<w.heap.size:=h.row.lt;have f1:w.frozen? ↑(b,1)=false:=h.row.frozen;have f2:w.frozen? ↑(b,2)=false:=h.row.frozen;obtain⟨c0,c1,c2,_,hw,_⟩:=h;have As:¬(ſ ws:Int)<=(p:Int):=by omega
 have Al:(p:Int)<(ſ ws:Int):=by omega
 have Ab:Hid (ws.drop p=ws[p]::ws.drop (p+1)):=À k;obtain⟨y,oa,rfl,Aq,d0⟩:=hw p (by rw[Ô];exact k);rw[Ò]at d0;have N:Hid (aL (ab ws[p])=bb ws[p]):=(show aL (ab ws[p])=bb ws[p]from rfl);have K:((ab ws[p]).toList==[40])=(ws[p]==[40]):=by rw[Ç];rfl
 have L:((ab ws[p]).toList==[91])=(ws[p]==[91]):=by rw[Ç];rfl
 generalize hX:ab ws[p]=X at d0 N K L;obtain⟨Ak,s⟩:=nW hX m;have HX:Hid (ab ws[p]=X):=hX;have Am:(0:Int)<(X.size:Int):=by omega
 have V:Hid (∀W:Ê,Cp 27 #[Ï .u8 (X[0].toNat:Int)] W λe G=>e=Å (ß (dN ws[p]))/\W=G):=λW=>by
  have:=jz X[0] W
  rw[s Ak]at this;exact this
 have a:Hid (∀W:Ê,Cp 33 #[Æ X] W λe G=>e=Å (ß (bb ws[p]))/\W=G):=λW=>by
  have:=iV X W
  rw[N.o]at this;exact this
 have An:Hid (∀a,Î w w (w.drewN a)):=λq'=>aP (Ã _ w) q'
 obtain⟨h1,P,f⟩:=Gi hn;have k1:(ws[p]==[40])=false:=by simpa using h1
 have k2:(ws[p]==[91])=false:=by simpa using P
 rw[k1]at K;rw[k2]at L;rw[f]at V;rw[hn]at a;have h6:ws[p+1]?=È [40]:=by simpa using h5
 obtain⟨Ah,h7⟩:=É.1 h6
 have I:Hid (ws.drop p=ws[p]::[40]::ws.drop (p+2)):=by
  show _=_;rw[Ab.o,À Ah,h7]
 have J:Hid (bb ws[p]=true):=hn
 have O:Hid (∀a,Rd ((w.drewN a).setCell ↑(b,1) ↑((p:Int)+1)) b (È ↑(y,oa)) c ws (p+1) false):=λq'=>by
  have P:=(HD.o.keep (aP (Ã _ w) q')).setAt (p+1);rw[show((p+1:Nat):Int)=(p:Int)+1 by omega]at P;exact P
 have S:Hid (∀a,ak w b w ((w.drewN a).setCell ↑(b,1) ↑((p:Int)+1))):=λq'=>(ak.of (aP (Ã _ w) q')).setCell (p:=↑(b,1)) (.inl rfl) _
 have Ad:Hid (∀a,Cp 32 #[ä ↑b,Æ ⟨#[40]⟩] ((w.drewN a).setCell ↑(b,1) ↑((p:Int)+1)) λe G=>e=Å (ß true)/\Rd G b (È ↑(y,oa)) c ws (p+1) false/\ak w b w G):=λq'=>by
  have h9:=oW (O.o q') [40];rw[show(!false&&(ws[p+1]?==È [40]))=true from h5]at h9;refine h9.mono ?_;rintro e G⟨rfl,q2,rfl⟩;exact⟨rfl,(O.o q').keep (aP Zb q2),(S.o q').trans (ak.of (aP Zb q2))⟩
 have Y:=(show Hid (sI b (È ↑(y,oa)) c ws [41] (p+2))from hL);clear h1 P f k1 k2 hn h5 h6 h7 O S hL;clear hX s m hw N;show â _ _ _ _ _;go_in;go_wp2_with fail
 go_quiet (fail)
 go_wp2_with fail
 go_quiet (fail)
 go_wp2_with fail;refine an (a.o _) ?_;go_wp2_with fail;refine an (V.o _) ?_;go_wp2_with fail;refine(Ad.o _).mono ?_;rintro e w2⟨rfl,H,i⟩;have Ao:=H.c1;have Ap:w2.frozen? ↑(b,1)=false:=H.row.frozen
 have HL:Hid (Cp 70 #[ä ↑b,Æ ⟨#[41]⟩] (w2.setCell ↑(b,1) ↑(((p+1:Nat):Int)+1)) λa G=>∃d r n t v z,a=Å (.tuple #[↑((n:Nat):Int),Á v (ſ t) z])/\ak w b w d/\sG b (È ↑(y,oa)) c ws [41] (p+2) d r n t (Á v (ſ t) z) G):=by
  have h8:=H.setAt (p+2);rw[show((p+2:Nat):Int)=((p+1:Nat):Int)+1 by omega]at h8;refine(Y.o _ h8).mono ?_;rintro e G⟨r,n,t,v,z,h1,P⟩;exact⟨_,r,n,t,v,z,h1,i.setCell (p:=↑(b,1)) (.inl rfl) _,P⟩
 clear H i Y;go_wp2_with fail;refine HL.o.mono ?_;rintro e R⟨w1,r4,n,D,A4,c4,rfl,g,B⟩;have Ac:=aa B;have l:=B.nl;rw[dE (by omega)]at l;have Ar:=B.le;have Ai:=g.size;have Aj:=B.bt.size;have Af:Hid (aG R A4 D):=B.o.tds;generalize Q:ſ D=n4 at l;have Z:Hid (ſ D=n4):=Q
 have Ae:Hid (A4=Õ->n4=0/\c4=0):=by
  have f:=B.o.none;rw[Q]at f;exact f.2
 have M:w.heap.size<=R.heap.size:=by omega
 have d:Hid (au w (Á ↑R.heap.size 1 1) [(⟨3,X,(n:Nat)⟩:Td)] (R.alloc (.cells #[Ï Ì 3,Æ X,↑(n:Int)] 81))):=(au.one R ((⟨3,X,(n:Nat)⟩:Td))).down M;have Aa:=aa g;clear B Q Ai Aj;go_wp2_with(at_builtin;refine jf rfl _ _ rfl w.heap.size _ [(⟨3,X,(n:Nat)⟩:Td)] rfl d.o A4 n4 D Z.o c4 rfl (Af.o.alloc _) Ae.o (1+n4) rfl (by omega) (by rw[World.size_alloc];omega) ?_);intro A5 c5 w5 E C;have j:Î w R w5:=(Zb.alloc M _).grown C (by rw[World.size_alloc];omega) (λa b=>(World.ownsRow.lt d.o a b).1);obtain⟨r',hG⟩:=zR (ws:=ws) (p:=p) (q:=p+2) (x:=(⟨3,X,(n:Nat)⟩:Td)) (by omega) (by omega) Ag Aa.o Ac.o (λu hu=>by rw[I.o];exact .sCB J.o hu) (λu hu=>by rw[I.o,<-HX.o];exact .sCO J.o hu) j E;have HG:=aa hG
 have U:Hid (((⟨3,X,(n:Nat)⟩:Td)::D).length=1+n4):=by
  show _=_;rw[Ñ,Z.o];omega
 clear E C j hG;go_wp2;go_ret;exact⟨r',(⟨3,X,(n:Nat)⟩:Td)::D,A5,c5,by rw[U.o];rfl,by rw[U.o];exact HG.o⟩
theorem BJ{b A c ws p}(M:ſ ws<=60000)(P:∀x∈ws,dR x)(O:p<=ſ ws)(N:∀q,p<q->q<=ſ ws->ii b A c ws 0 q):kO b A c ws p:=by
 by_cases B:p<ſ ws
 .have E:=P ws[p] (Ý B)
  have C:ws[p]≠[]:=by
   obtain⟨x,r,e,_⟩:=E;rw[e];simp
  by_cases I:ws[p]=[40]
  .exact Om M B C I (N _ (by omega) (by omega))
  .by_cases J:ws[p]=[91]
   .exact Ok M B C J (CV (by decide) M (by omega) λq G D=>N q (by omega) D)
   .cases G:dN ws[p]with
    | true=>exact Ol M B C G E
    | false=>
     cases D:bb ws[p]with
     | false=>exact SS M B C I J G D
     | true=>
      cases H:(ws[p+1]?==È ([40]:Wd))with
      | false=>exact M0 M B C D H
      | true=>
       have K:ws[p+1]?=È [40]:=by simpa using H
       obtain⟨L,_⟩:=É.1 K;exact MZ M B C D H (CV (by decide) M (by omega) λq G D=>N q (by omega) D)
 .exact Oj O (by omega)
theorem Ve{b A c ws}(H:ſ ws<=60000)(K:∀x∈ws,dR x):∀n p,p<=ſ ws->ſ ws-p<=n->ii b A c ws 2 p/\ii b A c ws 1 p/\ii b A c ws 0 p:=by
 intro n
 induction n with
 | zero=>
  intro p D G;have E:p=ſ ws:=by omega
  subst E;have B:ii b A c ws 2 (ſ ws):=CP (BJ H K D λq C B=>by omega)
  have C:ii b A c ws 1 (ſ ws):=tN 1 (.inr rfl) H D λq J I=>by
   have:q=ſ ws:=by omega
   subst this;exact B
  refine⟨B,C,tN 0 (.inl rfl) H D λq J I=>?_⟩
  have:q=ſ ws:=by omega
  subst this;exact C
 | succ n ih=>
  intro p D G;have B:=CP (BJ H K D λq C B=>(ih q B (by omega)).2.2)
  have C:ii b A c ws 1 p:=tN 1 (.inr rfl) H D λq J I=>by
   by_cases e:q=p
   .subst e;exact B
   .exact(ih q I (by omega)).1
  refine⟨B,C,tN 0 (.inl rfl) H D λq J I=>?_⟩;by_cases e:q=p
  .subst e;exact C
  .exact(ih q I (by omega)).2.1
theorem CO{b A c ws p}(B:ſ ws<=60000)(D:∀x∈ws,dR x)(C:p<=ſ ws):ii b A c ws 0 p:=(Ve B D _ p C Zl).2.2
