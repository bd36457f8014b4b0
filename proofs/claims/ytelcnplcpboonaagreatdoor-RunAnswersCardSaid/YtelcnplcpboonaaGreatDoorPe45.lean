import Derived.Test.YtelcnplcpboonaaGreatDoorPe38
import Derived.Test.YtelcnplcpboonaaGreatDoorPe42
import Derived.Test.YtelcnplcpboonaaGreatDoorPe36
open Go.Proofs.Tryz
open List renaming length->ſ
open Go.Value renaming slice->À,string->Â,int->Å,nilIface->Ç,tuple->È,pointer->Ô,agg->ä,iface->å
open List renaming take_succ_eq_append_getElem->Á,getElem_mem->Í,drop_eq_getElem_cons->Ð,length_pos_iff->Ñ,length_append->Ó,length_map->Ö,take_of_length_le->Ý,drop_eq_nil_of_le->Þ,getElem_map->á,mem_append->â
open Go.Ending renaming returned->Ã
open Option renaming none->Ä,some->É
open Go.IntKind renaming i64->Æ
open Go.RowKit renaming Below->Ê
open Go renaming World->Ë,bodyPost_ret->Ø,results->ã,Calls->ç
open Go.RowKit.Below renaming heap_alloc->Ì,refl->Î,heap_setCell->Ò
open Go.World renaming size_alloc->Ï
open Go.Obj renaming cells->Õ
open Nat renaming lt_of_le_of_lt->Ù,zero_le->Ú,ne_of_lt->Ü,le_trans->æ
open Go.Lib renaming join->Û,byteCells_length->ß,byteCells->à
namespace Go.Proofs.YtelcnplcpboonaaGreatDoor
open Go Go.RowKit
set_option maxRecDepth 100000
set_option maxHeartbeats 4000000
theorem Rq(D ws a E C wc)(J:ſ D<=C)(A:ſ ws<=wc)(K:ſ ws<=9223372036854775807)(w:Ë)(H:aS w a D)(G:eE w E ws):
  Cb 205 #[À a (ſ D) C,À E (ſ ws) wc] w (Â (ei (gn D ws))):=by
 unfold Cb;have B:=aa (Ts D ws a E C wc J A K w H G);generalize ei (gn D ws)=s at *;generalize aF (qc (gn D ws))=v at *;go_in;go_wp2_with fail;refine ai B.o λL I=>?_
 go_wp2;go_ret;exact⟨rfl,I⟩
def bE(ds:List Nd)(wd:Int):Int:=if bM ds=0 then(if wd<0\/100<wd then 1 else 0)else bM ds
open Classical in
noncomputable def bA(ds:List Nd)(wd:Int):eY:=if h:bM ds=0 then(if wd<0\/100<wd then((0,0),[])else bs wd.toNat 0 [(0,lT ds h)])else((0,0),[])
noncomputable def bT(ds:List Nd)(wd:Int):ByteArray:=if bE ds wd=0 then ei (gn ds (bA ds wd).2)else⟨#[]⟩
theorem Hn{ds wd}(h:bE ds wd≠0):bA ds wd=((0,0),[]):=by grind [bE,bA]
theorem ES{A}{wd:Nat}{t}(C:t.Wf)(e:A=t.N)(B:ſ A<=400)(D:wd<=100):bE A wd=0/\bA A wd=bs wd 0 [(0,t)]:=by grind [bM,qH,bE,bA,vF,bs]
theorem LV{t}(A:t.Wf)(wd):vv (ah t) wd 0 0=bs wd 0 [(0,t)]:=by rw[vv,(sc A).kont]
theorem Vh{w:Ë}{B H e A n v I}(h:w.ownsRow B e A v n I)(J:H<=B):w.ownsRow H e A v n I:=by
 refine⟨h.1,?_⟩;rcases h.2 with E|⟨g,c,D,rfl,G,C⟩
 .exact .inl E
 .exact .inr ⟨g,c,D,rfl,æ J G,C⟩
theorem GQ(w:Ë)(B):w.ownsRow B 3 1 (À Ä 0 0) 0 (db []):=⟨rfl,.inl ⟨rfl,rfl⟩⟩
def ko(ds:List Nd)(wd:Int)(w:Ë)(e:Ending)(w':Ë):Prop:=
 (∃a wc,e=Ã (È #[Â (bT ds wd),À a (bA ds wd).2.length wc,ä #[Å Æ (bA ds wd).1.1,Å Æ (bA ds wd).1.2],aF (bE ds wd)])/\w'.ownsRow w.heap.size 3 1 (À a (bA ds wd).2.length wc) (bA ds wd).2.length (db (bA ds wd).2))/\Ê w w w'
theorem TN(ds wd a L w)(P:aS w a ds)(h:bM ds≠0):
  ç prog 157 #[À a (ſ ds) L,Å Æ wd] w λe R=>ko ds wd w e R:=by
 have B:bE ds wd=bM ds:=by rw[bE,if_neg h]
 have E:=Hn (ds:=ds) (wd:=wd) (by rw[B];exact h);have G:bT ds wd=⟨#[]⟩:=by rw[bT,if_neg (by rw[B];exact h)]
 have D:Hid (∀O,aS (w.alloc O) a ds):=λO=>P.W ((Î _ w).alloc Zl O)
 have H:=aa h;unfold ko;rw[B,E,G,cN h];go_in;go_wp2_with fail;refine ai (lC ds a L _ (D.o _)) λN M=>?_
 rw[cN H.o];obtain⟨A,I⟩:=a9 M;have J:N.cell? w.heap.size=É (Å Æ 0):=(A _ _ (by simp)).trans (by simp[go_sem]);have K:N.cell? (w.heap.size,1)=É (Å Æ 0):=(A _ _ (by simp)).trans (by simp[go_sem]);have C:=((Î _ w).alloc Zl _).trans (M.mono (by simp));go_wp2;refine Ø (v:=È #[Â ⟨#[]⟩,À Ä 0 0,ä #[Å Æ 0,Å Æ 0],å 50 (bM ds)]) (by simp[ã,Tryz.results157,go_sem,J,K]) rfl ?_;exact⟨⟨Ä,0,rfl,GQ _ _⟩,(C.setCell (p:=w.heap.size) Zl _).setCell (p:=(w.heap.size,1)) Zl _⟩
theorem Nf(ds)(wd:Int)(a M w)(R:aS w a ds)(h:bM ds=0)(hw:wd<0\/100<wd):
  ç prog 157 #[À a (ſ ds) M,wd] w λe S=>ko ds wd w e S:=by
 have B:bE ds wd=1:=by rw[bE,if_pos h,if_pos hw]
 have E:=Hn (ds:=ds) (wd:=wd) (by rw[B];decide);have G:bT ds wd=⟨#[]⟩:=by rw[bT,if_neg (by rw[B];decide)]
 have D:Hid (∀O,aS (w.alloc O) a ds):=λO=>R.W ((Î _ w).alloc Zl O)
 have H:=aa h;unfold ko;rw[B,E,G,o5];rcases hw with hw|hw
 case' inr=>have J:¬wd<0:=by omega
 all_goals
  go_in;go_wp2_with fail;refine ai (lC ds a M _ (D.o _)) λP N=>?_
  rw[H.o,cS];obtain⟨A,I⟩:=a9 N;have K:P.cell? w.heap.size=É (Å Æ 0):=(A _ _ (by simp)).trans (by simp[go_sem]);have L:P.cell? (w.heap.size,1)=É (Å Æ 0):=(A _ _ (by simp)).trans (by simp[go_sem]);have C:=((Î _ w).alloc Zl _).trans (N.mono (by simp));go_wp2;refine Ø (v:=È #[Â ⟨#[]⟩,À Ä 0 0,ä #[Å Æ 0,Å Æ 0],å 50 (Å Æ 1)]) (by simp[ã,Tryz.results157,go_sem,K,L]) rfl ?_;exact⟨⟨Ä,0,rfl,GQ _ _⟩,(C.setCell (p:=w.heap.size) Zl _).setCell (p:=(w.heap.size,1)) Zl _⟩
theorem JW(ds)(t:Tr)(hd:ds=t.N)(ht:t.Wf)(hl:ſ ds<=400)(wd:Nat)(hw:wd<=100)(a cap)(hc:ſ ds<=cap)(w)(hN:aS w a ds):
  ç prog 157 #[À a (ſ ds) cap,Å Æ wd] w λe a=>ko ds wd w e a:=by
 obtain⟨e0,e1⟩:=ES ht hd hl hw;have Q:=LV ht wd;have e2:bT ds wd=ei (gn ds (vv (ah t) wd 0 0).2):=by rw[bT,if_pos e0,e1,Q]
 have HR:Hid (ko ds wd w=λe a=>(∃R wc,e=Ã (È #[Â (ei (gn ds (vv (ah t) wd 0 0).2)),À R (vv (ah t) wd 0 0).2.length wc,ä #[Å Æ (az (ah t) wd 0 0).o,Å Æ (az (ah t) wd 0 0).l],Ç])/\a.ownsRow w.heap.size 3 1 (À R (vv (ah t) wd 0 0).2.length wc) (vv (ah t) wd 0 0).2.length (db (vv (ah t) wd 0 0).2))/\Ê w w a):=by
  show ko ds wd w=_;have h3:=(wE (wd:=wd) (c:=0) (sc ht) (Ú _)).1
  funext e w'
  unfold ko;rw[e0,e1,e2,cS,<-Q];have h4:((vv (ah t) wd 0 0).1.1:Int)=(az (ah t) wd 0 0).o:=by rw[h3]
  have h5:((vv (ah t) wd 0 0).1.2:Int)=(az (ah t) wd 0 0).l:=by rw[h3]
  rw[h4,h5]
 rw[HR.o];have Ad:0<(ah t).length:=by rw[jQ];exact t.pos
 have Ae:(ah t).length=ſ ds:=by rw[jQ,hd];rfl
 have h0:bM ds=0:=by rw[hd];exact qH ht (by rw[<-hd];exact hl)
 have Ak:t.sz<=400:=by unfold Tr.sz;rw[<-hd];exact hl
 have At:ds≠[]:=by rw[hd];have:=t.pos;exact Ñ.1 this
 have HN:Hid (aS w a ds):=hN;have H0:Hid (bM ds=0):=h0;have z:Hid (∀a g b,nP a g b wd (ah t) 0 0):=λsb g mb=>Vn sb g mb ht Ak hw (ah t).length 0 0 (by omega) (Ú _) (Ú _)
 have q:Hid (∀sb g mb(W:Ë)S,aU sb g mb wd (ah t) W S->S 0 0=true->Cp 204 #[Ô (É ⟨sb,0,Ä⟩)] W λe b=>(∃a c,e=Ã (À a (vv (ah t) wd 0 0).2.length c)/\b.ownsRow W.heap.size 3 1 (À a (vv (ah t) wd 0 0).2.length c) (vv (ah t) wd 0 0).2.length (db (vv (ah t) wd 0 0).2))/\Ê W W b):=λsb g mb W S hI hS=>OZ sb g mb ht Ak hw W S hI hS
 have HD:Hid (ds=t.N):=hd;have x:Hid ((ah t).length=ſ ds):=Ae
 have Ar:Hid ((vv (ah t) wd 0 0).2.length<=9223372036854775807):=by
  show(vv (ah t) wd 0 0).2.length<=_
  obtain⟨a',ha⟩:=BW t wd;have hb:=oD t wd;rw[gC,<-Q]at hb;have h1:=(og hb).1;have h2:=Hb t _ h1;rw[<-hd]at h2;omega
 have u:Hid (∀(s:Nat)(W:Ë),cO s W a ds->s<W.heap.size->Cp 202 #[À a (ſ ds) cap,Å Æ wd] W λe a=>e=Ã (ä #[À (É ⟨W.heap.size+1,0,Ä⟩) (ſ ds) (ſ ds),Å Æ wd])/\bq a (W.heap.size+1) (ſ ds) (λj=>q2 (aD (ah t) j))/\Ê W W a):=λs W h1 h2=>O5 ds t HD.o ht hl a cap s wd hc W h1 h2
 have Aw:=@run_makeMap prog;have Ay:¬(wd:Int)<0:=by omega
 have Az:¬(100:Int)<(wd:Int):=by omega
 clear hN h0 hd Ae e0 e1 e2 Q HR;go_in;go_wp2_with fail;refine ai (lC ds a cap _ (HN.o.W ((Î _ w).alloc Zl _))) λw2 hB=>?_
 rw[H0.o,cS];have Ai:de w2 w.heap.size:=de.kept ⟨_,_,heap_alloc_new w (Õ #[Å Æ 0,Å Æ 0] 120)⟩ (hB.block _ (by simp));have k0:w2.cell? ⟨w,0,Ä⟩=É (Å Æ 0):=((a9 hB).1 _ _ (by simp)).trans (by simp[go_sem]);have k1:w2.cell? ⟨w,1,Ä⟩=É (Å Æ 0):=((a9 hB).1 _ _ (by simp)).trans (by simp[go_sem]);have U:Hid (Ê w w w2):=((Î _ w).alloc Zl _).trans (hB.mono (by simp));have f:w.heap.size<w2.heap.size:=by have:=hB.size;simp at this;omega
 have M:Hid (w2.cell? ⟨w,0,Ä⟩=É (Å Æ 0)/\w2.cell? ⟨w,1,Ä⟩=É (Å Æ 0)/\de w2 w.heap.size):=⟨k0,k1,Ai⟩;clear Ai k0 k1 hB;obtain⟨s,hs,Ah⟩:=(HN.o.W U.o).s At;have Ao:Hid (cO s w2 a ds):=Ah;clear Ah;go_wp2_with fail;refine(u.o s w2 Ao.o hs).mono ?_;rintro e B⟨rfl,d,J⟩;have m:Hid (Ê w w B):=U.o.trans (J.mono U.o.size);have Ax:=J.size;have As:w2.heap.size+1<B.heap.size:=d.row.lt;have O:Hid (B.cell? ⟨w,0,Ä⟩=É (Å Æ 0)/\B.cell? ⟨w,1,Ä⟩=É (Å Æ 0)/\de B w.heap.size):=⟨(J.cell (p:=⟨w,0,Ä⟩) f).trans M.o.1,(J.cell (p:=⟨w,1,Ä⟩) f).trans M.o.2.1,M.o.2.2.kept (J.block _ f)⟩
 have r:Hid (aU (B.heap.size+1) (w2.heap.size+1) B.heap.size wd (ah t) ((B.alloc (.map #[] 0)).alloc (Õ #[À (É ⟨w2.heap.size+1,0,Ä⟩) (ſ ds) (ſ ds),Å Æ wd,.map (É B.heap.size)] 278)) (λ_ _=>false)):=by
  refine⟨⟨?_,?_,?_⟩,?_,?_,λp c h=>by cases h⟩
  .rw[x.o];simp[go_sem]
  .simp[go_sem]
  .rw[x.o];exact d.kept ((Ì _ _ _ (by simp;omega)).trans (Ì _ _ _ As))
  .simp[go_sem]
  .exact(fF.made B _).kept (Ì _ _ _ (by simp))
 have y:Hid (∀W S,aU (B.heap.size+1) (w2.heap.size+1) B.heap.size wd (ah t) W S->Cp 203 #[Ô (É ⟨B.heap.size+1,0,Ä⟩),ä #[Å Æ 0,Å Æ 0]] W λe a=>e=Ã (ä #[Å Æ (az (ah t) wd 0 0).o,Å Æ (az (ah t) wd 0 0).l,Å Æ (az (ah t) wd 0 0).ch,Å Æ (az (ah t) wd 0 0).np,Å Æ (az (ah t) wd 0 0).nc])/\Left (B.heap.size+1) (w2.heap.size+1) B.heap.size wd (ah t) S 0 0 0 W a):=λW S h=>by
  have:=z.o _ _ _ W S h
  rw[if_pos Ad]at this;exact this
 clear d J;go_wp2_with fail;refine(y.o _ _ r.o).mono ?_;rintro e G⟨rfl,K,S',hI,_,_,Af⟩;have C:((B.alloc (.map #[] 0)).alloc (Õ #[À (É ⟨w2.heap.size+1,0,Ä⟩) (ſ ds) (ſ ds),Å Æ wd,.map (É B.heap.size)] 278)).heap.size=B.heap.size+1+1:=by simp
 have Au:=K.size;rw[C]at Au;have Ab:Ê w w ((B.alloc (.map #[] 0)).alloc (Õ #[À (É ⟨w2.heap.size+1,0,Ä⟩) (ſ ds) (ſ ds),Å Æ wd,.map (É B.heap.size)] 278)):=lp (lp m.o _) _;have V:Hid (Ê w w G):=Ab.trans ((K.mono (B':=w.heap.size) (by rw[C];omega)).W (by omega))
 have P:Hid (G.cell? ⟨w,0,Ä⟩=É (Å Æ 0)/\G.cell? ⟨w,1,Ä⟩=É (Å Æ 0)/\de G w.heap.size):=
  ⟨(K.cell (p:=⟨w,0,Ä⟩) (by rw[C];simp;omega) (by simp;omega)).trans (ka (ka O.o.1 _) _),(K.cell (p:=⟨w,1,Ä⟩) (by rw[C];simp;omega) (by simp;omega)).trans (ka (ka O.o.2.1 _) _),O.o.2.2.kept ((K.block _ (by rw[C];omega) (by omega)).trans ((Ì _ _ _ (by simp;omega)).trans (Ì _ _ _ (by omega))))⟩
 have X:Hid (aU (B.heap.size+1) (w2.heap.size+1) B.heap.size wd (ah t) G S'/\S' 0 0=true):=⟨hI,Af Ad⟩;clear K hI Af Ab C r y z u m O M;generalize Ag:az (ah t) wd 0 0=k at *;have An:Hid (az (ah t) wd 0 0=k):=Ag;clear Ag;go_wp2_with fail;refine(q.o _ _ _ _ _ (X.o.1.alloc _) X.o.2).mono ?_;rintro e I⟨⟨R,wc,rfl,A⟩,D⟩;obtain⟨_,_,Av,Ac,_⟩:=AL A;have Z:Ê w w I:=(lp V.o _).trans (D.mono (by have:=V.o.size;simp;omega));have n:Hid (Ê w w I):=Z;have E:G.heap.size<I.heap.size:=by have:=D.size;simp at this;omega
 have i:=V.o.size
 have Y:Hid (I.cell? ⟨w,0,Ä⟩=É (Å Æ 0)/\I.cell? ⟨w,1,Ä⟩=É (Å Æ 0)/\de I w.heap.size):=
  ⟨(D.cell (p:=⟨w,0,Ä⟩) (by simp;omega)).trans (ka P.o.1 _),(D.cell (p:=⟨w,1,Ä⟩) (by simp;omega)).trans (ka P.o.2.1 _),P.o.2.2.kept ((D.block _ (by simp;omega)).trans (Ì _ _ _ (by omega)))⟩
 have u0:I.drew.cell? ⟨G,0,Ä⟩=É (Å Æ k.o):=(D.cell (p:=⟨G,0,Ä⟩) (by simp)).trans (by simp[go_sem]);have u1:I.drew.cell? ⟨G,1,Ä⟩=É (Å Æ k.l):=(D.cell (p:=⟨G,1,Ä⟩) (by simp)).trans (by simp[go_sem])
 have Aq:Hid (Cp 205 #[À a (ſ ds) cap,À R (vv (ah t) wd 0 0).2.length wc] I.drew λe a=>e=Ã (Â (ei (gn ds (vv (ah t) wd 0 0).2)))/\Ê I.drew.heap.size I.drew a):=
  Rq ds (vv (ah t) wd 0 0).2 a R cap wc hc Av Ar.o I.drew (HN.o.W Z.drew) (eE.W Ac (Î _ I).drew)
 have Ap:Hid (∀W:Ë,(∀b,G.heap.size<=b->b<I.heap.size->W.heap[b]?=I.heap[b]?)->W.ownsRow w.heap.size 3 1 (À R (vv (ah t) wd 0 0).2.length wc) (vv (ah t) wd 0 0).2.length (db (vv (ah t) wd 0 0).2)):=λW hW=>by
  have h1:=qA (w':=W) A λb hb=>hW b (by have:=yk A hb;simp at this;omega) (qB A hb).1
  exact Vh h1 (by simp;omega)
 have L:Hid (w.heap.size<G.heap.size):=(show w.heap.size<G.heap.size by omega);clear A Ac Z D q X P;generalize Am:(vv (ah t) wd 0 0).2=us at *;generalize Al:ei (gn ds us)=tx at *;have Aa:Hid ((vv (ah t) wd 0 0).2=us/\ei (gn ds us)=tx):=⟨Am,Al⟩;clear Am Al;go_wp2_with fail
 go_region_held3 (λa=>a.cell? ⟨G,0,Ä⟩=É (Å Æ k.o)/\a.cell? ⟨G,1,Ä⟩=É (Å Æ k.l))
  (first|with_reducible exact⟨u0,u1⟩|with_reducible exact⟨u07,u17⟩|with_reducible exact⟨(af (.inl (Ü L.o))).trans ((af (.inl (Ü L.o))).trans u07),(af (.inl (Ü L.o))).trans ((af (.inl (Ü L.o))).trans u17)⟩)
  ((go_at_call 205;refine Aq.o.mono ?_;rintro e w7⟨rfl,H⟩;have u07:=(H.cell (p:=⟨G,0,Ä⟩) E).trans u0;have u17:=(H.cell (p:=⟨G,1,Ä⟩) E).trans u1;have k0:=(H.cell (p:=⟨w,0,Ä⟩) (Ù i E)).trans Y.o.1;have k1:=(H.cell (p:=⟨w,1,Ä⟩) (Ù i E)).trans Y.o.2.1;have Aj:=Y.o.2.2.kept (H.block w.heap.size (Ù i E));have f0:w7.frozen? ⟨w,0,Ä⟩=false:=Aj.frozen;have f1:w7.frozen? ⟨w,1,Ä⟩=false:=Aj.frozen))
 all_goals
  go_wp2;refine Ø (v:=È #[Â tx,À R (ſ us) wc,ä #[Å Æ k.o,Å Æ k.l],Ç]) (by simp[ã,Tryz.results157,go_sem,k0,k1]) rfl ?_;rw[Aa.o.1,Aa.o.2,An.o];refine⟨⟨R,wc,rfl,Ap.o _ λb hb1 hb2=>?_⟩,?_⟩
  .have h5:=L.o;exact(Ò _ _ _ _ (by simp;omega)).trans ((Ò _ _ _ _ (by simp;omega)).trans (H.block b hb2))
  .exact((n.o.drew.trans (H.mono n.o.size)).setCell (p:=⟨w,0,Ä⟩) Zl _).setCell (p:=⟨w,1,Ä⟩) Zl _
theorem Rh(C)(D:Int)(a B)(G:ſ C<=B)(w)(E:aS w a C):
  ç prog 157 #[À a (ſ C) B,D] w λe H=>ko C D w e H:=by
 by_cases h:bM C=0
 .by_cases A:D<0\/100<D
  .exact Nf C D a B w E h A
  .obtain⟨n,rfl⟩:∃n:Nat,D=n:=⟨D.toNat,by omega⟩;exact JW C _ (my h) (mX h) (mD h).1 n (by omega) a B G w E
 .exact TN C D a B w E h
theorem Rj{t}(h:dZ t=0)(n:Nat)(R:n<=100)(A c)(w:Ë)(P:(dt t).length<=c)(O:aS w A (dt t)):
  ç prog 157 #[À A (dt t).length c,(n:Int)] w λe N=>(∃s M S wc,∃a b:Int,e=Ã (È #[Â (ab s),À M S wc,ä #[a,b],Ç])/\iL n t=s++[10]/\(ſ s)<=2000000)/\Ê w w N:=by
 obtain⟨I,J,E,L⟩:=wQ h;obtain⟨D,G⟩:=ES (wd:=n) (o4 I J).w E (by rw[E];exact L) R;have K:(aN t).best n=É (bs n 0 [(0,aN t)]):=by rw[oD,gC]
 obtain⟨_,C,_⟩:=og K
 have H:bT (dt t) (n:Int)=ab ((aN t).txt (bs n 0 [(0,aN t)]).2):=by
  rw[bT,if_pos D,G,UE h,C];rfl
 refine(Rh (dt t) (n:Int) A c P w O).mono ?_;rintro e N⟨⟨M,wc,rfl,_⟩,B⟩;refine⟨⟨_,M,_,wc,_,_,by rw[H,D,cS],rfl,?_⟩,B⟩;exact wP h C
theorem RI{tx}(h:cX tx=0)(n:Nat)(I:10<=n)(J:n<=100)(A c)(w:Ë)(H:(ar (ae tx)).length<=c)(G:bN w A ((ar (ae tx)).map ab)):
  ç prog 154 #[À A (ar (ae tx)).length c,↑((n:Int)-2)] w λe E=>(∃L c,e=Ã (È #[À L (cz (n-2) ((ar (ae tx)).map ab)).length c,Ç])/\cP w (À L (cz (n-2) ((ar (ae tx)).map ab)).length c) (cz (n-2) ((ar (ae tx)).map ab)) E)/\Ê w w E:=by
 have e:((n:Int)-2)=((n-2:Nat):Int):=by omega
 have C:gD ((ar (ae tx)).map ab) ((n-2:Nat):Int)=0:=by
  have D:dF ((ar (ae tx)).map ab)=0:=h;rw[gD,if_neg (by simp[D]),if_neg (by omega)]
 have B:=VX ((ar (ae tx)).map ab) A c (n-2) w (by rw[Ö];exact H) G C;rw[Ö]at B;rw[e];exact B
theorem GK:∀(A:List ByteArray),A≠[]->[35,32]++Û (A.map λx=>x.data.toList) [10,35,32]++[10]=A.flatMap eH
 | [],h=>absurd rfl h
 | [l],_=>by simp[Lib.join_one,eH,ae]
 | l::u::r,_=>by
  have ih:=GK (u::r) (by simp);rw[List.flatMap_cons,<-ih];simp[Lib.join_cons,Lib.joinTail,eH,ae]
theorem AD{tx}(n)(B:ar (ae tx)≠[]):fI n tx=[35,32]++Û ((cz (n-2) ((ar (ae tx)).map ab)).map λx=>x.data.toList) [10,35,32]++[10]:=by
 have A:cz (n-2) ((ar (ae tx)).map ab)≠[]:=by
  rw[mz _ (by simpa using B)];simp
 rw[GK _ A,fI,if_neg B];rfl
set_option maxHeartbeats 8000000
theorem rA{n:Nat}(A:10<=n)(B:n<=100)(w):Cw 38 #[(n:Int)] w Ç:=by
 unfold Cw;go_in;go_wp2;go_ret;exact⟨rfl,rfl⟩
theorem uj{C:Int}(h:C<10\/100<C)(w):Cw 38 #[C] w (å 50 (Å Æ 1)):=by
 unfold Cw;by_cases A:C<10
 .go_in;go_wp2;go_ret;exact⟨rfl,rfl⟩
 .have B:100<C:=by omega
  go_in;go_wp2;go_ret;exact⟨rfl,rfl⟩
theorem Sz{t}(h:ag t=0)(h9:aR t=9)(n:Nat)(m:10<=n)(o:n<=100)(a cap)(w:Ë)(hc:ſ t<=cap)(hN:aG w a t)(l:fU t)(ht:eo w):
  Cb 121 #[À a (ſ t) cap,↑(n:Int)] w (È #[Â (ab (ce n t)),Ç]):=by
 unfold Cb;obtain⟨_,_,e1,y⟩:=uV h h9;have P:=uq h h9;rw[xX h h9]
 have D:Hid (Cp 153 #[À a (ſ t) cap] w λe a=>(∃A c,e=Ã (È #[À A (ar (ae (bg t))).length c,Ç])/\bN a A ((ar (ae (bg t))).map ab)/\(ar (ae (bg t))).length<=c)/\Ê w w a):=by
  refine(Px t a cap w ht hc hN l).mono ?_;rintro e w'⟨⟨A,c,he,z,i⟩,hb⟩;rw[y]at z i;rw[Ö]at i;exact⟨⟨A,c,by rw[he,e1,y,cS,Ö],z,i⟩,hb⟩
 have C:Hid (∀(W:Ë)(A:Option Addr)(c:Nat),(ar (ae (bg t))).length<=c->bN W A ((ar (ae (bg t))).map ab)->Cp 154 #[À A (ar (ae (bg t))).length c,↑((n:Int)-2)] W λe a=>(∃L c,e=Ã (È #[À L (cz (n-2) ((ar (ae (bg t))).map ab)).length c,Ç])/\cP W (À L (cz (n-2) ((ar (ae (bg t))).map ab)).length c) (cz (n-2) ((ar (ae (bg t))).map ab)) a)/\Ê W W a):=λW A c q1 p=>RI P n m o A c W q1 p
 have hF:=vd P;by_cases Q:ar (ae (bg t))=[]
 .have I:Hid (fI n (bg t)=[35,10]):=(show _=_ by rw[fI,if_pos Q]);generalize fI n (bg t)=L at I⊢;rw[Q]at D C;simp only[List.map_nil,lG,List.length_nil]at D C;go_in;go_wp2_with fail;refine D.o.mono ?_;rintro e r⟨⟨X,S,rfl,K,M⟩,Z⟩;have E:=aa Z;have H:=aa (C.o r X S M K);go_wp2_with fail;refine H.o.mono ?_;rintro e w2⟨⟨s,v,rfl,_⟩,b⟩;have G:=aa (aH E.o Zl b);go_wp2;go_ret2;exact⟨by rw[I.o];rfl,G.o⟩
 .have k:=pY (n-2) _ ((ar (ae (bg t))).map ab) Zl;have Aa:=hF.1
  have O:cz (n-2) ((ar (ae (bg t))).map ab)≠[]:=by
   rw[mz _ (by simpa using Q)];simp
  have I:Hid (ab (fI n (bg t))=(⟨#[35,32]⟩:ByteArray)++ab (Û ((cz (n-2) ((ar (ae (bg t))).map ab)).map λx=>x.data.toList) [10,35,32])++(⟨#[10]⟩:ByteArray)):=by
   show _=_;rw[AD n Q,<-bn,<-bn];rfl
  have d:=GJ P n
  have N:(ab (Û ((cz (n-2) ((ar (ae (bg t))).map ab)).map λx=>x.data.toList) [10,35,32])).size<=100000:=by
   rw[AD n Q,Ó,Ó]at d;rw[j8];omega
  have U:=Ñ.2 Q;generalize fI n (bg t)=L at I⊢;generalize cz (n-2) ((ar (ae (bg t))).map ab)=ls at C I k N O
  have u:Hid (∀(W:Ë)(A:Option Addr)(c B:Nat),cP B (À A (ſ ls) c) ls W->Cb 155 #[À A (ſ ls) c,Â ⟨#[10,35,32]⟩] W (Â (ab (Û (ls.map λx=>x.data.toList) [10,35,32])))):=λW A c B hS=>by
   obtain⟨_,p,hA⟩:=yc hS;have Ab:=Ñ.2 O;rcases hA with⟨_,q,_⟩|⟨g,rfl,hg⟩
   .omega
   .refine vO g 0 c ls ⟨#[10,35,32]⟩ W ?_ hg (by omega) p ?_
    .intro j x hx;obtain⟨hj,rfl⟩:=List.getElem?_eq_some_iff.1 hx;obtain⟨b',o',e,_,S⟩:=jR hS j hj;simp only[Option.some.injEq,Addr.mk.injEq,and_true]at e;obtain⟨rfl,rfl⟩:=e;exact S
    .rw[j8]at N
     show(Û (ls.map λx=>x.data.toList) [10,35,32]).length<=_
     omega
  generalize ab (Û (ls.map λx=>x.data.toList) [10,35,32])=J at u I N
  generalize(ar (ae (bg t))).map ab=ws at D C
  generalize(ar (ae (bg t))).length=nw at D C U
  have V:((ſ ls:Int)==0)=false:=by
   have:=Ñ.2 O
   simp;omega
  go_in;go_wp2_with fail;refine D.o.mono ?_;rintro e r⟨⟨X,S,rfl,K,M⟩,Z⟩;have E:=aa Z;have H:=aa (C.o r X S M K);go_wp2_with fail;refine H.o.mono ?_;rintro e w2⟨⟨s,v,rfl,f⟩,b⟩;have G:=aa (aH E.o Zl b);have R:=aa (u.o w2 s v _ f);generalize (ſ ls)=nl at R V⊢;go_wp2_with fail;refine ai R.o λw3 b3=>?_
  have Y:=aa (aH G.o Zl b3);go_wp2;go_ret2;exact⟨by rw[I.o];rfl,Y.o⟩
theorem NU{t}(h:ag t=0)(m:aR t≠9)(n:Nat)(X:n<=100)(a k)(w:Ë)(r:ſ t<=k)(p:aG w a t)(J:fU t)(q:eo w):
  Cb 122 #[À a (ſ t) k,(n:Int)] w (È #[Â (if bS t=0 then ab (ce n t)else⟨#[]⟩),aF (bS t)]):=by
 unfold Cb;have B:Hid (Cp 156 #[À a (ſ t) k] w λe l=>(∃A c,e=Ã (È #[À A (dt t).length c,aF (dZ t)])/\aS l A (dt t)/\(dt t).length<=c)/\Ê w w l):=NH t a k w q.pow r p J;rw[ux h m,vf h m];by_cases D:dZ t=0
 .have C:Hid (∀(W:Ë)(A:Option Addr)(c:Nat),(dt t).length<=c->aS W A (dt t)->Cp 157 #[À A (dt t).length c,(n:Int)] W λe l=>(∃s d f wc,∃M N:Int,e=Ã (È #[Â (ab s),À d f wc,ä #[M,N],Ç])/\iL n t=s++[10]/\(ſ s)<=2000000)/\Ê W W l):=λW A c M N=>Rj D n X A c W M N
  rw[if_pos D,D,cS];rw[D,cS]at B;generalize iL n t=L at C⊢;generalize dt t=xs at B C;go_in;go_wp2_with fail;refine B.o.mono ?_;rintro e b⟨⟨Y,Z,rfl,Q,R⟩,P⟩;have O:=aa P;have I:=aa (C.o b Y Z R Q);generalize (ſ xs)=nx at I⊢;go_wp2_with fail;refine I.o.mono ?_;rintro e j⟨⟨s,d,f,wc,M,N,rfl,i,U⟩,g⟩;have G:=aa (aH O.o Zl g);have H:Hid (ab L=ab s++(⟨#[10]⟩:ByteArray)):=(show _=_ by rw[i,<-bn];rfl);have V:(ab s).size<=2000000:=by rw[j8];exact U
  generalize ab s=S at H V⊢;go_wp2;go_ret2;exact⟨by rw[H.o];rfl,by first|exact G.o|exact aH G.o Zl (aC j _)⟩
 .rw[if_neg D];have K:=(show Hid (_=_)from cN D);generalize aF (dZ t)=E at B K⊢;generalize dt t=xs at B;generalize dZ t=z at K;clear p J q h m D;go_in;go_wp2_with fail;refine B.o.mono ?_;rintro e b⟨⟨Y,Z,rfl,_,_⟩,P⟩;rw[K.o];generalize (ſ xs)=nx;go_wp2;go_ret2;exact⟨by rw[K.o];rfl,P⟩
theorem uv:QX:=by
 intro t a C P w X R J f;by_cases U:P<10\/100<P
 .have N:=aa (uj U w);have D:iz t P=1:=by rw[iz,if_pos U]
  rw[r7 (by rw[D];decide),D];go_in;go_wp2_with fail;refine N.o.mono ?_;rintro e Y⟨rfl,rfl⟩;go_wp2;go_ret2;exact⟨rfl,Î _ _⟩
 .obtain⟨n,rfl⟩:∃n:Nat,P=(n:Int):=⟨P.toNat,by omega⟩;have O:10<=n:=by omega
  have K:n<=100:=by omega
  have N:=aa (rA O K w);have M:=aa (ss t a C w X R J);by_cases H:ag t=0
  .obtain⟨d,b,o,rfl,j,g,Z⟩:=qS H R;have G:Hid (∀W:Ë,Ê w w W->W.cell? (b,o)=É ↑(aR t)):=λW h=>((a9 h).1 _ _ j).trans g
   have D:=rZ U H;rw[H]at M;by_cases L:aR t=9
   .have A:Hid (∀W:Ë,Ê w w W->Cb 121 #[À (É ↑(b,o)) (ſ t) C,(n:Int)] W (È #[Â (ab (ce n t)),Ç])):=λW h=>Sz H L n O K _ C W X (R.W h) J (f.W h)
    rw[L]at G;rw[uu (by rw[D];exact vj L),D,vj L,cS];generalize ab (ce n t)=S at A⊢;go_in;go_wp2_with fail;refine N.o.mono ?_;rintro e Y⟨rfl,rfl⟩;go_wp2_with fail;refine ai M.o λk b2=>?_
    rw[cS];have Z:=G.o k b2;have B:=aa b2;go_wp2_with fail;refine ai (A.o _ B.o) λl b3=>?_
    have I:=aa (aH B.o Zl b3);go_wp2;go_ret2;exact⟨rfl,I.o⟩
   .have A:Hid (∀W:Ë,Ê w w W->Cb 122 #[À (É ↑(b,o)) (ſ t) C,(n:Int)] W (È #[Â (kQ t (n:Int)),aF (iz t (n:Int))])):=λW h=>by
     have c:=NU H L n K (É ↑(b,o)) C W X (R.W h) J (f.W h);have i:(if bS t=0 then ab (ce n t)else⟨#[]⟩)=kQ t (n:Int):=by rw[kQ,D];rfl
     rw[i,<-D]at c;exact c
    have V:(aR t==9)=false:=by simp[L]
    generalize aR t=op0 at G V;generalize kQ t (n:Int)=S at A⊢;generalize aF (iz t (n:Int))=E at A⊢;go_in;go_wp2_with fail;refine N.o.mono ?_;rintro e Y⟨rfl,rfl⟩;go_wp2_with fail;refine ai M.o λk b2=>?_
    rw[cS];have Z:=G.o k b2;have B:=aa b2;go_wp2_with fail;refine ai (A.o _ B.o) λl b3=>?_
    have I:=aa (aH B.o Zl b3);go_wp2;go_ret2;exact⟨rfl,I.o⟩
  .have D:iz t (n:Int)=ag t:=by rw[iz,if_neg U,if_pos H]
   rw[r7 (by rw[D];exact H),D];have Q:=aa (cN H);generalize aF (ag t)=E at M Q⊢;generalize ag t=z at Q;go_in;go_wp2_with fail;refine N.o.mono ?_;rintro e Y⟨rfl,rfl⟩;go_wp2_with fail;refine ai M.o λk b2=>?_
   rw[Q.o];go_wp2;go_ret2;exact⟨by rw[Q.o];rfl,b2⟩
structure mh(ps:List (List Td))(n:Nat)(w0:Ë)(i:Nat)(wr:Ë):Prop where
 le:i<=ſ ps
 z:bu (ps.drop i)=bu ps
 x:a6 38 w0.heap.size w0.heap.size (à (aJ n (ps.take i))) [] wr
 bl:Ê w0 w0 wr
 ln:(aJ n (ps.take i)).length<=i*2000001
theorem yL:j9 38 2:=by unfold j9;kernel_rfl
theorem EM:38≠5:=by decide
theorem AQ{s ps k}(h:cJ s ps k 0):∀t∈ps,fU t:=λt A x B=>æ (SA (lM h).2.1 t A x B) (by decide)
theorem AO{ps:List (List Td)}{i}(h:i<ſ ps):ps.drop i=ps[i]::ps.drop (i+1):=Ð h
theorem AP{ps:List (List Td)}{i}(A)(h:i<ſ ps):aJ A (ps.take (i+1))=aJ A (ps.take i)++ce A ps[i]:=by
 rw[aJ,Á h,List.flatMap_append];simp[aJ]
theorem Kx:EJ:=by
 intro s o w u;by_cases m:o<10\/100<o
 .have HW:=aa (uj m w);have I:Hid (pD s o w (Ã (È #[Â ⟨#[]⟩,Å Æ 0,aF 1])) w):=⟨_,_,_,rfl,.range m,Î _ _⟩;clear u m;go_in;go_wp2_with fail;refine HW.o.mono ?_;rintro e w1⟨rfl,rfl⟩;go_wp2;go_ret3;exact I.o
 .obtain⟨n,rfl⟩:∃n:Nat,o=(n:Int):=⟨o.toNat,by omega⟩;have Aj:10<=n:=by omega
  have Ak:n<=100:=by omega
  have K:=aa m;have HW:=aa (rA Aj Ak w);have Ae:=aa (IU s w u);have HT:=aa u;clear u m;go_in;go_wp2_with fail;refine HW.o.mono ?_;rintro e w1⟨rfl,rfl⟩;go_wp2_with fail;refine Ae.o.mono ?_;rintro e H⟨ps,k,f,A,c,rfl,Y,hP,_,g⟩;have a:=aa g;by_cases r:f=0
  .subst r;obtain⟨rfl,_,j,O⟩:=lM Y;have Ab:=(show Hid (∀t∈ps,fU t)from AQ Y);have Z:=aa O;have d:=aa Y;have HP:=aa hP;have Af:=aa (HT.o.W g);have Ad:Hid (mh ps n H 0 (H.alloc (Õ #[Ô Ä,À Ä 0 0] 38))):=⟨Ú _,rfl,a6.fresh 38 H [],aC H _,by simp[aJ]⟩;rw[cS];clear Y hP g O;generalize l:ſ ps=np at j⊢;have Ac:=aa l;clear l;go_wp2_with fail
   go_loopw [31] (λx wr=>∃i:Nat,x=Å Æ (i:Int)/\mh ps n H i wr) (λx _=>np-(intOf x).toNat)
   case atStart=>exact⟨0,rfl,Ad.o⟩
   case round=>
    obtain⟨i,rfl,D⟩:=hrel;have An:=Ac.o;have Am:=D.le;have Ao:=D.ln;by_cases Ap:i<np
    .have Ah:(i:Int)<(np:Int):=by omega
     have V:i<ſ ps:=by omega
     obtain⟨b0,o0,A0,c0,rfl,Al,d0,R,Q⟩:=(HP.o.W D.bl) i V;have L:=Z.o ps[i] (Í _);have C:=aa (uv ps[i] A0 c0 (n:Int) wr R Q (Ab.o ps[i] (Í _)) (Af.o.W D.bl));have X:=rZ K.o L;have U:=AO V;have M:=D.z;rw[U]at M;have p:=(show Hid (_=_)from M);have J:=(show Hid (_=_)from AP (ps:=ps) n V);have HV:=aa D;by_cases G:bS ps[i]=0
     .have Ai:=r8 L G n;rw[uu (by rw[X];exact G),X,G,cS]at C
      have b:Hid (∀W,Ê wr wr W->Cp 10 #[Ô (É ⟨H,0,Ä⟩),Â (ab (ce n ps[i]))] W λe y=>(∃z,e=Ã (È #[z,Ç]))/\mh ps n H (i+1) y):=λW hb=>by
       have Aq:=D.bl.size;refine(sx 38 H.heap.size H.heap.size (à (aJ n (ps.take i))) [] (ab (ce n ps[i])) W yL EM (D.x.grew hb) (by rw[ß,j8];omega) (by have:=hb.size;omega)).mono ?_;rintro e y⟨rfl,q1,v,_⟩;refine⟨⟨_,rfl⟩,by omega,?_,?_,?_,?_⟩
       .have:=p.o
        rw[lK G]at this;exact this
       .rw[J.o,pO];exact q1
       .exact(aH D.bl Zl hb).trans (v.W Zl)
       .rw[J.o,Ó];omega
      clear D U M L Q R X G Ai p J;generalize ab (ce n ps[i])=S at C b;generalize ps[i].length=tn at d0 C;go_wp2_with fail;refine ai C.o λw3 b3=>?_
      have Aa:=aa b3;clear b3;go_wp2_with fail;refine(b.o _ Aa.o).mono ?_;rintro e w4⟨⟨q,rfl⟩,h4⟩;have Ag:=aa h4;clear h4;go_wp2;refine⟨⟨i+1,by go_num,Ag.o⟩,?_⟩;simp[intOf];omega
     .have I:Hid (∀W,Ê wr wr W->pD s (n:Int) w (Ã (È #[Â ⟨#[]⟩,Å Æ 0,aF (bS ps[i])])) W):=λW hb=>by
       have q:=p.o;rw[qN G]at q;have v:=lP.full K.o d.o (by rw[<-q];exact G);rw[<-q]at v;exact⟨_,_,_,rfl,v,aH a.o Zl (aH D.bl Zl hb)⟩
      have N:=(show Hid (_=_)from cN G);rw[r7 (by rw[X];exact G),X]at C;clear D U M L Q R X G p J;generalize aF (bS ps[i])=E at C I N;generalize bS ps[i]=z at N;generalize ps[i].length=tn at d0 C;go_wp2_with fail;refine ai C.o λw3 b3=>?_
      have P:=aa (I.o w3 b3);clear b3;rw[N.o];go_wp2;go_ret3;rw[<-N.o];exact P.o
    .have Ah:¬(i:Int)<(np:Int):=by omega
     have h:ps.take i=ps:=Ý (by omega);have B:ps.drop i=[]:=Þ (by omega);have G:=D.z;rw[B]at G;have hx:=D.x;rw[h]at hx;have HO:Hid (Cp 12 #[Ô (É ⟨H,0,Ä⟩)] wr λe y=>e=Ã (Â (ab (aJ n ps)))/\Ê H wr y):=tT _ _ _ _ _ _ hx;have I:Hid (∀W,Ê H wr W->pD s (n:Int) w (Ã (È #[Â (ab (aJ n ps)),Å Æ 0,aF 0])) W):=λW hb=>⟨_,_,_,rfl,.ok K.o d.o G.symm,aH a.o Zl (D.bl.trans hb)⟩
     clear D h B G hx;generalize ab (aJ n ps)=S at HO I;go_wp2_with fail;refine ai HO.o λw3 b3=>?_
     have P:=aa (I.o w3 b3);clear b3;go_wp2;go_ret3;exact P.o
  .have I:Hid (pD s (n:Int) w (Ã (È #[Â ⟨#[]⟩,Å Æ k,aF f])) H):=⟨_,_,_,rfl,.bad K.o Y r,g⟩;have N:=(show Hid (_=_)from cN r);generalize aF f=E at I N⊢;clear Y hP g r;rw[N.o];generalize (ſ ps)=np;go_wp2;go_ret3;rw[<-N.o];exact I.o
end Go.Proofs.YtelcnplcpboonaaGreatDoor
namespace Go.Proofs.YtelcnplcpboonaaGreatDoor
open Go Go.RowKit Go.Maps
set_option maxRecDepth 100000
set_option maxHeartbeats 4000000
theorem Ua{t}(D:ag t=0)(L:fU t)(A c)(J:ſ t<=c)(w:Ë)(I:aG w A t)(M:eo w):
  Cb 80 #[À A (ſ t) c] w (È #[Â (cH t),Ç]):=by
 unfold Cb;have B:Hid (Cp 106 #[À w.heap.size 1 1] (w.alloc (Õ #[À A (ſ t) c] 82)) λe H=>e=Ã (È #[Â (cH t),Ç])/\Ê w w H):=by
  have C:=OY [t] w.heap.size 1 (w.alloc (Õ #[À A (ſ t) c] 82)) (by simp) (Lz J I) (λu G=>by simp at G;rw[G];exact L) (M.W (aC w _));rw[GU (by rw[yl D]),yl D]at C;exact C.mono λe H E=>⟨E.1,(aC w _).trans (E.2.mono (by rw[Ï];omega))⟩
 generalize cH t=K at B⊢;generalize (ſ t)=nt at B⊢;go_in;go_wp2_with fail;refine ai B.o λN b1=>?_
 go_wp2;go_ret2;exact⟨rfl,b1⟩
theorem Km{t}(O:ag t=0)(V:fU t)(X:bS t=0){n:Nat}(C:10<=n)(D:n<=100)(A c)(U:ſ t<=c)(w:Ë)(P:aG w A t)(Y:eo w):
  Cb 81 #[À A (ſ t) c,Å Æ (n:Int)] w (È #[jN A (ſ t) c (ab (ce n t)),Ç]):=by
 unfold Cb;have B:Hid (∀W,Ê w w W->Cb 89 #[À A (ſ t) c,Å Æ (n:Int)] W (È #[Â (ab (ce n t)),Ç])):=λW R=>by
  have G:=uv t A c (n:Int) W U (P.W R) V (Y.W R);have E:iz t (n:Int)=0:=(rZ (AC C D) O).trans X;rw[uu E,E,cS]at G;exact G
 clear O V P Y U X;generalize ab (ce n t)=S at B⊢;generalize (ſ t)=nt at B⊢;go_in;go_wp2_with fail;refine ai (B.o _ (aC w _)) λN b1=>?_
 have I:=b1.size;rw[Ï]at I;have J:N.cell? ⟨w,0,Ä⟩=É (À Ä 0 0):=((a9 b1).1 _ _ (by simp)).trans (by simp[go_sem]);have K:N.cell? ⟨w,1,Ä⟩=É (Â ⟨#[]⟩):=((a9 b1).1 _ _ (by simp)).trans (by simp[go_sem]);have L:N.frozen? ⟨w,0,Ä⟩=false:=((a9 b1).2 _ _ (by simp)).trans (by simp[go_sem]);have M:N.frozen? ⟨w,1,Ä⟩=false:=((a9 b1).2 _ _ (by simp)).trans (by simp[go_sem]);have H:Hid (Ê w w N):=ji Zb Zl b1;clear b1;go_wp2;exact Ø (v:=È #[jN A nt c S,Ç]) (by simp[ã,Tryz.results81,go_sem,J,K]) rfl ⟨rfl,(H.o.setCell (p:=⟨w,0,Ä⟩) Zl _).setCell (p:=⟨w,1,Ä⟩) Zl _⟩
theorem Kl{t}(P:ag t=0)(X:fU t)(O:bS t≠0){n:Nat}(C:10<=n)(D:n<=100)(A c)(V:ſ t<=c)(w:Ë)(R:aG w A t)(Y:eo w):
  Cb 81 #[À A (ſ t) c,Å Æ (n:Int)] w (È #[i2,å 50 (Å Æ (bS t))]):=by
 unfold Cb;have B:Hid (∀W,Ê w w W->Cb 89 #[À A (ſ t) c,Å Æ (n:Int)] W (È #[Â ⟨#[]⟩,å 50 (Å Æ (bS t))])):=λW U=>by
  have G:=uv t A c (n:Int) W V (R.W U) X (Y.W U);have E:iz t (n:Int)=bS t:=rZ (AC C D) P;rw[r7 (by rw[E];exact O),E,cN O]at G;exact G
 clear P X R Y V O;generalize bS t=S at B⊢;generalize (ſ t)=nt at B⊢;go_in;go_wp2_with fail;refine ai (B.o _ (aC w _)) λN b1=>?_
 have I:=b1.size;rw[Ï]at I;have J:N.cell? ⟨w,0,Ä⟩=É (À Ä 0 0):=((a9 b1).1 _ _ (by simp)).trans (by simp[go_sem]);have K:N.cell? ⟨w,1,Ä⟩=É (Â ⟨#[]⟩):=((a9 b1).1 _ _ (by simp)).trans (by simp[go_sem]);have L:N.frozen? ⟨w,0,Ä⟩=false:=((a9 b1).2 _ _ (by simp)).trans (by simp[go_sem]);have M:N.frozen? ⟨w,1,Ä⟩=false:=((a9 b1).2 _ _ (by simp)).trans (by simp[go_sem]);have H:Hid (Ê w w N):=ji Zb Zl b1;clear b1;go_wp2;exact Ø (v:=È #[i2,å 50 (Å Æ S)]) (by simp[ã,Tryz.results81,go_sem,J,K]) rfl ⟨rfl,(H.o.setCell (p:=⟨w,0,Ä⟩) Zl _).setCell (p:=⟨w,1,Ä⟩) Zl _⟩
structure dr(ps old:List (List Td))(n:Nat)(w:Ë)(j i k:Nat)(wr:Ë):Prop where
 le:j<=ſ ps
 cnt:k+gS (old.map aT++(ps.map aT).take i) ((ps.map aT).drop i)=cV ps old
 z:bu (ps.drop i)=bu ps
 pg:∀t∈ps.take i,bS t=0
 nx:∃A c,wr.heap[w.heap.size]?=É (Õ #[Å Æ (n:Int),À A j c,.map (É (w.heap.size+1))] 91 (0,0))/\cP (w.heap.size+2) (À A j c) ((ps.take j).map cH) wr
 kn:dd w wr (w.heap.size+1) (ps.take i) n
 bl:Ê w w wr
theorem IC{B e A n v G}{w:Ë}(h:w.ownsRow B e A v n G){k}(E:v.ownBlock=É k):B<=k:=by
 rcases h.2 with⟨rfl,_⟩|⟨g,c,C,rfl,D,_⟩
 .cases E
 .have:g=k:=by simpa[Value.ownBlock]using E
  omega
section
variable {ps old:List (List Td)} {n j i k:Nat} {w wr w':Ë}
theorem dr.sz(h:dr ps old n w j i k wr):w.heap.size+2<=wr.heap.size:=h.kn.lt
theorem dr.grow(h:dr ps old n w j i k wr)(E:Ê wr wr w'):dr ps old n w j i k w':=by
 have D:=h.sz;obtain⟨A,c,B,C⟩:=h.nx;exact⟨h.le,h.cnt,h.z,h.pg,⟨A,c,(E.block _ (by omega)).trans B,gN C E⟩,h.kn.kept (E.block _ (by omega)),aH h.bl Zl E⟩
theorem dr.key{A V c W O}(h:dr ps old n w i i k wr)(hi:i<ſ ps)(Z:wr.heap[w.heap.size]?=É (Õ #[(n:Int),À A i c,.map (É (w.heap.size+1))] 91 (0,0)))(C:cP (w.heap.size+2) (À A i c) ((ps.take i).map cH) wr)
  (U:(wr.alloc O).grownBy w' (À A i c).ownBlock) (X:cP (w.heap.size+2) (À V (i+1) W) ((ps.take i).map cH++[cH ps[i]]) w'):
  dr ps old n w (i+1) i k (w'.setCell (w.heap.size,1) (À V (i+1) W))/\w'.heap[w.heap.size]?=É (Õ #[(n:Int),À A i c,.map (É (w.heap.size+1))] 91 (0,0)):=by
 have S:=h.sz
 have I:∀x,x<w.heap.size+2->É x≠(À A i c).ownBlock:=λx Y e=>by
  have:=IC C e.symm
  omega
 have H:∀x,x<w.heap.size+2->w'.heap[x]?=wr.heap[x]?:=λx Y=>by
  have Q:=U.block x (by rw[Ï];omega) (I x Y);have R:=(aC wr O).block x (by omega);exact Q.trans R
 have B:=(H w.heap.size (by omega)).trans Z;have K:(ps.take i).map cH++[cH ps[i]]=(ps.take (i+1)).map cH:=by rw[Á hi,List.map_append];rfl
 rw[K]at X;refine⟨⟨by omega,h.cnt,h.z,h.pg,⟨V,W,?_,?_⟩,?_,?_⟩,B⟩
 .simp[World.setCell,Array.getElem?_modify,B]
 .refine⟨X.1,?_⟩;rcases X.2 with L|⟨g,J,E,N,M,G,D⟩
  .exact .inl L
  .exact .inr ⟨g,J,E,N,M,(Ò _ _ _ _ (by simp;omega)).trans G,D⟩
 .exact h.kn.kept ((Ò _ _ _ _ (by simp)).trans (H _ (by omega)))
 .refine Below.setCell (p:=(w.heap.size,1)) ?_ Zl _;have P:=U.size;rw[Ï]at P;exact h.bl.trans ⟨U.os,U.tape,U.output,by omega,λx Y=>H x (by omega)⟩
theorem Ii{t}{A:List (List Td)}(C:ag t=0)(B:∀u∈A,ag u=0):aT t∈A.map aT↔t∈A:=by grind [vq,ag,aT]
theorem rP(hi:i<ſ ps)(A:∀t∈ps,ag t=0)(B:∀t∈old,ag t=0)(h:k+gS (old.map aT++(ps.map aT).take i) ((ps.map aT).drop i)=cV ps old):
  (ps[i]∈old\/ps[i]∈ps.take i->k+gS (old.map aT++(ps.map aT).take (i+1)) ((ps.map aT).drop (i+1))=cV ps old)/\(¬(ps[i]∈old\/ps[i]∈ps.take i)->(k+1)+gS (old.map aT++(ps.map aT).take (i+1)) ((ps.map aT).drop (i+1))=cV ps old):=by
 have G:i<(ps.map aT).length:=by simpa using hi
 rw[Mp G]at h;have E:=A _ (Í hi)
 have D:((ps.map aT)[i]∈old.map aT\/(ps.map aT)[i]∈(ps.map aT).take i)↔(ps[i]∈old\/ps[i]∈ps.take i):=by
  rw[á,<-List.map_take,Ii E B,Ii E λu H=>A u (List.mem_of_mem_take H)]
 constructor
 .intro C;rw[if_pos (D.2 C)]at h;omega
 .intro C;rw[if_neg λq=>C (D.1 q)]at h;omega
theorem dr.same(h:dr ps old n w (i+1) i k wr)(C:∀t∈ps,ag t=0)(A:∀t∈old,ag t=0)(G:ps[i]'(h.le)∈ps.take i):dr ps old n w (i+1) (i+1) k wr:=by
 have B:=h.le;have D:=h.pg _ G;refine⟨h.le,(rP B C A h.cnt).1 (.inr G),?_,λt H=>?_,h.nx,?_,h.bl⟩
 .have E:=h.z;rw[Ð B,lK D]at E;exact E
 .rw[Á B]at H;rcases â.1 H with q|q
  .exact h.pg t q
  .simp at q;rw[q];exact D
 .rw[Á B];exact h.kn.again G
theorem dr.put(h:dr ps old n w (i+1) i k wr){U}(R:bS (ps[i]'(h.le))=0)(X:U+gS (old.map aT++(ps.map aT).take (i+1)) ((ps.map aT).drop (i+1))=cV ps old)(Y:dd w w' (w.heap.size+1) (ps.take i++[ps[i]'(h.le)]) n)(P:wr.grownBy w' (É (w.heap.size+1))):dr ps old n w (i+1) (i+1) U w':=by
 have G:=h.le;have O:=h.sz;have B:∀x,x<wr.heap.size->x≠w.heap.size+1->w'.heap[x]?=wr.heap[x]?:=λx V W=>P.block x V (by simpa using W)
 obtain⟨A,c,N,I⟩:=h.nx;refine⟨h.le,X,?_,λt S=>?_,⟨A,c,(B _ (by omega) (by omega)).trans N,?_⟩,?_,?_⟩
 .have H:=h.z;rw[Ð G,lK R]at H;exact H
 .rw[Á G]at S;rcases â.1 S with q|q
  .exact h.pg t q
  .simp at q;rw[q];exact R
 .refine⟨I.1,?_⟩;rcases I.2 with K|⟨g,J,E,M,L,C,D⟩
  .exact .inl K
  .exact .inr ⟨g,J,E,M,L,(B g (Array.getElem?_eq_some_iff.1 C).1 (by omega)).trans C,D⟩
 .rw[Á G];exact Y
 .exact h.bl.trans ⟨P.os,P.tape,P.output,P.size,λx Z=>B x (by omega) (by omega)⟩
theorem Vz{B n c A K w}(h:cP B (À A n c) K w):∀b o l I,À A n c=À (É ⟨b,o,Ä⟩) l I->0<l->∃J f,w.heap[b]?=É (Õ J 9 f):=by
 intro b o l I e H;rcases h.2 with⟨C,_⟩|⟨g,G,D,C,_,E,_⟩
 .rw[e]at C;cases C
 .rw[e]at C;simp only[Value.slice.injEq,Option.some.injEq,Addr.mk.injEq,and_true]at C;obtain⟨⟨rfl,_⟩,_⟩:=C;exact⟨_,_,E⟩
theorem dr.sheet(h:dr ps old n w (ſ ps) (ſ ps) k wr)(C:∀t∈ps,ag t=0)(B:∀t∈ps,fU t)(L:ſ ps<=20)(E:10<=n)(G:n<=100):bu ps=0/\k=cV ps old/\∃A c,wr.heap[w.heap.size]?=É (Õ #[(n:Int),À A (ſ ps) c,.map (É (w.heap.size+1))] 91 (0,0))/\fG wr (À A (ſ ps) c) (.map (É (w.heap.size+1))) ps n:=by
 have J:=h.cnt;have D:=h.pg;have I:=h.kn;obtain⟨A,c,K,H⟩:=h.nx;rw[Þ (by simp),gS]at J;rw[List.take_length]at D I H;exact⟨rT ps D,by omega,A,c,K,C,D,B,L,E,G,⟨A,c,rfl,jR H⟩,.inr ⟨_,rfl,I.up λ_ _ q=>q.W h.bl⟩,Vz H⟩
end
set_option maxHeartbeats 8000000
theorem Ku(a b w):(Instr.field 137 (ä #[a,b]) 0).run prog w=.ok a w:=by kernel_rfl
theorem Us(a b w):(Instr.field 137 (ä #[a,b]) 1).run prog w=.ok b w:=by kernel_rfl
theorem RD{T}(qs n b)(w:Ë)(hS:cq T w b qs n):
  Cb 88 #[Ô (É ⟨b,0,Ä⟩)] w (Â (ab (aJ n qs))):=by
 unfold Cb;obtain⟨u,oc,m,s0,v,o,sf,y,R⟩:=hS.cell;have D:=hS.lt;obtain⟨_,_,_,C⟩:=hS;have O:=C.len;have Y:Hid (∀t∈qs,ag t=0):=C.ok;have Z:Hid (∀t∈qs,bS t=0):=C.pg;have HW:Hid (bN w u (qs.map cH)):=y;have V:Hid ((m=Ä/\qs=[])\/∃b,m=É b/\dd w w b qs n):=R;have U:Hid (∀W,Ê w w W->W.cell? ⟨b,2,Ä⟩=É (.map m)):=λW h=>((a9 h).1 _ _ D).trans o
 have Q:(w.alloc (Õ #[Ô Ä,À Ä 0 0] 38)).cell? ⟨b,1,Ä⟩=É (À u (ſ qs) oc):=((a9 (aC w _)).1 _ _ D).trans v;have L:Hid (mh qs n w 0 (w.alloc (Õ #[Ô Ä,À Ä 0 0] 38))):=⟨Ú _,rfl,a6.fresh 38 w [],aC w _,by simp[aJ]⟩;clear y R C s0 v o sf;generalize P:ſ qs=np at O Q⊢;have X:Hid (ſ qs=np):=P;clear P;go_in;go_wp2_with fail;clear Q
 go_loopw [11] (λx wr=>∃i:Nat,x=Å Æ (i:Int)/\mh qs n w i wr) (λx _=>np-(intOf x).toNat)
 case atStart=>exact⟨0,rfl,L.o⟩
 case round=>
  clear L;obtain⟨i,rfl,A⟩:=hrel;have Ac:=X.o;have Ab:=A.le;have Ad:=A.ln;by_cases Ae:i<np
  .have f:(i:Int)<(np:Int):=by omega
   have B:i<ſ qs:=by omega
   obtain⟨ob,oo,rfl,j,G⟩:=HW.o i (by simpa using B);rw[á]at G;have d0:=((a9 A.bl).1 _ _ j).trans G;have J:=Y.o qs[i] (Í _);have I:=Z.o qs[i] (Í _);rcases V.o with⟨_,e0⟩|⟨mb,rfl,H⟩
   .rw[e0]at B;simp at B
   .obtain⟨A6,c6,g,_,_,_⟩:=(H.kept (A.bl.block mb H.lt)).look (Í B) J;have o:=U.o wr A.bl;have k:=r8 J I n;have E:=(show Hid (_=_)from AP (ps:=qs) n B)
    have K:Hid (Cp 10 #[Ô (É ⟨w,0,Ä⟩),Â (ab (ce n qs[i]))] wr λe a=>(∃z,e=Ã (È #[z,Ç]))/\mh qs n w (i+1) a):=by
     have Af:=A.bl.size;refine(sx 38 w.heap.size w.heap.size (à (aJ n (qs.take i))) [] (ab (ce n qs[i])) wr yL EM A.x (by rw[ß,j8];omega) (by omega)).mono ?_;rintro e w'⟨rfl,q1,q2,_⟩;refine⟨⟨_,rfl⟩,by omega,?_,?_,?_,?_⟩
     .have s:=A.z;rw[AO B,lK I]at s;exact s
     .rw[E.o,pO];exact q1
     .exact A.bl.trans (q2.W Zl)
     .rw[E.o,Ó];omega
    clear H A G J I E k;generalize ab (ce n qs[i])=S6 at g K;have Aa:=Us;go_wp2_with fail;refine K.o.mono ?_;rintro e w4⟨⟨q,rfl⟩,r⟩;have d:Hid (mh qs n w (i+1) w4):=r;clear r;go_wp2;refine⟨⟨i+1,by go_num,d.o⟩,?_⟩;simp[intOf];omega
  .have f:¬(i:Int)<(np:Int):=by omega
   have N:qs.take i=qs:=Ý (by omega);have l:=A.x;rw[N]at l;have p:Hid (Cp 12 #[Ô (É ⟨w,0,Ä⟩)] wr λe a=>e=Ã (Â (ab (aJ n qs)))/\Ê w wr a):=tT _ _ _ _ _ _ l;have HB:Hid (Ê w w wr):=A.bl;clear A N l;generalize M:ab (aJ n qs)=S at p;have c:Hid (ab (aJ n qs)=S):=M;clear M;go_wp2_with fail;refine ai p.o λw3 b3=>?_
   have a:Hid (Ê w w w3):=HB.o.trans b3;clear b3;go_wp2;go_ret;refine⟨?_,a.o⟩;rw[c.o];rfl
