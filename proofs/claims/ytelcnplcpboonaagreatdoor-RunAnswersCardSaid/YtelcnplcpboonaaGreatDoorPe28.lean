import Derived.Test.YtelcnplcpboonaaGreatDoorPe25
import Derived.RegionDies
open Go.Proofs.Tryz
open List renaming length->ſ
open Go.Lib renaming cell_of_heap->À,frozen_of_heap->Í,alloc_old->Û,fields->è
open Go.Value renaming slice->Á,string->Â,pointer->Å,ownBlock->Î,int->Ò,tuple->ì,bool->í
open Go.World renaming size_alloc->Ã,cell?->Ø,frozen?->ã
open Option renaming some->Ä,none->Ì
open Go.Ending renaming returned->Æ,panicked->É
open Array renaming getElem?_eq_some_iff->Ç
open List renaming getElem?_eq_some_iff->È,getElem?_eq_getElem->Ê,getElem_mem->Ó,length_drop->Ö,flatMap_singleton->Ý,length_map->Þ,length->à,flatMap_append->á,length_cons->ç,replicate->é
open Go renaming World->Ë,heap_alloc_new->Ð,Calls->Ü,Value->â,madeCells->æ,run_make_row'->ê,Addr->ë
open Go.IntKind renaming i64->Ï
open Go.RowKit.Below renaming heap_alloc->Ñ,drew->Õ,heap_setCell->Ú,refl->ä
open Go.Obj renaming cells->Ô
open Go.RowKit renaming Below->Ù
open Nat renaming le_refl->ß,lt_of_lt_of_le->å
namespace Go.Proofs.YtelcnplcpboonaaGreatDoor
open Go Go.RowKit
set_option maxRecDepth 100000
set_option maxHeartbeats 4000000
theorem jg(z n):(æ #[z] n).size=n:=by simp[æ]
theorem eQ(w:Ë)(I J K L):((((w.alloc I).alloc J).alloc K).alloc L).drew.heap[w.heap.size]?=Ä I/\((((w.alloc I).alloc J).alloc K).alloc L).drew.heap[w.heap.size+1]?=Ä J
  /\((((w.alloc I).alloc J).alloc K).alloc L).drew.heap[w.heap.size+1+1]?=Ä K/\((((w.alloc I).alloc J).alloc K).alloc L).drew.heap[w.heap.size+1+1+1]?=Ä L:=by
 have E:(w.alloc I).heap.size=w.heap.size+1:=by simp
 have G:((w.alloc I).alloc J).heap.size=w.heap.size+1+1:=by simp
 have H:(((w.alloc I).alloc J).alloc K).heap.size=w.heap.size+1+1+1:=by simp
 have D:=Ð w I;have A:=Ð (w.alloc I) J;have B:=Ð ((w.alloc I).alloc J) K;have C:=Ð (((w.alloc I).alloc J).alloc K) L;rw[E]at A;rw[G]at B;rw[H]at C;refine⟨?_,?_,?_,C⟩
 .exact(Ñ _ _ _ (by omega)).trans ((Ñ _ _ _ (by omega)).trans ((Ñ _ _ _ (by omega)).trans D))
 .exact(Ñ _ _ _ (by omega)).trans ((Ñ _ _ _ (by omega)).trans A)
 .exact(Ñ _ _ _ (by omega)).trans B
theorem oR(w:Ë)(A B C D):Ù w w ((((w.alloc A).alloc B).alloc C).alloc D).drew:=
 Õ (((((ä _ w).alloc Zl _).alloc (by simp) _).alloc (by simp;omega) _).alloc (by simp;omega) _)
theorem oK{w W:Ë}{s G D E H:Nat}{a:Option ë}{C:List Nd}(P:s<w.heap.size)(M:cO s w a C)(bw:Ù w w W)(rb:W.heap[w.heap.size]?=Ä (Ô #[Á Ì 0 0,Á Ì 0 0,Á Ì 0 0] 334 (0,0)))
  (J:W.heap[G]?=Ä (Ô #[Á a (ſ C) H,Á (Ä ⟨D,0,Ì⟩) (ſ C) (ſ C),Á (Ä ⟨E,0,Ì⟩) (ſ C) (ſ C)] 334 (0,0))) {I cf:Array â} {K L:TypeId} (N:W.heap[D]?=Ä (Ô I K (0,0))) (A:I.size=ſ C) (O:W.heap[E]?=Ä (Ô cf L (0,0))) (B:cf.size=ſ C)
  (b1:w.heap.size<=G) (b2:w.heap.size+1<=D) (b3:w.heap.size+1<=E) (n1:G≠D) (n2:G≠E) (n3:D≠E):kq w s G D E a H C W where
 b1:=b1
 b2:=b2
 b3:=b3
 n1:=n1
 n2:=n2
 n3:=n3
 c0:=by simp[Ø,J]
 c1:=by simp[Ø,J]
 c2:=by simp[Ø,J]
 re:=⟨I,K,N,A⟩
 rf:=⟨cf,L,O,B⟩
 rb:=rb
 bw:=bw
 nd:=M.kept (bw.block s P)
theorem MQ(ds a cap s)(w:Ë)(h0:bM ds=0)(hN:cO s w a ds)(hs:s<w.heap.size):
  Ü prog 260 #[Á a (ſ ds) cap] w λe b=>(∃c d,e=Æ (.agg #[Á a (ſ ds) cap,Á (Ä ⟨c,0,Ì⟩) (ſ ds) (ſ ds),Á (Ä ⟨d,0,Ì⟩) (ſ ds) (ſ ds)])/\c<b.heap.size/\d<b.heap.size/\hJ b c d ds 0)/\Ù w w b:=by
 obtain⟨l,H,Y⟩:=mD h0
 have m:∀W:Ë,(Instr.makeSlice 73 (ſ ds:Int) (ſ ds:Int)).run prog W=.ok (Á W.heap.size (ſ ds) (ſ ds)) (W.alloc (Ô (æ #[Ò Ï 0] (ſ ds)) 3)):=λW=>
  ê 73 3 _ 8 Tryz.underlying73 vM rfl Ï Ï (ſ ds) (by omega) (by omega) W
 have n:∀W:Ë,(Instr.makeSlice 332 ↑(ſ ds:Int) ↑(ſ ds:Int)).run prog W=.ok (Á ↑W.heap.size (ſ ds) (ſ ds)) (W.alloc (Ô (æ #[í false] (ſ ds)) 4)):=λW=>
  ê 332 4 _ 1 Tryz.underlying332 TO rfl Ï Ï (ſ ds) (by omega) (by omega) W
 have L:Hid (∀x∈ds,bz x=0):=H;have I:Hid (bB ds 0 1=Ä (ſ ds)):=Y;have E:Hid (cO s w a ds):=hN;clear h0 hN H Y;go_in
 go_upto_region 1 with fail
 go_cut [0,2,3] (λb c d f=>b=Á a (ſ ds) cap/\c=Å (Ä ⟨w,0,Ì⟩)/\∃B b c,d=Å (Ä ⟨B,0,Ì⟩)/\kq w s B b c a cap ds f)
 case first=>
  go_region_held3 (λ_=>True) (trivial) (fail)
  all_goals (go_wp2)
  all_goals
   go_meet
   first
    | exact⟨rfl,rfl,w.heap.size+1+1+1,w.heap.size+1,w.heap.size+1+1,rfl,oK hs E.o (oR w _ _ _ _) (eQ w _ _ _ _).1 (eQ w _ _ _ _).2.2.2 (eQ w _ _ _ _).2.1 (jg _ _) (eQ w _ _ _ _).2.2.1 (jg _ _) (by omega) (by omega) (by omega) (by omega) (by omega) (by omega)⟩
    | exact⟨rfl,rfl,w.heap.size+1+1,w.heap.size+1,w.heap.size+1+1+1,rfl,oK hs E.o (oR w _ _ _ _) (eQ w _ _ _ _).1 (eQ w _ _ _ _).2.2.1 (eQ w _ _ _ _).2.1 (jg _ _) (eQ w _ _ _ _).2.2.2 (jg _ _) (by omega) (by omega) (by omega) (by omega) (by omega) (by omega)⟩
    | exact⟨rfl,rfl,w.heap.size+1+1+1,w.heap.size+1+1,w.heap.size+1,rfl,oK hs E.o (oR w _ _ _ _) (eQ w _ _ _ _).1 (eQ w _ _ _ _).2.2.2 (eQ w _ _ _ _).2.2.1 (jg _ _) (eQ w _ _ _ _).2.1 (jg _ _) (by omega) (by omega) (by omega) (by omega) (by omega) (by omega)⟩
    | exact⟨rfl,rfl,w.heap.size+1,w.heap.size+1+1,w.heap.size+1+1+1,rfl,oK hs E.o (oR w _ _ _ _) (eQ w _ _ _ _).1 (eQ w _ _ _ _).2.1 (eQ w _ _ _ _).2.2.1 (jg _ _) (eQ w _ _ _ _).2.2.2 (jg _ _) (by omega) (by omega) (by omega) (by omega) (by omega) (by omega)⟩
    | exact⟨rfl,rfl,w.heap.size+1+1,w.heap.size+1+1+1,w.heap.size+1,rfl,oK hs E.o (oR w _ _ _ _) (eQ w _ _ _ _).1 (eQ w _ _ _ _).2.2.1 (eQ w _ _ _ _).2.2.2 (jg _ _) (eQ w _ _ _ _).2.1 (jg _ _) (by omega) (by omega) (by omega) (by omega) (by omega) (by omega)⟩
    | exact⟨rfl,rfl,w.heap.size+1,w.heap.size+1+1+1,w.heap.size+1+1,rfl,oK hs E.o (oR w _ _ _ _) (eQ w _ _ _ _).1 (eQ w _ _ _ _).2.1 (eQ w _ _ _ _).2.2.2 (jg _ _) (eQ w _ _ _ _).2.2.1 (jg _ _) (by omega) (by omega) (by omega) (by omega) (by omega) (by omega)⟩
 case rest=>
  obtain⟨rfl,rfl,B,be,bf,rfl,V⟩:=hcut;have f:Hid (kq w s B be bf a cap ds wc):=V;clear V;go_wp2
  go_loopw [4] (λi wr=>kq w s B be bf a cap ds wr/\∃k:Nat,k<=ſ ds/\i=Ò Ï ((k:Int)-1)/\hJ wr be bf ds k) (λi _=>(intOf i+1).toNat)
  case atStart=>exact⟨f.o,ſ ds,ß _,by go_num,hJ.end⟩
  case round=>
   obtain⟨c,k,C,rfl,U⟩:=hrel;have A:Hid (kq w s B be bf a cap ds wr):=c;have J:Hid (hJ wr be bf ds k):=U;clear c U;by_cases P:k=0
   .subst P;have b:¬((0:Int)<=((0:Nat):Int)-1):=by omega
    have c0:=A.o.c0;have c1:=A.o.c1;have c2:=A.o.c2;have D:=A.o.rb;have u:wr.cell? w.heap.size=Ä (Á Ì 0 0):=by simp[Ø,D]
    have y:wr.cell? (w.heap.size,1)=Ä (Á Ì 0 0):=by simp[Ø,D]
    have z:wr.cell? (w.heap.size,2)=Ä (Á Ì 0 0):=by simp[Ø,D]
    have f0:wr.frozen? w.heap.size=false:=by simp[ã,D]
    have f1:wr.frozen? (w.heap.size,1)=false:=by simp[ã,D]
    have f2:wr.frozen? (w.heap.size,2)=false:=by simp[ã,D]
    clear D;go_wp2;refine bodyPost_ret (v:=.agg #[Á a (ſ ds) cap,Á ↑be (ſ ds) (ſ ds),Á ↑bf (ſ ds) (ſ ds)]) (by simp[results,Tryz.results260,go_sem,u,y,z]) rfl ?_
    have O:∀a b c,Ù w wr (((wr.setCell w.heap.size a).setCell (w.heap.size,1) b).setCell (w.heap.size,2) c):=λv0 v1 v2=>
     (((ä _ wr).setCell (p:=↑w.heap.size) Zl _).setCell (p:=↑(w.heap.size,1)) Zl _).setCell (p:=↑(w.heap.size,2)) Zl _
    have o:=A.o.b2;have q:=A.o.b3;have le:=A.o.re.lt;have r:=A.o.rf.lt
    have C:∀a b c k,k≠w.heap.size->(((wr.setCell ↑w.heap.size a).setCell ↑(w.heap.size,1) b).setCell ↑(w.heap.size,2) c).heap[k]?=wr.heap[k]?:=λv0 v1 v2 k C=>
     (Ú _ _ _ _ C).trans ((Ú _ _ _ _ C).trans (Ú _ _ _ _ C))
    exact⟨⟨be,bf,rfl,å le (O _ _ _).size,å r (O _ _ _).size,J.o.kept (C _ _ _ _ (by omega)) (C _ _ _ _ (by omega))⟩,A.o.bw.trans (O _ _ _)⟩
   .obtain⟨i,rfl⟩:∃i,k=i+1:=⟨k-1,by omega⟩;have G:(((i+1:Nat):Int)-1)=(i:Int):=by omega
    rw[G];obtain⟨j,Z,g,h⟩:=RF I.o (show i<ſ ds by omega);obtain⟨t,d,X,_⟩:=G7 L.o Z;have Q:Hid (ds.drop i=t.N++ds.drop j):=X;clear X Z G;go_wp2_with fail;refine ai (R0 B be bf s cap i ds a t (ds.drop j) _ d Q.o l A.o.nd A.o.n1 A.o.n2 A.o.n3 (by have:=A.o.b2;omega) (by have:=A.o.b3;omega) A.o.c0 A.o.c1 A.o.c2 A.o.re A.o.rf J.o) λw2 hp2=>?_
    obtain⟨y1,R⟩:=A.o.re.cell (show i<ſ ds by omega);obtain⟨y2,S⟩:=A.o.rf.cell (show i<ſ ds by omega);have M:Hid (kq w s B be bf a cap ds w2):=A.o.put hs hp2;have K:Hid (hJ w2 be bf ds i):=J.o.step d Q.o A.o.n3 R S hp2;clear hp2 R S;go_wp2
    go_roundw
    case rel=>exact⟨M.o,i,by omega,by go_num,K.o⟩
    case measure=>simp[intOf]
theorem RV(s)(w:Ë):Cb 155 #[Á Ì 0 0,Â s] w (Â ⟨#[]⟩):=by
 unfold Cb;go_in;go_wp2;go_ret;exact⟨rfl,ä _ _⟩
theorem yc{B w A n c J}(h:cP B (Á A n c) J w):n=ſ J/\n<=c/\((A=Ì/\n=0/\c=0)\/∃g,A=Ä ⟨g,0,Ì⟩/\g<w.heap.size):=by
 rcases h.2 with⟨C,G⟩|⟨g,I,E,C,_,H,D,_⟩
 .simp only[Value.slice.injEq]at C;obtain⟨rfl,rfl,rfl⟩:=C;exact⟨G.symm,ß _,.inl ⟨rfl,rfl,rfl⟩⟩
 .simp only[Value.slice.injEq]at C;obtain⟨rfl,rfl,rfl⟩:=C;exact⟨rfl,D,.inr ⟨g,rfl,(Ç.1 H).1⟩⟩
theorem RU{B A n c W}{w:Ë}(h:cP B (Á A n c) (W.map ab) w)(R:eC W<=1000000):Cb 155 #[Á A n c,Â ⟨#[32]⟩] w (Â (ab (jb W))):=by
 unfold Cb;obtain⟨M,J,I⟩:=yc h;have P:=si W;have E:=uc W;have L:(W.map ab).length=ſ W:=Þ ..;rcases I with⟨rfl,rfl,rfl⟩|⟨g,rfl,K⟩
 .have:W=[]:=List.eq_nil_of_length_eq_zero (by omega)
  subst this;exact RV _ w
 .subst M
  have H:(W.map ab).map (λx=>x.data.toList)=W:=by
   rw[List.map_map];exact List.map_id W
  have C:Lib.join ((W.map ab).map (λx=>x.data.toList)) (⟨#[32]⟩:ByteArray).data.toList=jb W:=by
   rw[H];exact F2 W
  have D:=vO g 0 c (W.map ab) ⟨#[32]⟩ w ?_ K (by omega) J (by rw[C];omega)
  .rw[C]at D;exact D
  .intro j x N;obtain⟨E,rfl⟩:=È.1 N;obtain⟨O,Q,e,_,G⟩:=jR h j E;simp only[Option.some.injEq,Addr.mk.injEq,and_true]at e;obtain⟨rfl,rfl⟩:=e;exact G
theorem L0{w S}(h:ab w=S):S.extract 1 S.size=ab (w.drop 1):=by
 subst h;rw[m8]
 congr 1
 rw[List.take_of_length_le]
 .rfl
 .rw[Ö,aw];omega
theorem Nt{x:Wd}(J:lV x)(K:ſ x<=60000)(w:Ë)(I:eo w):Ü prog 182 #[Â (ab (x.drop 1))] w λe H=>∃g,e=Æ (Á (Ä ⟨g,0,Ì⟩) (dT x).length (dT x).length)/\bN H (Ä ⟨g,0,Ì⟩) ((dT x).map ab)/\Ù w w H:=by
 have B:ae (ab (x.drop 1))=x.drop 1:=rfl;refine(CG (ab (x.drop 1)) w (by rw[<-aw,B,Ö];omega) ?_ I.spc).mono ?_
 .intro j c D;have G:c∈x:=List.mem_of_mem_drop (List.mem_of_getElem? (show(x.drop 1)[j]?=Ä c from D))
  have:=J.2 c G
  simp only[dW,Bool.and_eq_true,decide_eq_true_eq]at this;omega
 .rintro e H⟨rfl,rfl⟩;refine⟨w.heap.size,rfl,?_,aC w _⟩;intro i C;have A:i<(dT x).length:=by simpa using C
  refine⟨w.heap.size,0,rfl,by rw[Ã];omega,?_⟩;rw[Nat.zero_add];have E:=Ð w (Ô ((è (ae (ab (x.drop 1)))).map λl=>Â ⟨l.toArray⟩).toArray 9);rw[À E]
  show((è (x.drop 1)).map λl=>Â ⟨l.toArray⟩).toArray[i]?=_
  rw[List.getElem?_toArray,List.getElem?_map,show(è (x.drop 1))[i]?=Ä (dT x)[i]from Ê A];simp[ab]
theorem DD:∀(ws:List Wd)(x:Wd),x∈ws->ſ x<=(ws.map à).sum
 | y::r,x,h=>by
  rw[List.map_cons,List.sum_cons];rcases List.mem_cons.1 h with rfl|h
  .omega
  .have:=DD r x h
   omega
structure wj(K:ew)(ws:List Wd)(pl:Nat->Nat)(b p:Nat)(w:Ë)(q:Nat)(W:List Wd)(v:â)(wr:Ë):Prop where
 pq:p<=q
 o:cP w v (W.map ab) wr
 rd:Ry K ws pl b q wr
 bt:ak w b w wr
 eq:W=((ws.drop p).take (q-p)).flatMap dT
 nt:∀x∈(ws.drop p).take (q-p),lV x
structure yB(K:ew)(ws:List Wd)(pl:Nat->Nat)(b p:Nat)(w:Ë)(q:Nat)(n:Bool)(t:List Td)(v:â)(w':Ë):Prop where
 lt:p<q
 o:au w v t w'
 ne:t≠[]
 l:ſ t<=100000
 rd:Ry K ws pl b q w'
 bt:ak w b w w'
 pg:∀pv acc r,(pv=true->∀x,ws[p]?=Ä x->x.headD 0≠35)->PG n (acc++[t]) (ws.drop q) r->PG pv acc (ws.drop p) r
 nx:n=true->∀x,ws[q]?=Ä x->x.headD 0≠35
inductive fD (K:ew) (ws:List Wd) (pl:Nat->Nat) (b p:Nat) (w:Ë):Ending->Ë->Prop where
 | ok {q n t A c w'} (h:yB K ws pl b p w q n t (Á A (ſ t) c) w'):fD K ws pl b p w (Æ (Á A (ſ t) c)) w'
 | bad {u w'} (pg:∀a b,PG a b (ws.drop p) (.bad u)) (bt:ak w b w w'):fD K ws pl b p w (É [cD (pl (ſ ws-ſ u))]) w'
theorem vt{ws:List Wd}{p q}(h:p<=q)(A:q<ſ ws):(ws.drop p).take (q+1-p)=(ws.drop p).take (q-p)++[ws[q]]:=by
 rw[show q+1-p=q-p+1 by omega,List.take_succ_eq_append_getElem (by rw[Ö];omega)]
 congr 2
 rw[List.getElem_drop]
 congr 1
 omega
theorem Nr(ws:List Wd){p q}(h:p<=q):ws.drop p=(ws.drop p).take (q-p)++ws.drop q:=by
 have e:ws.drop q=(ws.drop p).drop (q-p):=by rw[List.drop_drop];congr 1;omega
 rw[e,List.take_append_drop]
theorem OJ{K ws}{pl:Nat->Nat}{b p}{w:Ë}(z:∀x∈ws,dR x)(At:(ws.map à).sum<=60000)(hp:p<ſ ws)(hn:ws[p].headD 0=35)(s:∀a,ak w b w a->eo a)(h:Ry K ws pl b p w):
  Ü prog 146 #[Å b] w λe a=>fD K ws pl b p w e a:=by
 have i:=aa z;have Af:=aa s
 have Ad:Hid (∀x∈ws,ſ x<=60000):=λx H=>by
  have:=DD ws x H
  omega
 have f:Hid (∀q,eC (((ws.drop p).take (q-p)).flatMap dT)<=120000):=λq=>by
  have h1:=FT ((ws.drop p).take (q-p));have h2:=VA ws p (q-p);omega
 have Am:=h.row.lt;have Ao:=h.gwlt;have An:=h.galt;have Ag:Hid (wj K ws pl b p w p [] (Á Ì 0 0) w):=⟨ß _,World.ownsRow_nil _ _ _ _,h,ak.refl _ _ _,by simp,λx H=>by simp at H⟩;clear h z s;go_in;go_wp2_with fail
 go_loopw [3] (λx wr=>∃(q:Nat)(W:List Wd)(A:Option ë)(n c:Nat),x=Á A n c/\(ſ W)=n/\wj K ws pl b p w q W (Á A n c) wr) (λ_ wr=>nU wr b)
 case atStart=>exact⟨p,[],_,_,_,rfl,rfl,Ag.o⟩
 case round=>
  obtain⟨q,W,A,n,c,rfl,O,D⟩:=hrel;have As:=D.rd.le;have M:=aa D;have Ai:=aa O;have Aa:=D.bt.size;have G:Hid (Cw 117 #[Å b] wr (Â (ab (ws.getD q [])))):=(oB D.rd).mono λ_ _ h=>⟨h.1,h.2.symm⟩
  have E:Hid (Cw 145 #[Â (ab (ws.getD q []))] wr (í (decide ((ws.getD q []).headD 0=35)))):=(Jl _ wr).mono λ_ _ h=>⟨h.1,h.2.symm⟩
  by_cases B:(ws.getD q []).headD 0=35
  .have N:q<ſ ws:=by
    rcases Nat.lt_or_ge q (ſ ws) with h'|h'
    .exact h'
    .rw[mN h']at B;simp at B
   rw[decide_eq_true B]at E;rw[iY N]at B G E;have I:=PU (i.o _ (Ó N)) B;have HN:=aa (qa D.rd N)
   have y:1<=(ab ws[q]).size:=by
    have:=G6 (i.o _ (Ó N))
    rw[<-aw];exact this
   have HF:Hid (∀a,ak w b w a->Cp 182 #[Â ((ab ws[q]).extract 1 (ab ws[q]).size)] a λe b=>∃g,e=Æ (Á (Ä ⟨g,0,Ì⟩) (dT ws[q]).length (dT ws[q]).length)/\bN b (Ä ⟨g,0,Ì⟩) ((dT ws[q]).map ab)/\Ù a a b):=λW' hB=>by
    rw[L0 rfl];exact Nt I (Ad.o _ (Ó N)) W' (Af.o W' hB)
   have X:=f.o (q+1);rw[vt D.pq N,á,<-D.eq,Ý,uA]at X;have Ap:=si W;have u:=si (dT ws[q]);have v:n+(dT ws[q]).length<=1000000:=by omega
   have Y:Hid (∀a c d,cP w (Á a (n+(dT ws[q]).length) c) (W.map ab++(dT ws[q]).map ab) d->Ry K ws pl b (q+1) d->ak w b w d->(W++dT ws[q]).length=n+(dT ws[q]).length/\wj K ws pl b p w (q+1) (W++dT ws[q]) (Á a (n+(dT ws[q]).length) c) d):=λA2 c2 w2 h1 h2 h3=>by
    refine⟨by rw[List.length_append,Ai.o],Nat.le_succ_of_le M.o.pq,by rw[List.map_append];exact h1,h2,h3,?_,?_⟩
    .rw[vt M.o.pq N,á,<-M.o.eq,Ý]
    .rw[vt M.o.pq N];intro x H;rcases List.mem_append.1 H with H|H
     .exact M.o.nt x H
     .rw[List.mem_singleton]at H;rw[H];exact I
   have R:Hid (((dT ws[q]).map ab).length=(dT ws[q]).length):=Þ ..;have Ae:Hid ((W.map ab).length=n):=(show _=_ by rw[Þ];exact O);generalize ab ws[q]=S at G E HN HF y
   generalize(dT ws[q]).map ab=FS at HF Y R
   generalize(dT ws[q]).length=fn at HF Y v R X u
   clear D O B I X Ap u;go_wp2_with fail;refine an G.o ?_;go_wp2_with fail;refine an E.o ?_;go_wp2_with fail;refine HN.o.mono ?_;rintro e w3⟨rfl,h3,b3⟩;have Aw:=b3.size;have Q:=aa (M.o.bt.trans (b3.mono Aa));have a:=aa h3
   have Z:Hid (cP w (Á A n c) (W.map ab) w3):=by
    refine⟨M.o.o.1,?_⟩;rcases M.o.o.2 with h0|⟨g,c',Ak,hv,hB,hg,Ab⟩
    .exact .inl h0
    .exact .inr ⟨g,c',Ak,hv,hB,(b3.block g (Ç.1 hg).1 (by omega)).trans hg,Ab⟩
   clear h3 b3 HN G E;go_wp2_with fail;refine(HF.o w3 Q.o).mono ?_;rintro e w4⟨g,rfl,l,j⟩;have Ax:=j.size;have U:=aa (gN Z.o j);have Ah:=aa l;have d:=aa (a.o.keep j);have Ac:=aa (Q.o.trans (ak.of (j.mono (by omega))));have Au:=d.o.row.lt;clear l j Z a Q;go_wp2_with(at_builtin;refine uF rfl _ _ rfl w.heap.size _ (W.map ab) rfl U.o (Ä ⟨g,0,Ì⟩) fn FS R.o fn rfl Ah.o (λe=>by cases e) (n+fn) (by rw[Ae.o]) v (by omega) ?_);intro A5 c5 w5 L C;have m:=Y.o A5 c5 w5 L ?rd5 ?bt5
   case rd5=>exact d.o.keepB ((ä w.heap.size w4).grown C (by omega) (λk a=>(World.ownsRow.lt U.o k a).1)) Am Ao An
   case bt5=>exact Ac.o.grown C (by omega) (λk a=>(World.ownsRow.lt U.o k a).1)
   have V:=aa m;clear m L C;go_wp2;refine⟨⟨q+1,_,A5,n+fn,c5,rfl,V.o.1,V.o.2⟩,?_⟩;rw[V.o.2.rd.len_eq,M.o.rd.len_eq];omega
  .rw[decide_eq_false B]at E
   have Ar:p<q:=by
    rcases Nat.eq_or_lt_of_le D.pq with e|e
    .subst e;rw[iY hp]at B;exact absurd hn B
    .exact e
   have P:=f.o q;rw[<-D.eq]at P;have HJ:=aa (RU D.o (by omega))
   have Y:Hid (∀a,Ù wr wr a->fD K ws pl b p w (Æ (Á a.heap.size 1 1)) (a.alloc (Ô #[Ò Ï 9,Â (ab (jb W)),Ò Ï 0] 81))):=λw1 hb1=>by
    have D:=M.o;have Av:=hb1.size;have Al:=D.bt.trans (ak.of (hb1.mono Aa));refine fD.ok (q:=q) (n:=true) (t:=[gL (jb W)]) ⟨Ar,(au.one w1 (gL (jb W))).down (by omega),by simp,by simp,(D.rd.keep hb1).keep (aC w1 _),Al.alloc (by omega) _,λpv acc r hpv hr=>?_,λ_ x H=>?_⟩
    .have Aq:pv=false:=by
      cases pv with
      | false=>rfl
      | true=>exact absurd hn (hpv rfl _ (Ê hp))
     subst Aq;rw[Nr ws D.pq];refine U9 (λe=>?_) D.nt ?_
     .have:=congrArg à e
      rw[List.length_take,Ö]at this;simp only[List.length_nil]at this;omega
     .rw[<-D.eq];exact hr
    .obtain⟨N,rfl⟩:=È.1 H;rw[iY N]at B;exact B
   generalize ab (jb W)=J at HJ Y;generalize ab (ws.getD q [])=S at G E;clear D O B P;go_wp2_with fail;refine an G.o ?_;go_wp2_with fail;refine an E.o ?_;go_wp2_with fail;refine ai HJ.o λw1 b1=>?_
   have Aj:=aa (Y.o w1 b1);clear b1;go_wp2;go_ret;exact Aj.o
set_option maxHeartbeats 8000000
section
variable {K:ew} {ws:List Wd} {pl:Nat→Nat} {b p q:Nat} {w:Ë}
theorem V1(C:∀x∈ws,dR x)(M:q<ſ ws)(O:bb ws[q]=true)(h:Ry K ws pl b q w):
  Ü prog 148 #[Å b] w λe N=>e=Æ (Â (ab ws[q]))/\Ry K ws pl b (q+1) N/\ak w b w N:=by
 obtain⟨I,_,E⟩:=ti h (iY M) (.inr (C _ (Ó M)));rw[O]at E;have A:=(show Hid (Ü _ _ _ _ _)from I);have B:=(show Hid (Ü _ _ _ _ _)from E);have D:=aa (qa h M);generalize ab ws[q]=S at A B D⊢;go_in;go_wp2_with fail;refine A.o.mono ?_;rintro e G⟨rfl,rfl⟩;go_wp2_with fail;refine B.o.mono ?_;rintro e G⟨rfl,rfl⟩;go_wp2_with fail;refine D.o.mono ?_;rintro e G⟨rfl,L,J⟩;have H:=aa (And.intro L J);go_wp2;go_ret;exact⟨rfl,H.o⟩
theorem V0(E:∀x∈ws,dR x)(M:∀x,ws[q]?=Ä x->bb x=false)(h:Ry K ws pl b q w):
  Ü prog 148 #[Å b] w λe a=>e=É [cD (pl q)]/\w=a:=by
 have J:(ws.getD q [])=[]\/dR (ws.getD q []):=by
  by_cases C:q<ſ ws
  .rw[iY C];exact .inr (E _ (Ó C))
  .exact .inl (mN (by omega))
 have D:bb (ws.getD q [])=false:=by
  by_cases C:q<ſ ws
  .rw[iY C];exact M _ (Ê C)
  .rw[mN (by omega)];decide
 obtain⟨I,_,H⟩:=ti h rfl J;rw[D]at H;have A:=(show Hid (Ü _ _ _ _ _)from I);have B:=(show Hid (Ü _ _ _ _ _)from H);have G:Hid (Cp 185 #[Å b] w λe a=>e=É [cD (pl q)]/\w=a):=(ED h).mono λ_ _ h=>⟨h.1,h.2.symm⟩
 generalize ab (ws.getD q [])=S at A B;generalize pl q=pp at G⊢;go_in;go_wp2_with fail;refine A.o.mono ?_;rintro e L⟨rfl,rfl⟩;go_wp2_with fail;refine B.o.mono ?_;rintro e L⟨rfl,rfl⟩;go_wp2_with fail;refine an G.o ?_;go_wp2;exact⟨rfl,rfl,rfl⟩
theorem G0(h:kP K ws pl b q):(∃m D u,PR (.level 0) (ws.drop q) (.ok m D u)/\∀w:Ë,Ry K ws pl b q w->Ü prog 150 #[Å b] w λe E=>∃A c,e=Æ (Á A (ſ D) c)/\sU K ws pl b (.level 0) q w m D u (Á A (ſ D) c) E)\/
  (∀w:Ë,Ry K ws pl b q w->Ü prog 150 #[Å b] w λe E=>∃u,e=É [cD (pl (ſ ws-ſ u))]/\PR (.level 0) (ws.drop q) (.bad u)/\ak w b w E):=by
 by_cases C:∃m D u,PR (.level 0) (ws.drop q) (.ok m D u)
 .obtain⟨m,D,u,B⟩:=C;refine .inl ⟨m,D,u,B,λw H=>(h w H).mono λe E G=>?_⟩;cases G with
  | bad pr _=>cases fL B pr
  | @ok m2 ns2 u2 A c _ hg=>
   cases fL B hg.pr;exact⟨A,c,rfl,hg⟩
 .refine .inr λw H=>(h w H).mono λe E G=>?_
  cases G with
  | @bad u _ pr bt=>exact⟨u,rfl,pr,bt⟩
  | ok hg=>exact absurd ⟨_,_,_,hg.pr⟩ C
structure gG(K:ew)(ws:List Wd)(pl:Nat->Nat)(b:Nat)(w:Ë)(q:Nat)(x:Td)(wc:Ë):Prop where
 rd:Ry K ws pl b q wc
 bt:ak w b w wc
 bx:wc.heap[w.heap.size]?=Ä (Ô #[Ò Ï x.op,Â x.tx,Ò Ï x.n] 81 (0,0))
 gw:K.gw<w.heap.size
 ga:K.ga<w.heap.size
 lb:b<w.heap.size
theorem gG.but{x}{wc:Ë}{B D}(h:gG K ws pl b w q x wc)(C:ak wc b wc B)(E:Ry K ws pl b D B):gG K ws pl b w D x B:=by
 have A:=(Ç.1 h.bx).1
 have:=h.lb
 exact⟨E,h.bt.trans (C.mono (by omega)),(C.block _ A (by omega)).trans h.bx,h.gw,h.ga,h.lb⟩
theorem gG.put{x wc}(h:gG K ws pl b w q x wc)(y):gG K ws pl b w q y (((wc.setCell w.heap.size y.op).setCell (w.heap.size,1) (Â y.tx)).setCell (w.heap.size,2) y.n):=by
 have A:=h.gw;have B:=h.ga;have C:=h.lb;refine⟨((h.rd.far (by omega) (by omega) (by omega)).far (by omega) (by omega) (by omega)).far (by omega) (by omega) (by omega),((h.bt.setCell (p:=w.heap.size) (.inr Zl) _).setCell (p:=(w.heap.size,1)) (.inr Zl) _).setCell (p:=(w.heap.size,2)) (.inr Zl) _,?_,A,B,C⟩;simp[World.setCell,Array.getElem?_modify,h.bx]
structure pi(K:ew)(ws:List Wd)(pl:Nat->Nat)(b p:Nat)(w:Ë)(q:Nat)(x:Td)(wc:Ë):Prop where
 le:p<=q
 rd:Ry K ws pl b q wc
 bt:ak w b w wc
 bx:wc.heap[w.heap.size]?=Ä (Ô #[Ò Ï x.op,Â x.tx,Ò Ï x.n] 81 (0,0))
 ok:∀m ns u,PR (.level 0) (ws.drop q) (.ok m ns ([59]::u))->∀pv acc r,PG false (acc++[x::ns]) u r->PG pv acc (ws.drop p) r
 bad1:∀u,PR (.level 0) (ws.drop q) (.bad u)->∀pv acc,PG pv acc (ws.drop p) (.bad u)
 bad2:∀m a u,PR (.level 0) (ws.drop q) (.ok m a u)->u.head?≠Ä [59]->∀a b,PG a b (ws.drop p) (.bad u)
theorem pi.kept{x}{wc:Ë}{w'}(h:pi K ws pl b p w q x wc)(A:Ù wc wc w')(B:w.heap.size<=wc.heap.size):pi K ws pl b p w q x w':=
 ⟨h.le,h.rd.keep A,h.bt.trans (ak.of (A.mono B)),(A.block _ (Ç.1 h.bx).1).trans h.bx,h.ok,h.bad1,h.bad2⟩
structure iN(K:ew)(ws:List Wd)(pl:Nat->Nat)(b:Nat)(w:Ë)(q:Nat)(t:List Td)(v:â)(w':Ë):Prop where
 o:au w v t w'
 rd:Ry K ws pl b q w'
 bt:ak w b w w'
 sz:w.heap.size<=w'.heap.size
theorem iN.grown{t I}{v J L:â}{D E}(h:iN K ws pl b w q t v D)(H:w.heap.size<=D.heap.size)(M:b<w.heap.size)(C:K.gw<w.heap.size)(B:K.ga<w.heap.size)(G:D.grownBy E J.ownBlock)(N:∀k,J.ownBlock=Ä k->w.heap.size<=k)(O:au w L I E):iN K ws pl b w q I L E:=by
 have A:= Zb.grown G H N;exact⟨O,h.rd.keepB A M C B,h.bt.trans (ak.of A),Nat.le_trans H G.size⟩
end
theorem TD{K ws}{pl:Nat->Nat}{b p}{w:Ë}(j:∀x∈ws,dR x)(l:(ws.map à).sum<=60000)(hp:p<ſ ws)(Ak:∀a,ak w b w a->eo a)(h:Ry K ws pl b p w):
  Ü prog 118 #[Å b] w λe a=>fD K ws pl b p w e a:=by
 have hX:=iY hp
 have i:Hid (Cw 117 #[Å b] w (Â (ab ws[p]))):=by
  have v:=(oB h).mono λ_ _ h=>And.intro h.1 h.2.symm
  rw[hX]at v;exact v
 have U:Hid (Cw 145 #[Â (ab ws[p])] w (í (decide (ws[p].headD 0=35)))):=(Jl _ w).mono λ_ _ h=>⟨h.1,h.2.symm⟩
 have Y:=h.row.lt;have z:=h.gwlt;have y:=h.galt;have A3:=h.few;by_cases d:ws[p].headD 0=35
 .rw[decide_eq_true d]at U;have HN:=aa (OJ j l hp d Ak h);generalize ab ws[p]=S at i U;clear h j Ak hX d l;go_in;go_wp2_with fail;refine i.o.mono ?_;rintro e w1⟨rfl,rfl⟩;go_wp2_with fail;refine U.o.mono ?_;rintro e w1⟨rfl,rfl⟩;go_wp2_with fail;refine HN.o.mono ?_;intro e w1 hG;cases hG with
  | @bad u _ pg bt=>
   have HB:Hid (fD K ws pl b p w (É [cD (pl (ſ ws-ſ u))]) w1):=.bad pg bt;clear pg bt;go_wp2;exact⟨rfl,HB.o⟩
  | @ok q n t A c _ hg=>
   have HB:Hid (fD K ws pl b p w (Æ (Á A (ſ t) c)) w1):=.ok hg;clear hg;generalize (ſ t)=nl at HB⊢;go_wp2;go_ret;exact HB.o
 .rw[decide_eq_false d]at U;have Ag:Ry K ws pl b p (w.alloc (Ô #[Ò Ï 8,Â ⟨#[]⟩,Ò Ï 0] 81)):=h.keep (aC w _);have HD:=aa (kH hp);by_cases M:ws[p]=dH
  .have hm:ws[p]?=Ä dH:=by rw[Ê hp,M]
   have HH:Hid (Cp 147 #[Å b,Â ⟨#[108,101,116]⟩] (w.alloc (Ô #[Ò Ï 8,Â ⟨#[]⟩,Ò Ï 0] 81)) λe a=>e=Æ (í true)/\gG K ws pl b w (p+1) du a):=by
    refine(mU Ag dH hm).mono ?_;rintro e w'⟨rfl,v,b1⟩;exact⟨rfl,gG.but (q:=p) ⟨Ag,ak.of (aC w _),Ð w _,z,y,Y⟩ b1 v⟩
   have Ae:Hid (ws.drop p=dH::ws.drop (p+1)):=by
    show _=_;rw[HD.o,M]
   by_cases a:∃h:p+1<ſ ws,bb ws[p+1]=true
   .obtain⟨Aw,a⟩:=a;have Aj:=aa (kH Aw)
    have HN:Hid (∀W,gG K ws pl b w (p+1) du W->Cp 148 #[Å b] W λe a=>e=Æ (Â (ab ws[p+1]))/\gG K ws pl b w (p+2) du a):=λW hW=>by
     refine(V1 j Aw a hW.rd).mono ?_;rintro e w'⟨rfl,v,b1⟩;exact⟨rfl,hW.but b1 v⟩
    by_cases Al:ws[p+2]?=Ä [61]
    .obtain⟨Az,Av⟩:=È.1 Al
     have Ap:Hid (ws.drop (p+2)=[61]::ws.drop (p+3)):=by
      show _=_;rw[kH Az,Av]
     have HM:Hid (∀W,gG K ws pl b w (p+2) (iT ws[p+1]) W->Cp 149 #[Å b,Â ⟨#[61]⟩] W λe a=>e=Æ (ì #[])/\pi K ws pl b p w (p+3) (iT ws[p+1]) a):=λW hW=>by
      refine(oz hW.rd [61] Al).mono ?_;rintro e w'⟨rfl,v,b1⟩;have h2:=hW.but b1 v;refine⟨rfl,by omega,h2.rd,h2.bt,h2.bx,λm I u G pv acc r hr=>?_,λu G pv acc=>?_,λm I u G hu pv acc=>?_⟩
      .rw[Ae.o,Aj.o,Ap.o];exact .letO a G hr
      .rw[Ae.o,Aj.o,Ap.o];exact .letB a G
      .rw[Ae.o,Aj.o,Ap.o];exact .letX a G hu
     have Ar:Hid (kP K ws pl b (p+3)):=BF j (by omega);have Af:Hid (∀wc,gG K ws pl b w (p+2) du wc->gG K ws pl b w (p+2) (iT ws[p+1]) (((wc.setCell w.heap.size (Ò Ï 7)).setCell (w.heap.size,1) (Â (ab ws[p+1]))).setCell (w.heap.size,2) (Ò Ï 0))):=λwc h=>h.put (iT ws[p+1])
     have Aq:Hid ((iT ws[p+1])=⟨7,ab ws[p+1],0⟩):=rfl;generalize iT ws[p+1]=xL at HM Af Aq;generalize ab ws[p+1]=S1 at HN Af Aq;generalize ab ws[p]=S at i U;clear h j Ak hX d l Ag M hm a Al Av HD Aj Ap Ae;go_in;go_wp2_with fail;refine i.o.mono ?_;rintro e w1⟨rfl,rfl⟩;go_wp2_with fail;refine U.o.mono ?_;rintro e w1⟨rfl,rfl⟩;go_wp2_with fail;refine HH.o.mono ?_;rintro e w1⟨rfl,v⟩;have K1:=aa v;clear v HH;go_wp2_with fail;refine(HN.o _ K1.o).mono ?_;rintro e w2⟨rfl,h2⟩;have K2:=aa h2;have N:=h2.bx;have d0:w2.cell? w.heap.size=Ä (Ò Ï 8):=by rw[À N];rfl
     have d1:w2.cell? (w.heap.size,1)=Ä (Â ⟨#[]⟩):=by rw[À N];rfl
     have d2:w2.cell? (w.heap.size,2)=Ä (Ò Ï 0):=by rw[À N];rfl
     have f0:=Í N 0;have f1:=Í N 1;have f2:=Í N 2;clear h2 N K1 HN;go_wp2_with fail;refine(HM.o _ (Af.o _ K2.o)).mono ?_;rintro e wc⟨rfl,hS⟩;have P:=aa hS;clear hS HM Af K2 d0 d1 d2 f0 f1 f2;have Ax:=Aq.o;subst Ax;clear Aq;have Ad:=P.o.bt.size;have A2:=(Ç.1 P.o.bx).1;have Am:=P.o.rd.row.lt;have s:=P.o.bx;have d0:wc.cell? w.heap.size=Ä (Ò Ï 7):=by rw[À s];rfl
     have d1:wc.cell? (w.heap.size,1)=Ä (Â S1):=by rw[À s];rfl
     have d2:wc.cell? (w.heap.size,2)=Ä (Ò Ï 0):=by rw[À s];rfl
     clear s;rcases G0 Ar.o with⟨m,I,u,G,J⟩|J
     .have Ac:=il G;have hu:ws.drop (ſ ws-ſ u)=u:=mR Ac.1;have O:=Ac.2 m I u rfl;rw[dD]at O;simp only[dO.eats]at O;have Ay:=P.o.le;have Au:=P.o.rd.le
      have HC:Hid (∀W,Ù wc wc W->Cp 150 #[Å b] W λe a=>∃A c,e=Æ (Á A (ſ I) c)/\iN K ws pl b w (ſ ws-ſ u) I (Á A (ſ I) c) a/\(ſ I)<=60000/\a.heap[w.heap.size]?=Ä (Ô #[Ò Ï 7,Â S1,Ò Ï 0] 81 (0,0))/\ak W b W a):=λW hW=>by
       refine(J W (P.o.rd.keep hW)).mono ?_;rintro e w'⟨A,c,rfl,hg⟩;have A1:=hW.size;have hK:=P.o.kept hW Ad;have A0:=hg.bt.size;have As:=hg.n;rw[dD]at As;exact⟨A,c,rfl,⟨hg.o.down (by omega),hg.rd,hK.bt.trans (hg.bt.mono (by omega)),by omega⟩,by omega,(hg.bt.block _ (by omega) (by omega)).trans hK.bx,hg.bt⟩
      clear J;generalize Ab:ſ I=nl at HC;have V:=aa Ab;clear Ab;by_cases R:ws[ſ ws-ſ u]?=Ä [59]
      .obtain⟨Ah,An⟩:=È.1 R
       have Ao:u=[59]::ws.drop (ſ ws-ſ u+1):=by
        have Q:=kH Ah;rw[hu,An]at Q;exact Q
       have HM:Hid (∀A c f,iN K ws pl b w (ſ ws-ſ u) ((⟨7,S1,0⟩:Td)::I) (Á A (1+nl) c) f->nl<=60000->Cp 149 #[Å b,Â ⟨#[59]⟩] f λe a=>e=Æ (ì #[])/\fD K ws pl b p w (Æ (Á A (1+nl) c)) a):=λA c f hF hnn=>by
        refine(oz hF.rd [59] R).mono ?_;rintro e w7⟨rfl,h7,b7⟩;have Ab:=V.o;subst Ab;have hz:=hF.sz;refine⟨rfl,?_⟩;have Z:((⟨7,S1,0⟩:Td)::I).length=1+ſ I:=by rw[ç];omega
        have Ai:=G;rw[Ao]at Ai;have Q:=fD.ok (K:=K) (ws:=ws) (pl:=pl) (b:=b) (p:=p) (w:=w) (q:=ſ ws-ſ u+1) (n:=false) (t:=(⟨7,S1,0⟩:Td)::I) (A:=A) (c:=c) (w':=w7) ⟨by omega,by rw[Z];exact hF.o.but2 b7 Y,by simp,by rw[Z];omega,h7,hF.bt.trans (b7.mono hz),λa b r _ c=>P.o.ok m I _ Ai a b r c,λe=>by cases e⟩;rw[Z]at Q;exact Q
       clear Ao An R Ah hu Ac O G;go_wp2_with fail
       go_region_law (first
        | (refine lA rfl _ _ rfl w.heap.size (Á (Ä ⟨wc,0,Ì⟩) 1 1) [(⟨7,S1,0⟩:Td)] rfl (((show au wc (Á (Ä ⟨wc,0,Ì⟩) 1 1) [(⟨7,S1,0⟩:Td)] (wc.alloc _).drew from au.one wc (⟨7,S1,0⟩:Td)).but2 X Am).down Ad) A4 nl I V.o c4 rfl B.o.tds B.o.none.2 (1+nl) rfl (by omega) B.sz ?_;intro A6 c6 f D C;have H:=B.grown B.sz Y z y C (λk hk=>by have e9:wc.heap.size=k:=(by simpa[Î]using hk);omega) D)
        | (refine lA rfl _ _ rfl w.heap.size (Á (Ä ⟨L,0,Ì⟩) 1 1) [(⟨7,S1,0⟩:Td)] rfl ((au.one L (⟨7,S1,0⟩:Td)).down B.sz) A4 nl I V.o c4 rfl (B.o.tds.alloc _) B.o.none.2 (1+nl) rfl (by omega) (by rw[Ã];have:=B.sz;omega) ?_;intro A6 c6 f D C;have H:=iN.grown ⟨B.o.kept λg _ h5=>Û L _ g h5,B.rd.keep (aC L _),B.bt.alloc B.sz _,by rw[Ã];have:=B.sz;omega⟩ (by rw[Ã];have:=B.sz;omega) Y z y C (λk hk=>by have e9:L.heap.size=k:=(by simpa[Î]using hk);have:=B.sz;omega) D)
        | (go_simp;refine(HC.o _ (by first|exact jp _ _|exact Õ Zb)).mono ?_;rintro e L⟨A4,c4,rfl,B,Aa,E,X⟩;have g0:L.cell? ⟨w,0,Ì⟩=Ä (Ò Ï 7):=(by rw[À E];rfl);have g1:L.cell? ⟨w,1,Ì⟩=Ä (Â S1):=(by rw[À E];rfl);have g2:L.cell? ⟨w,2,Ì⟩=Ä (Ò Ï 0):=(by rw[À E];rfl);clear E))
       all_goals
        have K6:=aa (HM.o _ _ _ H Aa);clear H D C Aa B X;go_wp2_with fail;refine(Calls.mono K6.o ?_);rintro e w7⟨rfl,h7⟩;have K7:=aa h7;clear h7;go_wp2;go_ret;exact K7.o
      .have HM:Hid (∀A c f,iN K ws pl b w (ſ ws-ſ u) ((⟨7,S1,0⟩:Td)::I) (Á A (1+nl) c) f->Cp 149 #[Å b,Â ⟨#[59]⟩] f λe a=>e=É [cD (pl (ſ ws-ſ u))]/\fD K ws pl b p w (É [cD (pl (ſ ws-ſ u))]) a):=λA c f hF=>by
        refine(mV hF.rd [59] (by simp) R).mono ?_;rintro e w7⟨rfl,rfl⟩;refine⟨rfl,.bad (λpv acc=>P.o.bad2 m I u G ?_ pv acc) hF.bt⟩;rw[<-hu,jP];exact R
       clear R hu Ac O G;generalize pl (ſ ws-ſ u)=pp at HM;go_wp2_with fail
       go_region_law (first
        | (refine lA rfl _ _ rfl w.heap.size (Á (Ä ⟨wc,0,Ì⟩) 1 1) [(⟨7,S1,0⟩:Td)] rfl (((show au wc (Á (Ä ⟨wc,0,Ì⟩) 1 1) [(⟨7,S1,0⟩:Td)] (wc.alloc _).drew from au.one wc (⟨7,S1,0⟩:Td)).but2 X Am).down Ad) A4 nl I V.o c4 rfl B.o.tds B.o.none.2 (1+nl) rfl (by omega) B.sz ?_;intro A6 c6 f D C;have H:=B.grown B.sz Y z y C (λk hk=>by have e9:wc.heap.size=k:=(by simpa[Î]using hk);omega) D)
        | (refine lA rfl _ _ rfl w.heap.size (Á (Ä ⟨L,0,Ì⟩) 1 1) [(⟨7,S1,0⟩:Td)] rfl ((au.one L (⟨7,S1,0⟩:Td)).down B.sz) A4 nl I V.o c4 rfl (B.o.tds.alloc _) B.o.none.2 (1+nl) rfl (by omega) (by rw[Ã];have:=B.sz;omega) ?_;intro A6 c6 f D C;have H:=iN.grown ⟨B.o.kept λg _ h5=>Û L _ g h5,B.rd.keep (aC L _),B.bt.alloc B.sz _,by rw[Ã];have:=B.sz;omega⟩ (by rw[Ã];have:=B.sz;omega) Y z y C (λk hk=>by have e9:L.heap.size=k:=(by simpa[Î]using hk);have:=B.sz;omega) D)
        | (go_simp;refine(HC.o _ (by first|exact jp _ _|exact Õ Zb)).mono ?_;rintro e L⟨A4,c4,rfl,B,Aa,E,X⟩;have g0:L.cell? ⟨w,0,Ì⟩=Ä (Ò Ï 7):=(by rw[À E];rfl);have g1:L.cell? ⟨w,1,Ì⟩=Ä (Â S1):=(by rw[À E];rfl);have g2:L.cell? ⟨w,2,Ì⟩=Ä (Ò Ï 0):=(by rw[À E];rfl);clear E))
       all_goals
        have K6:=aa (HM.o _ _ _ H);clear H D C Aa B X;go_wp2_with fail;refine(Calls.mono K6.o ?_);rintro e w7⟨rfl,h7⟩;have K7:=aa h7;clear h7;go_wp2;exact⟨rfl,K7.o⟩
     .have HC:Hid (∀W,Ù wc wc W->Cp 150 #[Å b] W λe a=>∃u:List Wd,e=É [cD (pl (ſ ws-ſ u))]/\fD K ws pl b p w (É [cD (pl (ſ ws-ſ u))]) a):=λW hW=>by
       refine(J W (P.o.rd.keep hW)).mono ?_;rintro e w'⟨u,rfl,pr,bt⟩
       have:=hW.size
       exact⟨u,rfl,.bad (P.o.bad1 u pr) ((P.o.kept hW Ad).bt.trans (bt.mono (by omega)))⟩
      clear J;go_wp2_with fail
      go_region_dies
      all_goals
       refine(HC.o _ (by first|exact jp _ _|exact Õ Zb)).mono ?_;rintro e w'⟨u,rfl,Q⟩;exact⟨rfl,Q⟩
    .have HM:Hid (∀W,gG K ws pl b w (p+2) (iT ws[p+1]) W->Cp 149 #[Å b,Â ⟨#[61]⟩] W λe a=>e=É [cD (pl (p+2))]/\fD K ws pl b p w (É [cD (pl (p+2))]) a):=λW hW=>by
      refine(mV hW.rd [61] (by simp) Al).mono ?_;rintro e w'⟨rfl,rfl⟩;have Q:=fD.bad (K:=K) (ws:=ws) (pl:=pl) (b:=b) (p:=p) (w:=w) (u:=ws.drop (p+2)) (w':=w') (λpv acc=>by rw[Ae.o,Aj.o];exact .letE a (by rw[jP];exact Al)) hW.bt;rw[dD,show (ſ ws)-(ſ ws-(p+2))=p+2 by omega]at Q;exact⟨rfl,Q⟩
     have Af:Hid (∀wc,gG K ws pl b w (p+2) du wc->gG K ws pl b w (p+2) (iT ws[p+1]) (((wc.setCell w.heap.size (Ò Ï 7)).setCell (w.heap.size,1) (Â (ab ws[p+1]))).setCell (w.heap.size,2) (Ò Ï 0))):=λwc h=>h.put (iT ws[p+1])
     generalize iT ws[p+1]=xL at HM Af;generalize ab ws[p+1]=S1 at HN Af;generalize ab ws[p]=S at i U;generalize pl (p+2)=pp at HM;clear h j Ak hX d l Ag M hm a Al HD Aj Ae;go_in;go_wp2_with fail;refine i.o.mono ?_;rintro e w1⟨rfl,rfl⟩;go_wp2_with fail;refine U.o.mono ?_;rintro e w1⟨rfl,rfl⟩;go_wp2_with fail;refine HH.o.mono ?_;rintro e w1⟨rfl,v⟩;have K1:=aa v;clear v HH;go_wp2_with fail;refine(HN.o _ K1.o).mono ?_;rintro e w2⟨rfl,h2⟩;have K2:=aa h2;have N:=h2.bx;have d0:w2.cell? w.heap.size=Ä (Ò Ï 8):=by rw[À N];rfl
     have d1:w2.cell? (w.heap.size,1)=Ä (Â ⟨#[]⟩):=by rw[À N];rfl
     have d2:w2.cell? (w.heap.size,2)=Ä (Ò Ï 0):=by rw[À N];rfl
     have f0:=Í N 0;have f1:=Í N 1;have f2:=Í N 2;clear h2 N K1 HN;go_wp2_with fail;refine(HM.o _ (Af.o _ K2.o)).mono ?_;rintro e wc⟨rfl,Q⟩;have K9:=aa Q;clear Q;go_wp2;exact⟨rfl,K9.o⟩
   .have At:∀x,ws[p+1]?=Ä x->bb x=false:=λx hx=>by
     obtain⟨v,rfl⟩:=È.1 hx;cases hq:bb ws[p+1]with
     | false=>rfl
     | true=>exact absurd ⟨v,hq⟩ a
    have HN:Hid (∀W,gG K ws pl b w (p+1) du W->Cp 148 #[Å b] W λe a=>e=É [cD (pl (p+1))]/\fD K ws pl b p w (É [cD (pl (p+1))]) a):=λW hW=>by
     refine(V0 j At hW.rd).mono ?_;rintro e w'⟨rfl,rfl⟩;have Q:=fD.bad (K:=K) (ws:=ws) (pl:=pl) (b:=b) (p:=p) (w:=w) (u:=ws.drop (p+1)) (w':=W) (λpv acc=>by rw[Ae.o];exact .letN (λx a=>At x (by rw[<-jP];exact a))) hW.bt;rw[dD,show (ſ ws)-(ſ ws-(p+1))=p+1 by omega]at Q;exact⟨rfl,Q⟩
    generalize ab ws[p]=S at i U;generalize pl (p+1)=pp at HN;clear h j Ak hX d l Ag M hm a At HD Ae;go_in;go_wp2_with fail;refine i.o.mono ?_;rintro e w1⟨rfl,rfl⟩;go_wp2_with fail;refine U.o.mono ?_;rintro e w1⟨rfl,rfl⟩;go_wp2_with fail;refine HH.o.mono ?_;rintro e w1⟨rfl,v⟩;have K1:=aa v;clear v HH;go_wp2_with fail;refine(HN.o _ K1.o).mono ?_;rintro e w2⟨rfl,Q⟩;have K9:=aa Q;clear Q;go_wp2;exact⟨rfl,K9.o⟩
  .have hm:ws[p]?≠Ä dH:=by rw[Ê hp];simpa using M
   have HH:Hid (Cp 147 #[Å b,Â ⟨#[108,101,116]⟩] (w.alloc (Ô #[Ò Ï 8,Â ⟨#[]⟩,Ò Ï 0] 81)) λe a=>e=Æ (í false)/\pi K ws pl b p w p du a):=by
    refine(lO Ag dH (by simp) hm).mono ?_;rintro e w'⟨rfl,rfl⟩;refine⟨rfl,ß _,Ag,ak.of (aC w _),Ð w _,λm I u G pv acc r hr=>?_,λu G pv acc=>?_,λm I u G hu pv acc=>?_⟩
    .rw[HD.o]at G⊢;exact .doO d M G hr
    .rw[HD.o]at G⊢;exact .doB d M G
    .rw[HD.o]at G⊢;exact .doX d M G hu
   have Ar:Hid (kP K ws pl b p):=BF j (by omega);generalize ab ws[p]=S at i U;clear h j Ak hX d l Ag M hm;go_in;go_wp2_with fail;refine i.o.mono ?_;rintro e w1⟨rfl,rfl⟩;go_wp2_with fail;refine U.o.mono ?_;rintro e w1⟨rfl,rfl⟩;go_wp2_with fail;refine HH.o.mono ?_;rintro e wc⟨rfl,hS⟩;have P:=aa hS;clear hS HH;have Ad:=P.o.bt.size;have A2:=(Ç.1 P.o.bx).1;have Am:=P.o.rd.row.lt;have s:=P.o.bx;have d0:wc.cell? w.heap.size=Ä (Ò Ï 8):=by rw[À s];rfl
   have d1:wc.cell? (w.heap.size,1)=Ä (Â ⟨#[]⟩):=by rw[À s];rfl
   have d2:wc.cell? (w.heap.size,2)=Ä (Ò Ï 0):=by rw[À s];rfl
   clear s;rcases G0 Ar.o with⟨m,I,u,G,J⟩|J
   .have Ac:=il G;have hu:ws.drop (ſ ws-ſ u)=u:=mR Ac.1;have O:=Ac.2 m I u rfl;rw[dD]at O;simp only[dO.eats]at O;have Ay:=P.o.le;have Au:=P.o.rd.le
    have HC:Hid (∀W,Ù wc wc W->Cp 150 #[Å b] W λe a=>∃A c,e=Æ (Á A (ſ I) c)/\iN K ws pl b w (ſ ws-ſ u) I (Á A (ſ I) c) a/\(ſ I)<=60000/\a.heap[w.heap.size]?=Ä (Ô #[Ò Ï 8,Â ⟨#[]⟩,Ò Ï 0] 81 (0,0))/\ak W b W a):=λW hW=>by
     refine(J W (P.o.rd.keep hW)).mono ?_;rintro e w'⟨A,c,rfl,hg⟩;have A1:=hW.size;have hK:=P.o.kept hW Ad;have A0:=hg.bt.size;have As:=hg.n;rw[dD]at As;exact⟨A,c,rfl,⟨hg.o.down (by omega),hg.rd,hK.bt.trans (hg.bt.mono (by omega)),by omega⟩,by omega,(hg.bt.block _ (by omega) (by omega)).trans hK.bx,hg.bt⟩
    clear J;generalize Ab:ſ I=nl at HC;have V:=aa Ab;clear Ab;by_cases R:ws[ſ ws-ſ u]?=Ä [59]
    .obtain⟨Ah,An⟩:=È.1 R
     have Ao:u=[59]::ws.drop (ſ ws-ſ u+1):=by
      have Q:=kH Ah;rw[hu,An]at Q;exact Q
     have HM:Hid (∀A c f,iN K ws pl b w (ſ ws-ſ u) (du::I) (Á A (1+nl) c) f->nl<=60000->Cp 149 #[Å b,Â ⟨#[59]⟩] f λe a=>e=Æ (ì #[])/\fD K ws pl b p w (Æ (Á A (1+nl) c)) a):=λA c f hF hnn=>by
      refine(oz hF.rd [59] R).mono ?_;rintro e w7⟨rfl,h7,b7⟩;have Ab:=V.o;subst Ab;have hz:=hF.sz;refine⟨rfl,?_⟩;have Z:(du::I).length=1+ſ I:=by rw[ç];omega
      have Ai:=G;rw[Ao]at Ai;have Q:=fD.ok (K:=K) (ws:=ws) (pl:=pl) (b:=b) (p:=p) (w:=w) (q:=ſ ws-ſ u+1) (n:=false) (t:=du::I) (A:=A) (c:=c) (w':=w7) ⟨by omega,by rw[Z];exact hF.o.but2 b7 Y,by simp,by rw[Z];omega,h7,hF.bt.trans (b7.mono hz),λa b r _ c=>P.o.ok m I _ Ai a b r c,λe=>by cases e⟩;rw[Z]at Q;exact Q
     clear Ao An R Ah hu Ac O G;go_wp2_with fail
     go_region_law (first
      | (refine lA rfl _ _ rfl w.heap.size (Á (Ä ⟨wc,0,Ì⟩) 1 1) [du] rfl (((show au wc (Á (Ä ⟨wc,0,Ì⟩) 1 1) [du] (wc.alloc _).drew from au.one wc du).but2 X Am).down Ad) A4 nl I V.o c4 rfl B.o.tds B.o.none.2 (1+nl) rfl (by omega) B.sz ?_;intro A6 c6 f D C;have H:=B.grown B.sz Y z y C (λk hk=>by have e9:wc.heap.size=k:=(by simpa[Î]using hk);omega) D)
      | (refine lA rfl _ _ rfl w.heap.size (Á (Ä ⟨L,0,Ì⟩) 1 1) [du] rfl ((au.one L du).down B.sz) A4 nl I V.o c4 rfl (B.o.tds.alloc _) B.o.none.2 (1+nl) rfl (by omega) (by rw[Ã];have:=B.sz;omega) ?_;intro A6 c6 f D C;have H:=iN.grown ⟨B.o.kept λg _ h5=>Û L _ g h5,B.rd.keep (aC L _),B.bt.alloc B.sz _,by rw[Ã];have:=B.sz;omega⟩ (by rw[Ã];have:=B.sz;omega) Y z y C (λk hk=>by have e9:L.heap.size=k:=(by simpa[Î]using hk);have:=B.sz;omega) D)
      | (go_simp;refine(HC.o _ (by first|exact jp _ _|exact Õ Zb)).mono ?_;rintro e L⟨A4,c4,rfl,B,Aa,E,X⟩;have g0:L.cell? ⟨w,0,Ì⟩=Ä (Ò Ï 8):=(by rw[À E];rfl);have g1:L.cell? ⟨w,1,Ì⟩=Ä (Â ⟨#[]⟩):=(by rw[À E];rfl);have g2:L.cell? ⟨w,2,Ì⟩=Ä (Ò Ï 0):=(by rw[À E];rfl);clear E))
     all_goals
      have K6:=aa (HM.o _ _ _ H Aa);clear H D C Aa B X;go_wp2_with fail;refine(Calls.mono K6.o ?_);rintro e w7⟨rfl,h7⟩;have K7:=aa h7;clear h7;go_wp2;go_ret;exact K7.o
    .have HM:Hid (∀A c f,iN K ws pl b w (ſ ws-ſ u) (du::I) (Á A (1+nl) c) f->Cp 149 #[Å b,Â ⟨#[59]⟩] f λe a=>e=É [cD (pl (ſ ws-ſ u))]/\fD K ws pl b p w (É [cD (pl (ſ ws-ſ u))]) a):=λA c f hF=>by
      refine(mV hF.rd [59] (by simp) R).mono ?_;rintro e w7⟨rfl,rfl⟩;refine⟨rfl,.bad (λpv acc=>P.o.bad2 m I u G ?_ pv acc) hF.bt⟩;rw[<-hu,jP];exact R
     clear R hu Ac O G;generalize pl (ſ ws-ſ u)=pp at HM;go_wp2_with fail
     go_region_law (first
      | (refine lA rfl _ _ rfl w.heap.size (Á (Ä ⟨wc,0,Ì⟩) 1 1) [du] rfl (((show au wc (Á (Ä ⟨wc,0,Ì⟩) 1 1) [du] (wc.alloc _).drew from au.one wc du).but2 X Am).down Ad) A4 nl I V.o c4 rfl B.o.tds B.o.none.2 (1+nl) rfl (by omega) B.sz ?_;intro A6 c6 f D C;have H:=B.grown B.sz Y z y C (λk hk=>by have e9:wc.heap.size=k:=(by simpa[Î]using hk);omega) D)
      | (refine lA rfl _ _ rfl w.heap.size (Á (Ä ⟨L,0,Ì⟩) 1 1) [du] rfl ((au.one L du).down B.sz) A4 nl I V.o c4 rfl (B.o.tds.alloc _) B.o.none.2 (1+nl) rfl (by omega) (by rw[Ã];have:=B.sz;omega) ?_;intro A6 c6 f D C;have H:=iN.grown ⟨B.o.kept λg _ h5=>Û L _ g h5,B.rd.keep (aC L _),B.bt.alloc B.sz _,by rw[Ã];have:=B.sz;omega⟩ (by rw[Ã];have:=B.sz;omega) Y z y C (λk hk=>by have e9:L.heap.size=k:=(by simpa[Î]using hk);have:=B.sz;omega) D)
      | (go_simp;refine(HC.o _ (by first|exact jp _ _|exact Õ Zb)).mono ?_;rintro e L⟨A4,c4,rfl,B,Aa,E,X⟩;have g0:L.cell? ⟨w,0,Ì⟩=Ä (Ò Ï 8):=(by rw[À E];rfl);have g1:L.cell? ⟨w,1,Ì⟩=Ä (Â ⟨#[]⟩):=(by rw[À E];rfl);have g2:L.cell? ⟨w,2,Ì⟩=Ä (Ò Ï 0):=(by rw[À E];rfl);clear E))
     all_goals
      have K6:=aa (HM.o _ _ _ H);clear H D C Aa B X;go_wp2_with fail;refine(Calls.mono K6.o ?_);rintro e w7⟨rfl,h7⟩;have K7:=aa h7;clear h7;go_wp2;exact⟨rfl,K7.o⟩
   .have HC:Hid (∀W,Ù wc wc W->Cp 150 #[Å b] W λe a=>∃u:List Wd,e=É [cD (pl (ſ ws-ſ u))]/\fD K ws pl b p w (É [cD (pl (ſ ws-ſ u))]) a):=λW hW=>by
     refine(J W (P.o.rd.keep hW)).mono ?_;rintro e w'⟨u,rfl,pr,bt⟩
     have:=hW.size
     exact⟨u,rfl,.bad (P.o.bad1 u pr) ((P.o.kept hW Ad).bt.trans (bt.mono (by omega)))⟩
    clear J;go_wp2_with fail
    go_region_dies
    all_goals
     refine(HC.o _ (by first|exact jp _ _|exact Õ Zb)).mono ?_;rintro e w'⟨u,rfl,Q⟩;exact⟨rfl,Q⟩
def WS(B b:Nat)(pl:List â)(l:List UInt8)(cv:â)(w:Ë):Prop:=cQ 337 B b pl (Lib.byteCells l) [cv] w
abbrev eM(be bf:Nat)(n cap:Nat)(a:Option ë):List â:=[Á a n cap,Á (Ä ⟨be,0,Ì⟩) n n,Á (Ä ⟨bf,0,Ì⟩) n n]
theorem QT:pz 337 6 3:=by unfold pz;kernel_rfl
section
variable {B b be bf n cap:Nat} {a:Option ë} {l:List UInt8} {cv:â} {w w':Ë}
theorem WS.c0(h:WS B b (eM be bf n cap a) l cv w):w.cell? b=Ä (Á a n cap):=cQ.cellP h 0 (by show 0<3;decide)
theorem WS.c1(h:WS B b (eM be bf n cap a) l cv w):w.cell? (b,1)=Ä (Á be n n):=cQ.cellP h 1 (by show 1<3;decide)
theorem WS.c2(h:WS B b (eM be bf n cap a) l cv w):w.cell? (b,2)=Ä (Á bf n n):=cQ.cellP h 2 (by show 2<3;decide)
theorem WS.c5(h:WS B b (eM be bf n cap a) l cv w):w.cell? (b,5)=Ä cv:=cQ.cellR h 0
theorem WS.f5(h:WS B b (eM be bf n cap a) l cv w):w.frozen? (b,5)=false:=cQ.frozen h 5
theorem WS.lt{pl}(h:WS B b pl l cv w):b<w.heap.size:=cQ.lt h
theorem WS.alloc{pl}(h:WS B b pl l cv w)(o):WS B b pl l cv (w.alloc o):=cQ.alloc h o
theorem WS.drew{pl}(h:WS B b pl l cv w):WS B b pl l cv w.drew:=h
theorem WS.W{pl}(h:WS B b pl l cv w)(A:Ù w w w'):WS B b pl l cv w':=cQ.W h A
theorem WS.stored(h:WS B b (eM be bf n cap a) l cv w)(v):WS B b (eM be bf n cap a) l v (w.setCell (b,5) v):=cQ.stored h 0 v
end
theorem qf{B b G H n E:Nat}{a:Option ë}{l:List UInt8}{I:â}{w:Ë}(h:WS B b (eM G H n E a) l I w)(K:B<=b)(s:ByteArray)(L:ſ l+s.size<=2000000000):
  Ü prog 10 #[Å (Ä ⟨b,3,Ì⟩),Â s] w λe J=>(∃z,e=Æ (ì #[Ò Ï z,.nilIface]))/\WS B b (eM G H n E a) (l++s.data.toList) I J/\Ù B w J:=by
 have D:=h.lt;refine(MT 337 B b 3 (eM G H n E a) _ [I] s w rfl QT (by decide) h (by rw[Lib.byteCells_length];omega) (by omega)).mono ?_;rintro e J⟨rfl,A,C,_⟩;refine⟨⟨_,rfl⟩,?_,C.W K⟩;rw[WS,Lib.byteCells_append];exact A
structure LC(B s be bf:Nat)(a:Option ë)(ds:List Nd)(w:Ë):Prop where
 nd:cO s w a ds
 kn:hJ w be bf ds 0
theorem LC.W{B s be A a E w w'}(h:LC B s be A a E w)(C:s<B/\be<B/\A<B)(D:Ù B w w'):LC B s be A a E w':=
 ⟨h.nd.kept (D.block s C.1),h.kn.kept (D.block be C.2.1) (D.block A C.2.2)⟩
def lm(B b:Nat)(pl:List â)(res:Except Int (List UInt8 × List Int))(l:List UInt8)(e:Ending)(w':Ë):Prop:=
 match res with
 | .ok (u,ws')=>e=Æ .nilIface/\∃a c,WS B b pl (l++u) (Á a (ſ ws') c) w'/\eK B w' a ws'/\(ſ ws')<=c
 | .error er=>er≠0/\e=Æ (aF er)
def pA(fn B b s be bf:Nat)(ds:List Nd)(a:Option ë)(cap:Nat)(A:List Nd)(f:Nat->List Int->Except Int (List UInt8 × List Int)):Prop:=
 ∀(i:Nat)(r:List Nd)(deep:Nat)(ws:List Int)(wa:Option ë)(wc:Nat)(l:List UInt8)(w:Ë),ds.drop i=A++r->LC B s be bf a ds w->eK B w wa ws->ez ws->ſ ws<=wc->WS B b (eM be bf (ſ ds) cap a) l (Á wa (ſ ws) wc) w->
  deep+8*ſ A<=3300->ſ l+4000*ſ A<=1000000000->
  Ü prog fn #[Å (Ä ⟨b,0,Ì⟩),Ò Ï i,Ò Ï deep] w λe c=>lm B b (eM be bf (ſ ds) cap a) (f deep ws) l e c/\Ù B w c
abbrev gY:=pA 261
theorem ya(n:Nat)(C:n<=4000)(w:Ë):Cb 279 #[Â ⟨#[32]⟩,n] w (Â ⟨(é n 32).toArray⟩):=by
 unfold Cb;refine ai (N0 ⟨#[32]⟩ n w (by omega) (by show 1*n<=_;omega)) λD B=>?_
 refine⟨?_,B⟩
 have:=Lib.repeatL_replicate 32 1 n
 have A:Lib.repeatL (ByteArray.mk #[32]).data.toList n=é n 32:=by simpa using this
 rw[A]
