import Derived.Test.YthcpdohdppkmkaaGreatDoorPl27
open Go.Proofs.Tryz
namespace Go.Proofs.YthcpdohdppkmkaaGreatDoor
open Go Go.RowKit
set_option maxRecDepth 100000
set_option maxHeartbeats 4000000
theorem j4z(s:ByteArray)(w:World):Calls prog 103 #[.slice none 0 0,.string s] w fun e w'=>e=.returned (.string ⟨#[]⟩)/\Below w w w':=by
 go_in;go_wp2;go_ret;exact⟨rfl,Below.refl _ _⟩
theorem z4u{B:Nat}{w:World}{A:Option Addr}{n c:Nat}{xs:List ByteArray}(h:q1x B (.slice A n c) xs w):n=xs.length/\n<=c/\((A=none/\n=0/\c=0)\/∃g,A=some ⟨g,0,none⟩/\g<w.heap.size):=by
 rcases h.2 with⟨C,G⟩|⟨g,I,E,C,_,H,D,_⟩
 ·simp only[Value.slice.injEq]at C;obtain⟨rfl,rfl,rfl⟩:=C;exact⟨G.symm,Nat.le_refl _,.inl ⟨rfl,rfl,rfl⟩⟩
 ·simp only[Value.slice.injEq]at C;obtain⟨rfl,rfl,rfl⟩:=C;exact⟨rfl,D,.inr ⟨g,rfl,(Array.getElem?_eq_some_iff.1 H).1⟩⟩
theorem j4y{B:Nat}{A:Option Addr}{n c:Nat}{W:List Wd}{w:World}(h:q1x B (.slice A n c) (W.map wbS) w)(hs:szW W<=1000000):Calls prog 103 #[.slice A n c,.string ⟨#[32]⟩] w fun e w'=>e=.returned (.string (wbS (jb W)))/\Below w w w':=by
 obtain⟨M,J,I⟩:=z4u h;have P:=z9m W;have E:=y1j W;have L:(W.map wbS).length=W.length:=List.length_map ..;rcases I with⟨rfl,rfl,rfl⟩|⟨g,rfl,K⟩
 ·have:W=[]:=List.eq_nil_of_length_eq_zero (by omega)
  subst this;exact j4z _ w
 ·subst M
  have H:(W.map wbS).map (fun x=>x.data.toList)=W:=by
   rw[List.map_map];exact List.map_id W
  have C:Lib.join ((W.map wbS).map (fun x=>x.data.toList)) (⟨#[32]⟩:ByteArray).data.toList=jb W:=by
   rw[H];exact j4u W
  have D:=join_sh g 0 c (W.map wbS) ⟨#[32]⟩ w ?_ K (by omega) J (by rw[C];omega)
  ·rw[C]at D;exact D
  ·intro j x N;obtain⟨E,rfl⟩:=List.getElem?_eq_some_iff.1 N;obtain⟨O,Q,e,_,G⟩:=q3p h j E;simp only[Option.some.injEq,Addr.mk.injEq,and_true]at e;obtain⟨rfl,rfl⟩:=e;exact G
theorem y3o{w:Wd}{S:ByteArray}(h:wbS w=S):S.extract 1 S.size=wbS (w.drop 1):=by
 subst h;rw[q9p]
 congr 1
 rw[List.take_of_length_le]
 ·rfl
 ·rw[List.length_drop,q0b];omega
theorem k9d{x:Wd}(hx:v8d x)(hl:x.length<=60000)(w:World)(ht:z2t w):Calls prog 164 #[.string (wbS (x.drop 1))] w fun e w'=>∃g,e=.returned (.slice (some ⟨g,0,none⟩) (q9r x).length (q9r x).length)/\Wds w' (some ⟨g,0,none⟩) ((q9r x).map wbS)/\Below w w w':=by
 have B:btL (wbS (x.drop 1))=x.drop 1:=rfl;refine(fields_sh (wbS (x.drop 1)) w (by rw[<-q0b,B,List.length_drop];omega) ?_ ht.spc).mono ?_
 ·intro j c D;have G:c∈x:=List.mem_of_mem_drop (List.mem_of_getElem? (show(x.drop 1)[j]?=some c from D))
  have:=hx.2 c G
  simp only[prB,Bool.and_eq_true,decide_eq_true_eq]at this;omega
 ·rintro e w'⟨rfl,rfl⟩;refine⟨w.heap.size,rfl,?_,q4c w _⟩;intro i C;have A:i<(q9r x).length:=by simpa using C
  refine⟨w.heap.size,0,rfl,by rw[World.size_alloc];omega,?_⟩;rw[Nat.zero_add];have E:=heap_alloc_new w (.cells ((Lib.fields (btL (wbS (x.drop 1)))).map fun l=>Value.string ⟨l.toArray⟩).toArray 9);rw[Lib.cell_of_heap E]
  show((Lib.fields (x.drop 1)).map fun l=>Value.string ⟨l.toArray⟩).toArray[i]?=_
  rw[List.getElem?_toArray,List.getElem?_map,show(Lib.fields (x.drop 1))[i]?=some (q9r x)[i]from List.getElem?_eq_getElem A];simp[wbS]
theorem k1t:∀(ws:List Wd)(x:Wd),x∈ws->x.length<=(ws.map List.length).sum
 | y::r,x,h=>by
  rw[List.map_cons,List.sum_cons];rcases List.mem_cons.1 h with rfl|h
  ·omega
  ·have:=k1t r x h
   omega
structure y8e(K:LwK)(ws:List Wd)(pl:Nat->Nat)(b p:Nat)(w:World)(q:Nat)(W:List Wd)(v:Value)(wr:World):Prop where
 pq:p<=q
 o:q1x w v (W.map wbS) wr
 rd:Ry K ws pl b q wr
 bt:But w b w wr
 eq:W=((ws.drop p).take (q-p)).flatMap q9r
 nt:∀x∈(ws.drop p).take (q-p),v8d x
structure y4c(K:LwK)(ws:List Wd)(pl:Nat->Nat)(b p:Nat)(w:World)(q:Nat)(n:Bool)(t:List Td)(v:Value)(w':World):Prop where
 lt:p<q
 o:q0w w v t w'
 ne:t≠[]
 l:t.length<=100000
 rd:Ry K ws pl b q w'
 bt:But w b w w'
 pg:∀pv acc r,(pv=true->∀x,ws[p]?=some x->x.headD 0≠35)->PG n (acc++[t]) (ws.drop q) r->PG pv acc (ws.drop p) r
 nx:n=true->∀x,ws[q]?=some x->x.headD 0≠35
inductive z1e (K:LwK) (ws:List Wd) (pl:Nat->Nat) (b p:Nat) (w:World):Ending->World->Prop where
 | ok {q n t A c w'} (h:y4c K ws pl b p w q n t (.slice A t.length c) w'):z1e K ws pl b p w (.returned (.slice A t.length c)) w'
 | bad {u w'} (pg:∀pv acc,PG pv acc (ws.drop p) (.bad u)) (bt:But w b w w'):z1e K ws pl b p w (.panicked [q4v (pl (ws.length-u.length))]) w'
theorem z9n{ws:List Wd}{p q:Nat}(h:p<=q)(hq:q<ws.length):(ws.drop p).take (q+1-p)=(ws.drop p).take (q-p)++[ws[q]]:=by
 rw[show q+1-p=q-p+1 by omega,List.take_succ_eq_append_getElem (by rw[List.length_drop];omega)]
 congr 2
 rw[List.getElem_drop]
 congr 1
 omega
theorem k9c(ws:List Wd){p q:Nat}(h:p<=q):ws.drop p=(ws.drop p).take (q-p)++ws.drop q:=by
 have e:ws.drop q=(ws.drop p).drop (q-p):=by rw[List.drop_drop];congr 1;omega
 rw[e,List.take_append_drop]
theorem j1j{K:LwK}{ws:List Wd}{pl:Nat->Nat}{b p:Nat}{w:World}(Ab:∀x∈ws,q3a x)(Av:(ws.map List.length).sum<=60000)(hp:p<ws.length)(hn:ws[p].headD 0=35)(v:∀w',But w b w w'->z2t w')(h:Ry K ws pl b p w):
  Calls prog 149 #[.pointer (some ⟨b,0,none⟩)] w fun e w'=>z1e K ws pl b p w e w':=by
 have l:Hid (∀x∈ws,q3a x):=Ab;have Ah:Hid (∀w',But w b w w'->z2t w'):=v
 have Af:Hid (∀x∈ws,x.length<=60000):=fun x I=>by
  have:=k1t ws x I
  omega
 have j:Hid (∀q,szW (((ws.drop p).take (q-p)).flatMap q9r)<=120000):=fun q=>by
  have h1:=j4j ((ws.drop p).take (q-p));have h2:=v6e ws p (q-p);omega
 have Ao:b<w.heap.size:=h.row.lt;have Aq:=h.gwlt;have Ap:=h.galt;have Ai:Hid (y8e K ws pl b p w p [] (.slice none 0 0) w):=⟨Nat.le_refl _,World.ownsRow_nil _ _ _ _,h,But.refl _ _ _,by simp,fun x I=>by simp at I⟩;clear h Ab v;go_in;go_wp2_with fail
 go_loopw [3] (fun x wr=>∃(q:Nat)(W:List Wd)(A:Option Addr)(n c:Nat),x=.slice A n c/\W.length=n/\y8e K ws pl b p w q W (.slice A n c) wr) (fun _ wr=>j0j wr b)
 case atStart=>exact⟨p,[],_,_,_,rfl,rfl,Ai.o⟩
 case round=>
  obtain⟨q,W,A,n,c,rfl,P,D⟩:=hrel;have Au:=D.rd.le;have N:=hid D;have Ak:Hid (W.length=n):=P;have Ac:=D.bt.size;have G:Hid (Calls prog 93 #[.pointer (some ⟨b,0,none⟩)] wr fun e w'=>e=.returned (.string (wbS (ws.getD q [])))/\wr=w'):=(q6m D.rd).mono fun _ _ h=>⟨h.1,h.2.symm⟩
  have E:Hid (Calls prog 148 #[.string (wbS (ws.getD q []))] wr fun e w'=>e=.returned (.bool (decide ((ws.getD q []).headD 0=35)))/\wr=w'):=(z5k _ wr).mono fun _ _ h=>⟨h.1,h.2.symm⟩
  by_cases B:(ws.getD q []).headD 0=35
  ·have O:q<ws.length:=by
    rcases Nat.lt_or_ge q ws.length with h'|h'
    ·exact h'
    ·rw[q6t h']at B;simp at B
   rw[decide_eq_true B]at E;rw[q3x O]at B G E;have L:=y6r (l.o _ (List.getElem_mem O)) B;have HN:Hid (Calls prog 198 #[.pointer (some ⟨b,0,none⟩)] wr fun e w'=>e=.returned (.string (wbS ws[q]))/\Ry K ws pl b (q+1) w'/\But wr b wr w'):=q8g D.rd O
   have Aa:1<=(wbS ws[q]).size:=by
    have:=v0i (l.o _ (List.getElem_mem O))
    rw[<-q0b];exact this
   have HF:Hid (∀W',But w b w W'->Calls prog 164 #[.string ((wbS ws[q]).extract 1 (wbS ws[q]).size)] W' fun e w'=>∃g,e=.returned (.slice (some ⟨g,0,none⟩) (q9r ws[q]).length (q9r ws[q]).length)/\Wds w' (some ⟨g,0,none⟩) ((q9r ws[q]).map wbS)/\Below W' W' w'):=fun W' hB=>by
    rw[y3o rfl];exact k9d L (Af.o _ (List.getElem_mem O)) W' (Ah.o W' hB)
   have Y:=j.o (q+1);rw[z9n D.pq O,List.flatMap_append,<-D.eq,List.flatMap_singleton,k5g]at Y;have Ar:=z9m W;have y:=z9m (q9r ws[q]);have z:n+(q9r ws[q]).length<=1000000:=by omega
   have Z:Hid (∀A2 c2 w2,q1x w (.slice A2 (n+(q9r ws[q]).length) c2) (W.map wbS++(q9r ws[q]).map wbS) w2->Ry K ws pl b (q+1) w2->But w b w w2->(W++q9r ws[q]).length=n+(q9r ws[q]).length/\y8e K ws pl b p w (q+1) (W++q9r ws[q]) (.slice A2 (n+(q9r ws[q]).length) c2) w2):=fun A2 c2 w2 h1 h2 h3=>by
    refine⟨by rw[List.length_append,Ak.o],Nat.le_succ_of_le N.o.pq,by rw[List.map_append];exact h1,h2,h3,?_,?_⟩
    ·rw[z9n N.o.pq O,List.flatMap_append,<-N.o.eq,List.flatMap_singleton]
    ·rw[z9n N.o.pq O];intro x I;rcases List.mem_append.1 I with I|I
     ·exact N.o.nt x I
     ·rw[List.mem_singleton]at I;rw[I];exact L
   have U:Hid (((q9r ws[q]).map wbS).length=(q9r ws[q]).length):=List.length_map ..;have Ag:Hid ((W.map wbS).length=n):=(show _=_ by rw[List.length_map];exact P);generalize wbS ws[q]=S at G E HN HF Aa
   generalize(q9r ws[q]).map wbS=FS at HF Z U
   generalize(q9r ws[q]).length=fn at HF Z z U Y y
   clear D P B L Y Ar y;go_wp2_with fail;refine G.o.mono ?_;rintro e H⟨rfl,rfl⟩;go_wp2_with fail;refine E.o.mono ?_;rintro e H⟨rfl,rfl⟩;go_wp2_with fail;refine HN.o.mono ?_;rintro e w3⟨rfl,h3,b3⟩;have Ay:=b3.size;have R:Hid (But w b w w3):=N.o.bt.trans (b3.mono Ac);have f:Hid (Ry K ws pl b (q+1) w3):=h3
   have d:Hid (q1x w (.slice A n c) (W.map wbS) w3):=by
    refine⟨N.o.o.1,?_⟩;rcases N.o.o.2 with h0|⟨g,c',Am,hv,hB,hg,Ad⟩
    ·exact .inl h0
    ·exact .inr ⟨g,c',Am,hv,hB,(b3.block g (Array.getElem?_eq_some_iff.1 hg).1 (by omega)).trans hg,Ad⟩
   clear h3 b3 HN G E;go_wp2_with fail;refine(HF.o w3 R.o).mono ?_;rintro e a⟨g,rfl,s,m⟩;have Az:=m.size;have V:Hid (q1x w (.slice A n c) (W.map wbS) a):=q3o d.o m;have Aj:Hid (Wds a (some ⟨g,0,none⟩) FS):=s;have i:Hid (Ry K ws pl b (q+1) a):=f.o.keep m;have Ae:Hid (But w b w a):=R.o.trans (But.of (m.mono (by omega)));have Aw:b<a.heap.size:=i.o.row.lt;clear s m d f R;go_wp2_with(at_builtin;refine k5t rfl _ _ rfl w.heap.size _ (W.map wbS) rfl V.o (some ⟨g,0,none⟩) fn FS U.o fn rfl Aj.o (fun e=>by cases e) (n+fn) (by rw[Ag.o]) z (by omega) ?_);intro A5 c5 w5 M C;have u:=Z.o A5 c5 w5 M ?rd5 ?bt5
   case rd5=>exact i.o.keepB ((Below.refl w.heap.size a).grown C (by omega) (fun k hk=>(World.ownsRow.lt V.o k hk).1)) Ao Aq Ap
   case bt5=>exact Ae.o.grown C (by omega) (fun k hk=>(World.ownsRow.lt V.o k hk).1)
   have X:=hid u;clear u M C;go_wp2;refine⟨⟨q+1,_,A5,n+fn,c5,rfl,X.o.1,X.o.2⟩,?_⟩;rw[X.o.2.rd.len_eq,N.o.rd.len_eq];omega
  ·rw[decide_eq_false B]at E
   have At:p<q:=by
    rcases Nat.eq_or_lt_of_le D.pq with e|e
    ·subst e;rw[q3x hp]at B;exact absurd hn B
    ·exact e
   have Q:=j.o q;rw[<-D.eq]at Q;have HJ:Hid (Calls prog 103 #[.slice A n c,.string ⟨#[32]⟩] wr fun e w'=>e=.returned (.string (wbS (jb W)))/\Below wr wr w'):=j4y D.o (by omega)
   have Z:Hid (∀H,Below wr wr H->z1e K ws pl b p w (.returned (.slice (some ⟨H,0,none⟩) 1 1)) (H.alloc (.cells #[.int .i64 9,.string (wbS (jb W)),.int .i64 0] 71))):=fun H hb1=>by
    have D:=N.o;have Ax:=hb1.size;have An:But w b w H:=D.bt.trans (But.of (hb1.mono Ac));refine z1e.ok (q:=q) (n:=true) (t:=[ntT (jb W)]) ⟨At,(q0w.one H (ntT (jb W))).down (by omega),by simp,by simp,(D.rd.keep hb1).keep (q4c H _),An.alloc (by omega) _,fun pv acc r hpv hr=>?_,fun _ x I=>?_⟩
    ·have As:pv=false:=by
      cases pv with
      | false=>rfl
      | true=>exact absurd hn (hpv rfl _ (List.getElem?_eq_getElem hp))
     subst As;rw[k9c ws D.pq];refine v5j (fun e=>?_) D.nt ?_
     ·have:=congrArg List.length e
      rw[List.length_take,List.length_drop]at this;simp only[List.length_nil]at this;omega
     ·rw[<-D.eq];exact hr
    ·obtain⟨O,rfl⟩:=List.getElem?_eq_some_iff.1 I;rw[q3x O]at B;exact B
   generalize wbS (jb W)=J at HJ Z;generalize wbS (ws.getD q [])=S at G E;clear D P B Q;go_wp2_with fail;refine G.o.mono ?_;rintro e H⟨rfl,rfl⟩;go_wp2_with fail;refine E.o.mono ?_;rintro e H⟨rfl,rfl⟩;go_wp2_with fail;refine HJ.o.mono ?_;rintro e H⟨rfl,b1⟩;have Al:=hid (Z.o H b1);clear b1;go_wp2;go_ret;exact Al.o
theorem v9k:(prog.info? 51).map (fun i=>(i.zero,i.size,i.bytes))=some (some (.slice none 0 0),1,24):=by kernel_rfl
def q3t(B:Nat)(v:Value)(ps:List (List Td))(w:World):Prop:=
 ∃hs:List Value,w.ownsRow B 51 1 v ps.length hs/\∀i(h:i<ps.length),∃g c,hs[i]?=some (.slice (some ⟨g,0,none⟩) ps[i].length c)/\q0w B (.slice (some ⟨g,0,none⟩) ps[i].length c) ps[i] w
theorem q3t.nil(B:Nat)(w:World):q3t B (.slice Option.none 0 0) [] w:=⟨[],⟨rfl,.inl ⟨rfl,rfl⟩⟩,fun i h=>by simp at h⟩
theorem q8s{B:Nat}{w:World}{g n c:Nat}{xs:List Td}(h:q0w B (.slice (some ⟨g,0,none⟩) n c) xs w):B<=g/\n<=c/\∃cur,w.heap[g]?=some (.cells cur 71 (0,0)):=by
 rcases h.2 with⟨A,_⟩|⟨H,G,cur,A,C,E,D,_⟩
 ·cases A
 ·simp only[Value.slice.injEq,Option.some.injEq,Addr.mk.injEq,and_true]at A;obtain⟨rfl,rfl,rfl⟩:=A;exact⟨C,D,cur,E⟩
theorem z9o{B:Nat}{w w':World}{g n c:Nat}{xs:List Td}(h:q0w B (.slice (some ⟨g,0,none⟩) n c) xs w)(hk:w'.heap[g]?=w.heap[g]?):q0w B (.slice (some ⟨g,0,none⟩) n c) xs w':=by
 refine⟨h.1,?_⟩;rcases h.2 with⟨C,_⟩|⟨I,E,D,C,G,H,A⟩
 ·cases C
 ·have e:=C;simp only[Value.slice.injEq,Option.some.injEq,Addr.mk.injEq,and_true]at e;obtain⟨rfl,_,_⟩:=e;exact .inr ⟨g,E,D,C,G,hk.trans H,A⟩
theorem q3t.kept{B:Nat}{v:Value}{ps:List (List Td)}{w w':World}(h:q3t B v ps w)(hk:∀g,B<=g->g<w.heap.size->w'.heap[g]?=w.heap[g]?):q3t B v ps w':=by
 obtain⟨L,D,K⟩:=h;refine⟨L,⟨D.1,?_⟩,fun i hi=>?_⟩
 ·rcases D.2 with J|⟨g,c,C,M,E,G,A⟩
  ·exact .inl J
  ·exact .inr ⟨g,c,C,M,E,(hk g E (Array.getElem?_eq_some_iff.1 G).1).trans G,A⟩
 ·obtain⟨g,c,H,I⟩:=K i hi;exact⟨g,c,H,I.kept hk⟩
theorem q3t.but{B b:Nat}{v:Value}{ps:List (List Td)}{w w':World}(h:q3t B v ps w)(hb:But w b w w')(hB:b<B):q3t B v ps w':=h.kept fun g h1 h2=>hb.block g h2 (by omega)
theorem q3t.cell{B:Nat}{A:Option Addr}{n c:Nat}{ps:List (List Td)}{w:World}(h:q3t B (.slice A n c) ps w):n=ps.length/\n<=c/\(A=none->n=0/\c=0)/\∀i(h:i<ps.length),∃go g c',A=some ⟨go,0,none⟩/\B<=go/\z9u w go c/\w.cell? ⟨go,i,none⟩=some (.slice (some ⟨g,0,none⟩) ps[i].length c')/\q0w B (.slice (some ⟨g,0,none⟩) ps[i].length c') ps[i] w:=by
 obtain⟨Q,L,M⟩:=h;rcases L.2 with⟨D,K⟩|⟨go,P,E,D,N,I,G,_,O,C⟩
 ·simp only[Value.slice.injEq]at D;obtain⟨rfl,rfl,rfl⟩:=D;exact⟨K.symm,Nat.le_refl _,fun _=>⟨rfl,rfl⟩,fun i hi=>by omega⟩
 ·simp only[Value.slice.injEq]at D;obtain⟨rfl,rfl,rfl⟩:=D;refine⟨rfl,G,(fun e=>by cases e),fun i hi=>?_⟩;obtain⟨g,c',H,J⟩:=M i hi;refine⟨go,g,c',rfl,N,⟨E,_,I,by omega⟩,?_,J⟩;rw[<-C,List.getElem?_take_of_lt (by omega)]at H;simp only[World.cell?,I];simpa using H
theorem q3t.prg{B:Nat}{A:Option Addr}{n c:Nat}{ps:List (List Td)}{w:World}(h:q3t B (.slice A n c) ps w):Prg w A ps:=by
 intro i H;obtain⟨E,g,D,e,_,I,G,C⟩:=h.cell.2.2.2 i H;exact⟨E,0,_,D,e,I.lt,by rw[Nat.zero_add];exact G,(q8s C).2.1,C.tds⟩
theorem z8z{B:Nat}{w:World}{v:Value}{n:Nat}{hs:List Value}(h:w.ownsRow B 51 1 v n hs){k:Nat}(hk:v.ownBlock=some k):∃cur,w.heap[k]?=some (.cells cur 51 (0,0)):=by
 rcases h.2 with⟨rfl,_⟩|⟨g,c,cur,rfl,_,A,_⟩
 ·cases hk
 ·have:g=k:=by simpa[Value.ownBlock]using hk
  subst this;exact⟨cur,A⟩
theorem z7r{w:World}{M:Array Oper}{D:List Oper}{o:Oper}{a:Act}{Q:Exit->Act->World->Prop}(R:o.guard=none)(s x:Operand)
  (ho:o.op=.call {callee:=.builtin .append,args:=#[s,x],argTypes:=#[23,23]})
  (B:Nat) (v:Value) (ps:List (List Td)) (hs:a.eval s=v) (K:q3t B v ps w)
  (b0 g n c:Nat) (t:List Td) (hn:t.length=n) (hx:a.eval x=.slice (some ⟨b0,0,none⟩) 1 1) (hc:w.cell? ⟨b0,0,none⟩=some (.slice (some ⟨g,0,none⟩) n c)) (hT:q0w B (.slice (some ⟨g,0,none⟩) n c) t w)
  (m:Nat) (hm:ps.length+1=m) (hb:m<=1000000) (G:B<=w.heap.size)
  (h:∀A c' w',q3t B (.slice A m c') (ps++[t]) w'->w.grownBy w' v.ownBlock->wpList prog M Q D (a.put o.dst (.slice A m c')) w'):wpList prog M Q (o::D) a w:=by
 subst hn hm;obtain⟨i0,S,W,X,Y⟩:=info_parts v9k;obtain⟨L,P,z⟩:=K;refine wpList_append_own w R s x 23 ho B 51 i0 _ 1 24 Tryz.underlying23 S W X Y rfl (by decide) v ps.length L hs P ⟨b0,0,none⟩ 1 1 [.slice (some ⟨g,0,none⟩) t.length c] hx rfl ?_ (by intro u p;simp at p;subst p;rfl) (by unfold maxLen;omega) (by omega) G ?_
 ·intro j u V;cases j with
  | zero=>
   simp at V;subst V;rw[z2u];exact hc
  | succ j=>simp at V
 ·intro v' w' f k _
  have C:∀{E Z c':Nat}{b:List Td},q0w B (.slice (some ⟨E,0,none⟩) Z c') b w->q0w B (.slice (some ⟨E,0,none⟩) Z c') b w':=by
   intro E Z c' b H;obtain⟨_,_,O,I⟩:=q8s H;refine z9o H (k.block E (Array.getElem?_eq_some_iff.1 I).1 fun e=>?_);obtain⟨d,J⟩:=z8z P e.symm;rw[I]at J;simp at J
  obtain⟨A,c',rfl⟩:∃A c',v'=.slice A (ps.length+1) c':=by
   rcases f.2 with⟨q,h0⟩|⟨E,c',O,q,_⟩
   ·omega
   ·exact⟨_,c',q⟩
  refine h A c' w' ⟨L++[.slice (some ⟨g,0,none⟩) t.length c],?_,fun i S=>?_⟩ k
  ·rw[List.length_append];exact f
  ·have l:=P.1;rw[Nat.mul_one]at l;by_cases e:i<ps.length
   ·obtain⟨E,N,r,y⟩:=z i e;rw[List.getElem_append_left e];refine⟨E,N,?_,C y⟩;rw[List.getElem?_append_left (by omega)];exact r
   ·have U:i=ps.length:=by simp at S;omega
    subst U;rw[List.getElem_append_right Zl];refine⟨g,c,?_,?_⟩
    ·rw[List.getElem?_append_right (by omega),l];simp
    ·simp only[Nat.sub_self,List.getElem_cons_zero];exact C hT
theorem q3t.last{B:Nat}{go n c:Nat}{ps:List (List Td)}{l t:List Td}{w:World}(h:q3t B (.slice (some ⟨go,0,none⟩) n c) (ps++[l]) w){g c':Nat}(hT:q0w B (.slice (some ⟨g,0,none⟩) t.length c') t w):q3t B (.slice (some ⟨go,0,none⟩) n c) (ps++[t]) (w.setCell ⟨go,ps.length,none⟩ (.slice (some ⟨g,0,none⟩) t.length c')):=by
 obtain⟨b,N,Y⟩:=h;have X:=N.1;rw[Nat.mul_one,List.length_append,List.length_singleton]at X
 have R:∀{D G c':Nat}{H:List Td},q0w B (.slice (some ⟨D,0,none⟩) G c') H w->D≠go:=by
  intro D G c' H E e;obtain⟨_,_,I,K⟩:=q8s E;obtain⟨V,O⟩:=z8z N (k:=go) rfl;rw[e,O]at K;simp at K
 have A:∀{D G c':Nat}{H:List Td}(u:Value)(j:Nat),q0w B (.slice (some ⟨D,0,none⟩) G c') H w->q0w B (.slice (some ⟨D,0,none⟩) G c') H (w.setCell ⟨go,j,none⟩ u):=by
  intro D G c' H u j E;exact z9o E (Below.heap_setCell _ _ _ _ (R E))
 refine⟨b.set ps.length (.slice (some ⟨g,0,none⟩) t.length c'),⟨by simp[X],?_⟩,fun i hi=>?_⟩
 ·rcases N.2 with⟨U,_⟩|⟨D,d,I,U,Z,a,L,Q,S,C⟩
  ·cases U
  ·have e:=U;simp only[Value.slice.injEq,Option.some.injEq,Addr.mk.injEq,and_true]at e;obtain⟨rfl,J,rfl⟩:=e;rw[List.length_append,List.length_singleton]at J L C;refine .inr ⟨go,c,I.setIfInBounds ps.length (.slice (some ⟨g,0,none⟩) t.length c'),?_,Z,?_,?_,Q,by simpa using S,?_⟩
   ·rw[List.length_append,List.length_singleton,J]
   ·simp[World.setCell,Array.getElem?_modify,a]
   ·rw[List.length_append,List.length_singleton];exact L
   ·rw[List.length_append,List.length_singleton,Array.toList_setIfInBounds,List.take_set,C]
 ·rw[List.length_append,List.length_singleton]at hi;by_cases e:i<ps.length
  ·obtain⟨D,M,W,J⟩:=Y i (by simp;omega);rw[List.getElem_append_left e]at W J⊢;refine⟨D,M,?_,A _ _ J⟩;rw[List.getElem?_set_ne (by omega)];exact W
  ·have P:i=ps.length:=by omega
   subst P;rw[List.getElem_append_right Zl];simp only[Nat.sub_self,List.getElem_cons_zero];exact⟨g,c',by rw[List.getElem?_set_self (by omega)],A _ _ hT⟩
theorem q3t.own_le{B:Nat}{v:Value}{ps:List (List Td)}{w:World}(h:q3t B v ps w){k:Nat}(hk:v.ownBlock=some k):B<=k:=by
 obtain⟨E,C,_⟩:=h;rcases C.2 with⟨rfl,_⟩|⟨g,c,A,rfl,D,_⟩
 ·cases hk
 ·have:g=k:=by simpa[Value.ownBlock]using hk
  omega
theorem v4x{B:Nat}{v:Value}{ps:List (List Td)}{w:World}(h:q3t B v ps w)(hB:B<=w.heap.size)(x:Td):
  q3t B v ps ((w.alloc (.cells #[.int .i64 x.op,.string x.tx,.int .i64 x.n] 71)).alloc (.cells #[.slice (some ⟨w,0,none⟩) 1 1] 51))/\
  q0w B (.slice (some ⟨w,0,none⟩) 1 1) [x] ((w.alloc (.cells #[.int .i64 x.op,.string x.tx,.int .i64 x.n] 71)).alloc (.cells #[.slice (some ⟨w,0,none⟩) 1 1] 51))/\
  ((w.alloc (.cells #[.int .i64 x.op,.string x.tx,.int .i64 x.n] 71)).alloc (.cells #[.slice (some ⟨w,0,none⟩) 1 1] 51)).cell? ⟨w.heap.size+1,0,none⟩=some (.slice (some ⟨w,0,none⟩) 1 1):=by
 have D:Below w w (w.alloc (.cells #[.int .i64 x.op,.string x.tx,.int .i64 x.n] 71)):= Zb.alloc Zl _;have A:∀w0:World,∀o:Obj,Below w0 w0 (w0.alloc o):=fun w0 o=> Zb.alloc Zl _
 refine⟨(h.kept fun g _ h2=>D.block g h2).kept fun g _ h2=>(A _ _).block g h2,((q0w.one w x).down hB).kept fun g _ h2=>(A _ _).block g h2,?_⟩;have C:=cell_one_new (w.alloc (.cells #[.int .i64 x.op,.string x.tx,.int .i64 x.n] 71)) (.slice (some ⟨w,0,none⟩) 1 1) 51;rw[World.size_alloc]at C;exact C 0 _ rfl
theorem z9d{B:Nat}{v:Value}{ps:List (List Td)}{w:World}(h:q3t B v ps w){g n c:Nat}{t:List Td}(hT:q0w B (.slice (some ⟨g,0,none⟩) n c) t w):
  q3t B v ps (w.alloc (.cells #[.slice (some ⟨g,0,none⟩) n c] 51))/\q0w B (.slice (some ⟨g,0,none⟩) n c) t (w.alloc (.cells #[.slice (some ⟨g,0,none⟩) n c] 51))/\
  (w.alloc (.cells #[.slice (some ⟨g,0,none⟩) n c] 51)).cell? ⟨w,0,none⟩=some (.slice (some ⟨g,0,none⟩) n c):=by
 have A:Below w w (w.alloc (.cells #[.slice (some ⟨g,0,none⟩) n c] 51)):= Zb.alloc Zl _;exact⟨h.kept fun g _ h2=>A.block g h2,hT.kept fun g _ h2=>A.block g h2,cell_one_new w (.slice (some ⟨g,0,none⟩) n c) 51 0 _ rfl⟩
theorem z0u{B:Nat}{w:World}{A:Option Addr}{n c:Nat}{x:Td}{xs:List Td}(h:q0w B (.slice A n c) (x::xs) w):∃g,A=some ⟨g,0,none⟩:=by
 rcases h.2 with⟨_,E⟩|⟨g,G,D,C,_⟩
 ·simp at E
 ·simp only[Value.slice.injEq]at C;exact⟨g,C.1⟩
structure Rd(w:World)(b:Nat)(A:Option Addr)(c:Nat)(ws:List Wd)(at_:Nat)(bad:Bool):Prop where
 c0:w.cell? ⟨b,0,none⟩=some (.slice A ws.length c)
 c1:w.cell? ⟨b,1,none⟩=some (.int .i64 (at_:Int))
 c2:w.cell? ⟨b,2,none⟩=some (.bool bad)
 row:z9u w b 3
 wd:Wds w A (ws.map wbS)
 lt:∀ba oa,A=some ⟨ba,oa,none⟩->ba<b
theorem v0v{w:World}{A:Option Addr}{xs:List ByteArray}(h:Wds w A xs){b k:Nat}{v:Value}(lt:∀ba oa,A=some ⟨ba,oa,none⟩->ba<b):Wds (w.setCell ⟨b,k,none⟩ v) A xs:=by
 intro i D;obtain⟨ba,oa,e,B,C⟩:=h i D;exact⟨ba,oa,e,by rw[World.size_setCell];exact B,by rw[cso (.inl (by have:=lt ba oa e;omega))];exact C⟩
theorem Rd.keepB{w w':World}{b B:Nat}{A:Option Addr}{c:Nat}{ws:List Wd}{C:Nat}{D:Bool}(h:Rd w b A c ws C D)(hb:Below B w w')(hB:b<B):Rd w' b A c ws C D:=by
 refine⟨(hb.cell (p:=⟨b,0,none⟩) hB).trans h.c0,(hb.cell (p:=⟨b,1,none⟩) hB).trans h.c1,(hb.cell (p:=⟨b,2,none⟩) hB).trans h.c2,h.row.kept (hb.block b hB),?_,h.lt⟩;intro i J;obtain⟨E,H,e,G,I⟩:=h.wd i J
 have:=h.lt E H e
 exact⟨E,H,e,Nat.lt_of_lt_of_le G hb.size,(hb.cell (p:=⟨E,_,none⟩) (by show E<B;omega)).trans I⟩
theorem Rd.keep{w w':World}{b:Nat}{A:Option Addr}{c:Nat}{ws:List Wd}{at_:Nat}{bad:Bool}(h:Rd w b A c ws at_ bad)(hb:Below w w w'):Rd w' b A c ws at_ bad:=h.keepB hb h.row.lt
theorem Rd.setAt{w:World}{b:Nat}{A:Option Addr}{c:Nat}{ws:List Wd}{at_:Nat}{bad:Bool}(h:Rd w b A c ws at_ bad)(n:Nat):Rd (w.setCell ⟨b,1,none⟩ (.int .i64 (n:Int))) b A c ws n bad:=
 ⟨(cso (.inr (by omega))).trans h.c0,css h.c1,(cso (.inr (by omega))).trans h.c2,h.row.set,v0v h.wd h.lt,h.lt⟩
theorem Rd.setBad{w:World}{b:Nat}{A:Option Addr}{c:Nat}{ws:List Wd}{at_:Nat}{bad:Bool}(h:Rd w b A c ws at_ bad)(n:Bool):Rd (w.setCell ⟨b,2,none⟩ (.bool n)) b A c ws at_ n:=
 ⟨(cso (.inr (by omega))).trans h.c0,(cso (.inr (by omega))).trans h.c1,css h.c2,h.row.set,v0v h.wd h.lt,h.lt⟩
theorem y3k(a b:Wd):((wbS a).toList==(wbS b).toList)=(a==b):=by
 rw[Lib.toList_data,Lib.toList_data];rfl
theorem z2c{w:World}{b:Nat}{A:Option Addr}{c:Nat}{ws:List Wd}{B:Nat}{D:Bool}(h:Rd w b A c ws B D)(s:Wd):
  Calls prog 35 #[.pointer (some ⟨b,0,none⟩),.string (wbS s)] w fun e w'=>e=.returned (.bool (!D&&(ws[B]?==some s)))/\∃q,w'=w.drewN q:=by
 obtain⟨L,M,N,_,H,_⟩:=h;cases D with
 | true=>
  generalize wbS s=S;go_in;go_wp2_with fail
  go_quiet (fail)
  go_wp2;go_ret;exact⟨rfl,_,rfl⟩
 | false=>
  by_cases E:B<ws.length
  ·obtain⟨K,O,rfl,J,I⟩:=H B (by rw[List.length_map];exact E);rw[List.getElem_map]at I;have G:(B:Int)<(ws.length:Int):=by omega
   have C:Hid (((wbS ws[B]).toList==(wbS s).toList)=(!false&&(ws[B]?==some s))):=by
    show _=_;rw[y3k,List.getElem?_eq_getElem E];rfl
   generalize(!false&&(ws[B]?==some s))=R at C⊢
   generalize wbS s=S at C⊢;generalize wbS ws[B]=X at C I;clear H;go_in;go_wp2_with fail
   go_quiet (fail)
   go_wp2;go_ret;exact⟨by rw[<-C.o];rfl,_,rfl⟩
  ·have G:¬(B:Int)<(ws.length:Int):=by omega
   have C:Hid ((!false&&(ws[B]?==some s))=false):=by
    show _=_;rw[List.getElem?_eq_none (by omega)];rfl
   generalize(!false&&(ws[B]?==some s))=R at C⊢
   generalize wbS s=S;clear H;go_in;go_wp2_with fail
   go_quiet (fail)
   go_wp2;go_ret;exact⟨by rw[C.o];rfl,_,rfl⟩
def q1o(ws:List Wd)(at_:Nat)(bad:Bool)(s:Wd):Nat:=if(!bad&&(ws[at_]?==some s))=true then at_+1 else at_
def q0u(ws:List Wd)(at_:Nat)(bad:Bool)(s:Wd):Bool:=!(!bad&&(ws[at_]?==some s))
theorem q7z{w:World}{b:Nat}{A:Option Addr}{c:Nat}{ws:List Wd}{B:Nat}{D:Bool}(h:Rd w b A c ws B D)(hl:ws.length<=60000)(ha:B<=ws.length)(s:Wd):
  Calls prog 37 #[.pointer (some ⟨b,0,none⟩),.string (wbS s)] w fun e w'=>(∃v,e=.returned v)/\Rd w' b A c ws (q1o ws B D s) (q0u ws B D s)/\But w b w w':=by
 have E:Hid (Calls prog 35 #[.pointer (some ⟨b,0,none⟩),.string (wbS s)] w fun e w'=>e=.returned (.bool (!D&&(ws[B]?==some s)))/\∃q,w'=w.drewN q):=z2c h s;unfold q1o q0u;cases G:(!D&&(ws[B]?==some s))with
 | true=>
  have J:D=false:=by
   cases D with
   | false=>rfl
   | true=>simp at G
  subst J;rw[G]at E;simp only[if_true,Bool.not_true];have H:=hid h;obtain⟨I,L,M,C,_,_⟩:=h;have O:w.frozen? ⟨b,1,none⟩=false:=C.frozen;generalize wbS s=S at E⊢;clear C G I;go_in;go_wp2_with fail;refine E.o.mono ?_;rintro e N⟨rfl,q,rfl⟩;go_wp2
  go_end0
  refine⟨⟨_,rfl⟩,?_,?_⟩
  ·have K:=(H.o.keep (q0d (Below.refl _ w) q)).setAt (B+1);rw[show((B+1:Nat):Int)=(B:Int)+1 by omega]at K;exact K
  ·exact(But.of (q0d (Below.refl _ w) q)).setCell (p:=⟨b,1,none⟩) (.inl rfl) _
 | false=>
  rw[G]at E;simp only[Bool.false_eq_true,if_false,Bool.not_false];have H:=hid h;obtain⟨I,L,M,C,_,_⟩:=h;have P:w.frozen? ⟨b,2,none⟩=false:=C.frozen;generalize wbS s=S at E⊢;clear C G I;go_in;go_wp2_with fail;refine E.o.mono ?_;rintro e N⟨rfl,q,rfl⟩;go_wp2
  go_end0
  exact⟨⟨_,rfl⟩,(H.o.keep (q0d (Below.refl _ w) q)).setBad true,(But.of (q0d (Below.refl _ w) q)).setCell (p:=⟨b,2,none⟩) (.inl rfl) _⟩
def y6d(w:World)(b:Nat):Nat:=match w.cell? ⟨b,1,none⟩with
 | some (.int _ n)=>n.toNat
 | _=>0
theorem Rd.at_eq{w:World}{b:Nat}{A:Option Addr}{c:Nat}{ws:List Wd}{B:Nat}{C:Bool}(h:Rd w b A c ws B C):y6d w b=B:=by
 unfold y6d;rw[h.c1];simp
def Rs.isBad:Rs->Bool
 | .ok _ _ _=>false
 | .bad _=>true
structure Got(b:Nat)(A:Option Addr)(c:Nat)(ws:List Wd)(j:Job)(p:Nat)(w:World)(r:Rs)(ns:List Td)(v:Value)(w':World):Prop where
 pr:PR j (ws.drop p) r
 o:q0w w v ns w'
 n:ns.length+r.rest.length<=(ws.drop p).length
 e:∀m ms u,r=.ok m ms u->ms=ns
 rd:Rd w' b A c ws (ws.length-r.rest.length) r.isBad
 bt:But w b w w'
abbrev z9z(b:Nat)(A:Option Addr)(c:Nat)(ws:List Wd)(k p:Nat):Prop:=∀w:World,Rd w b A c ws p false->Calls prog 38 #[.pointer (some ⟨b,0,none⟩),.int .i64 (k:Int)] w fun e w'=>∃r ns A' c',e=.returned (.slice A' ns.length c')/\Got b A c ws (.level k) p w r ns (.slice A' ns.length c') w'
abbrev v1v(b:Nat)(A:Option Addr)(c:Nat)(ws:List Wd)(p:Nat):Prop:=∀w:World,Rd w b A c ws p false->Calls prog 76 #[.pointer (some ⟨b,0,none⟩)] w fun e w'=>∃r ns A' c',e=.returned (.slice A' ns.length c')/\Got b A c ws .single p w r ns (.slice A' ns.length c') w'
abbrev Sil(b:Nat)(A:Option Addr)(c:Nat)(ws:List Wd)(p:Nat)(w:World)(e:Ending)(w':World):Prop:=e=.returned (.slice none 0 0)/\Rd w' b A c ws p true/\But w b w w'
theorem j0p{w:World}{b:Nat}{A:Option Addr}{c:Nat}{ws:List Wd}{p:Nat}(h:Rd w b A c ws p true):Calls prog 76 #[.pointer (some ⟨b,0,none⟩)] w fun e w'=>Sil b A c ws p w e w':=by
 have C:=hid h;obtain⟨G,H,I,B,_,_⟩:=h;have D:w.frozen? ⟨b,2,none⟩=false:=B.frozen;have E:Hid (∀q,(w.drewN q).frozen? ⟨b,2,none⟩=false):=fun q=>D
 clear B;go_in;go_wp2_with fail
 go_quiet (fail)
 go_wp2;go_ret;exact⟨rfl,(C.o.keep (q0d (Below.refl _ w) _)).setBad true,(But.of (q0d (Below.refl _ w) _)).setCell (p:=⟨b,2,none⟩) (.inl rfl) _⟩
theorem q0w.nil(B:Nat)(w:World):q0w B (.slice Option.none 0 0) [] w:=⟨rfl,.inl ⟨rfl,rfl⟩⟩
theorem k9r{w:World}{b:Nat}{A:Option Addr}{c:Nat}{ws:List Wd}{p:Nat}(h:Rd w b A c ws p true):Calls prog 38 #[.pointer (some ⟨b,0,none⟩),.int .i64 2] w fun e w'=>Sil b A c ws p w e w':=by
 have B:Hid (Calls prog 76 #[.pointer (some ⟨b,0,none⟩)] w fun e w'=>Sil b A c ws p w e w'):=j0p h;clear h;go_in;go_wp2_with fail;refine B.o.mono ?_;rintro e E⟨rfl,D,C⟩;go_wp2;go_ret;exact⟨rfl,D,C⟩
theorem k9q{w:World}{b:Nat}{A:Option Addr}{c:Nat}{ws:List Wd}{p:Nat}(h:Rd w b A c ws p true):Calls prog 38 #[.pointer (some ⟨b,0,none⟩),.int .i64 1] w fun e w'=>Sil b A c ws p w e w':=by
 have G:Hid (Calls prog 38 #[.pointer (some ⟨b,0,none⟩),.int .i64 2] w fun e w'=>Sil b A c ws p w e w'):=k9r h;clear h;go_in;go_wp2_with fail;refine G.o.mono ?_;rintro e H⟨rfl,B,C⟩;have I:=B.c2;have E:=hid B;have D:=hid C;clear B C;go_wp2_with fail
 go_loopw [5] (fun x wr=>wr=H/\x=.slice none 0 0) (fun _ _=>0)
 case atStart=>exact⟨rfl,rfl⟩
 case round=>
  obtain⟨rfl,rfl⟩:=hrel;go_wp2;go_ret;exact⟨rfl,E.o,D.o⟩
theorem z6l{w:World}{b:Nat}{A:Option Addr}{c:Nat}{ws:List Wd}{p:Nat}(h:Rd w b A c ws p true):Calls prog 38 #[.pointer (some ⟨b,0,none⟩),.int .i64 0] w fun e w'=>Sil b A c ws p w e w':=by
 have G:Hid (Calls prog 38 #[.pointer (some ⟨b,0,none⟩),.int .i64 1] w fun e w'=>Sil b A c ws p w e w'):=k9q h;clear h;go_in;go_wp2_with fail;refine G.o.mono ?_;rintro e H⟨rfl,B,C⟩;have I:=B.c2;have E:=hid B;have D:=hid C;clear B C;go_wp2_with fail
 go_loopw [5] (fun x wr=>wr=H/\x=.slice none 0 0) (fun _ _=>0)
 case atStart=>exact⟨rfl,rfl⟩
 case round=>
  obtain⟨rfl,rfl⟩:=hrel;go_wp2;go_ret;exact⟨rfl,E.o,D.o⟩
end Go.Proofs.YthcpdohdppkmkaaGreatDoor
