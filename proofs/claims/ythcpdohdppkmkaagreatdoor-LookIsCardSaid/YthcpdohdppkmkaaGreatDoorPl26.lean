import Derived.Test.YthcpdohdppkmkaaGreatDoorPl25
open Go.Proofs.Tryz
namespace Go.Proofs.YthcpdohdppkmkaaGreatDoor
open Go Go.RowKit
set_option maxRecDepth 100000
def q1h(ds:List Td):List Value:=ds.flatMap fun x=>[.int .i64 x.op,.string x.tx,.int .i64 x.n]
theorem q7d:∀ds:List Td,(q1h ds).length=ds.length*3
 | []=>rfl
 | x::r=>by
  have:=q7d r
  unfold q1h at this⊢;rw[List.flatMap_cons,List.length_append,this,List.length_cons];simp;omega
theorem z4w(a b:List Td):q1h (a++b)=q1h a++q1h b:=by simp[q1h,List.flatMap_append]
theorem z2f:∀(ds:List Td)(i:Nat)(h:i<ds.length),(q1h ds)[i*3]?=some (.int .i64 ds[i].op)/\(q1h ds)[i*3+1]?=some (.string ds[i].tx)/\(q1h ds)[i*3+2]?=some (.int .i64 ds[i].n)
 | x::r,0,_=>by simp[q1h]
 | x::r,i+1,h=>by
  have h1:=z2f r i (by simpa using h);have e:q1h (x::r)=.int .i64 x.op::.string x.tx::.int .i64 x.n::q1h r:=by simp[q1h]
  rw[e,show(i+1)*3=i*3+1+1+1 by omega];exact h1
theorem z4x(ds:List Td):∀u∈q1h ds,u.oneCell'=true:=by
 intro u B;obtain⟨x,_,A⟩:=List.mem_flatMap.1 B;simp at A;rcases A with rfl|rfl|rfl<;>rfl
theorem k5h(ds:List Td)(j:Nat)(u:Value)(h:(q1h ds)[j]?=some u):∃i,∃hi:i<ds.length,(j=i*3/\u=.int .i64 ds[i].op)\/(j=i*3+1/\u=.string ds[i].tx)\/(j=i*3+2/\u=.int .i64 ds[i].n):=by
 have E:j<ds.length*3:=by rw[<-q7d];exact(List.getElem?_eq_some_iff.1 h).1
 have hi:j / 3<ds.length:=by omega
 obtain⟨A,B,C⟩:=z2f ds (j / 3) hi;refine⟨j / 3,hi,?_⟩;have D:j=j / 3*3\/j=j / 3*3+1\/j=j / 3*3+2:=by omega
 rcases D with e|e|e
 ·rw[<-e,h]at A;exact .inl ⟨e,Option.some.inj A⟩
 ·rw[<-e,h]at B;exact .inr (.inl ⟨e,Option.some.inj B⟩)
 ·rw[<-e,h]at C;exact .inr (.inr ⟨e,Option.some.inj C⟩)
theorem v0e:(prog.info? 71).map (fun i=>(i.zero,i.size,i.bytes))=some (some (.agg #[.int .i64 0,.string ⟨#[]⟩,.int .i64 0]),3,32):=by kernel_rfl
theorem k4x{B:Nat}{w:World}{a:Option Addr}{n cap:Nat}{ds:List Td}(h:w.ownsRow B 71 3 (.slice a n cap) ds.length (q1h ds)):n=ds.length/\ds.length<=cap/\Tds w a ds:=by
 rcases h.2 with⟨D,H⟩|⟨g,c,M,D,_,L,K,_,P,C⟩
 ·simp only[Value.slice.injEq]at D;obtain⟨rfl,rfl,rfl⟩:=D;refine⟨H.symm,by omega,fun i hi=>?_⟩;omega
 ·simp only[Value.slice.injEq]at D;obtain⟨rfl,rfl,rfl⟩:=D;refine⟨rfl,K,fun i hi=>?_⟩
  have J:g<w.heap.size:=by
   rcases Nat.lt_or_ge g w.heap.size with G|G
   ·exact G
   ·simp[Array.getElem?_eq_none G]at L
  have A:∀k u,(q1h ds)[k]?=some u->w.cell? ⟨g,k,none⟩=some u:=by
   intro k u E;rw[<-C]at E
   have I:k<ds.length*3:=by
    have:=(List.getElem?_eq_some_iff.1 E).1
    simp at this;omega
   rw[List.getElem?_take_of_lt I]at E;simp only[World.cell?,L];simpa using E
  obtain⟨H,N,O⟩:=z2f ds i hi;refine⟨g,0,rfl,J,?_,?_,?_⟩
  ·rw[Nat.zero_add];exact A _ _ H
  ·rw[Nat.zero_add];exact A _ _ N
  ·rw[Nat.zero_add];exact A _ _ O
theorem k8c{w:World}{b o:Nat}{ds:List Td}(h:Tds w (some ⟨b,o,none⟩) ds):∀j u,(q1h ds)[j]?=some u->w.cell? ((⟨b,o,none⟩:Addr).add j)=some u:=by
 intro j u H;obtain⟨i,G,E⟩:=k5h ds j u H;obtain⟨I,J,e,_,A,B,C⟩:=h i G;simp only[Option.some.injEq,Addr.mk.injEq,and_true]at e;obtain⟨rfl,rfl⟩:=e
 have D:∀k,(⟨b,o,none⟩:Addr).add k=⟨b,o+k,none⟩:=by
  intro k;unfold Addr.add
  split
  ·rename_i h;subst h;rfl
  ·rfl
 rw[D];rcases E with⟨rfl,rfl⟩|⟨rfl,rfl⟩|⟨rfl,rfl⟩
 ·exact A
 ·rw[show o+(i*3+1)=o+i*3+1 by omega];exact B
 ·rw[show o+(i*3+2)=o+i*3+2 by omega];exact C
def q0w(B:Nat)(v:Value)(xs:List Td)(w:World):Prop:=w.ownsRow B 71 3 v xs.length (q1h xs)
theorem q0w.tds{B:Nat}{w:World}{A:Option Addr}{n c:Nat}{xs:List Td}(h:q0w B (.slice A n c) xs w):Tds w A xs:=(k4x h).2.2
theorem q0w.none{B:Nat}{w:World}{A:Option Addr}{n c:Nat}{xs:List Td}(h:q0w B (.slice A n c) xs w):n=xs.length/\(A=none->n=0/\c=0):=by
 rcases h.2 with⟨C,E⟩|⟨g,G,D,C,_⟩
 ·simp only[Value.slice.injEq]at C;obtain⟨rfl,rfl,rfl⟩:=C;exact⟨E.symm,fun _=>⟨rfl,rfl⟩⟩
 ·simp only[Value.slice.injEq]at C;obtain⟨rfl,rfl,rfl⟩:=C;exact⟨rfl,fun e=>by cases e⟩
theorem q4m{w:World}{H:Array Oper}{D:List Oper}{o:Oper}{a:Act}{Q:Exit->Act->World->Prop}(K:o.guard=none)(s x:Operand)
  (ho:o.op=.call {callee:=.builtin .append,args:=#[s,x],argTypes:=#[51,51]})
  (B:Nat) (v:Value) (xs:List Td) (hs:a.eval s=v) (C:q0w B v xs w)
  (wa:Option Addr) (n:Nat) (ws:List Td) (hn:ws.length=n) (wc:Nat) (hx:a.eval x=.slice wa n wc) (hW:Tds w wa ws) (L:wa=none->n=0/\wc=0)
  (m:Nat) (hm:xs.length+n=m) (hb:m<=1000000) (G:B<=w.heap.size)
  (h:∀A c w',q0w B (.slice A m c) (xs++ws) w'->w.grownBy w' v.ownBlock->wpList prog H Q D (a.put o.dst (.slice A m c)) w'):wpList prog H Q (o::D) a w:=by
 subst hn hm;obtain⟨W,V,P,R,S⟩:=info_parts v0e
 have U:∀I w',q0w B I (xs++ws) w'->w.grownBy w' v.ownBlock->wpList prog H Q D (a.put o.dst I) w':=by
  intro I w' J N
  obtain⟨A,c,rfl⟩:∃A c,I=.slice A (xs.length+ws.length) c:=by
   rcases J.2 with⟨M,E⟩|⟨g,c,X,M,_⟩
   ·rw[List.length_append]at E;exact⟨.none,0,by rw[M,E]⟩
   ·rw[List.length_append]at M;exact⟨_,c,M⟩
  exact h A c w' J N
 cases wa with
 | none=>
  obtain⟨E,rfl⟩:=L rfl;obtain rfl:ws=[]:=List.eq_nil_of_length_eq_zero E;refine wpList_append_own_none K s x 51 ho B 71 W 3 Tryz.underlying51 V v xs.length (q1h xs) hs C hx ?_;refine U v w ?_ ⟨rfl,rfl,rfl,Nat.le_refl _,fun _ _ _=>rfl⟩;rw[List.append_nil];exact C
 | some ad=>
  have O:ws=[]\/∃b o,ad=⟨b,o,Option.none⟩:=by
   rcases Nat.eq_zero_or_pos ws.length with E|E
   ·exact .inl (List.eq_nil_of_length_eq_zero E)
   ·obtain⟨b,o,e,_⟩:=hW 0 E;exact .inr ⟨b,o,by simpa using e⟩
  refine wpList_append_own w K s x 51 ho B 71 W _ 3 32 Tryz.underlying51 V P R S rfl (by decide) v xs.length (q1h xs) hs C ad ws.length wc (q1h ws) hx (q7d ws) ?_ (z4x ws) (by unfold maxLen;omega) (by omega) G ?_
  ·rcases O with rfl|⟨b,o,rfl⟩
   ·intro j u Y;simp[q1h]at Y
   ·exact k8c hW
  ·intro I w' J N _;rw[<-z4w]at J;refine U I w' ?_ N;show w'.ownsRow _ _ _ _ _ _;rw[List.length_append];exact J
theorem q0w.down{B B':Nat}{v:Value}{xs:List Td}{w:World}(h:q0w B v xs w)(hB:B'<=B):q0w B' v xs w:=by
 refine⟨h.1,?_⟩;rcases h.2 with D|⟨g,c,C,E,G,A⟩
 ·exact .inl D
 ·exact .inr ⟨g,c,C,E,by omega,A⟩
theorem q0w.kept{B:Nat}{v:Value}{xs:List Td}{w w':World}(h:q0w B v xs w)(hk:∀g,B<=g->g<w.heap.size->w'.heap[g]?=w.heap[g]?):q0w B v xs w':=by
 refine⟨h.1,?_⟩;rcases h.2 with G|⟨g,c,C,H,D,E,A⟩
 ·exact .inl G
 ·exact .inr ⟨g,c,C,H,D,(hk g D (Array.getElem?_eq_some_iff.1 E).1).trans E,A⟩
theorem q0w.one(w:World)(x:Td):q0w w (.slice (some ⟨w.heap.size,0,Option.none⟩) 1 1) [x] (w.alloc (.cells #[.int .i64 x.op,.string x.tx,.int .i64 x.n] 71)):=by
 have A:(w.alloc (.cells #[.int .i64 x.op,.string x.tx,.int .i64 x.n] 71)).heap[w.heap.size]?=some (.cells #[.int .i64 x.op,.string x.tx,.int .i64 x.n] 71 (0,0)):=by
  show(w.heap.push _)[w.heap.size]?=_
  simp
 exact⟨rfl,.inr ⟨w.heap.size,1,_,rfl,Nat.le_refl _,A,Nat.le_refl _,by unfold maxLen;decide,rfl,rfl⟩⟩
set_option maxHeartbeats 4000000
theorem v1l(n:Nat)(h1:0<n)(hn:n<=1000000)(w:World):
  Calls prog 252 #[.slice none 0 0,.int .i64 (n:Int)] w fun e w'=>∃c,e=.returned (.slice (some ⟨w,0,none⟩) 0 c)/\q0w w (.slice (some ⟨w,0,none⟩) 0 c) [] w'/\Below w w w':=by
 obtain⟨J,M,E,I,C⟩:=info_parts v0e
 have B:∀ty,(Builtin.append_ #[51,3] ty #[.slice none 0 0,.int .i64 (n:Int)]).run prog w=
   .ok (.slice (some ⟨w,0,none⟩) n (grownCap w n 0 71)) (w.drew.alloc (.cells (#[]++Builtin.zeroCells (Value.agg #[.int .i64 0,.string ⟨#[]⟩,.int .i64 0]).cells n++Builtin.zeroCells (Value.agg #[.int .i64 0,.string ⟨#[]⟩,.int .i64 0]).cells (grownCap w n 0 71-n)) 71)):=fun ty=>by
  have D:(Builtin.firstCells J.size 0 (.slice none 0 0)).run prog w.drew=.ok ([]:List Value).toArray w.drew:=run_firstCells_none w.drew J.size 0 0 0;have h:=Lib.run_append_grow_zeros w 51 3 ty 71 J _ .i64 .i64 Tryz.underlying51 Tryz.underlying3 M E none 0 0 [] D n h1 (by omega) (by omega) (by omega) (by rw[C];omega) (growslice_fits (by omega) (by rw[C];omega));simp only[Nat.zero_add]at h;exact h
 have H:n<=grownCap w n 0 71:=grownCap_ge w _ _ _;have A:=grownCap_le_maxLen w n 0 71 (by unfold maxLen;omega);generalize grownCap w n 0 71=G at B H A;have L:G<=9223372036854775807:=by unfold maxLen at A;omega
 have K:Hid (q0w w (.slice (some ⟨w,0,none⟩) 0 G) [] (w.drew.alloc (.cells (#[]++Builtin.zeroCells (Value.agg #[.int .i64 0,.string ⟨#[]⟩,.int .i64 0]).cells n++Builtin.zeroCells (Value.agg #[.int .i64 0,.string ⟨#[]⟩,.int .i64 0]).cells (G-n)) 71))):=by
  refine⟨rfl,.inr ⟨w.heap.size,G,_,rfl,Nat.le_refl _,heap_alloc_new w.drew _,Nat.zero_le _,A,?_,rfl⟩⟩;simp only[Array.size_append,size_zeroCells,Array.size_empty];show 0+n*3+(G-n)*3=G*3;omega
 have N:(0:Int)<(n:Int):=by omega
 generalize(#[]++Builtin.zeroCells (Value.agg #[.int .i64 0,.string ⟨#[]⟩,.int .i64 0]).cells n++Builtin.zeroCells (Value.agg #[.int .i64 0,.string ⟨#[]⟩,.int .i64 0]).cells (G-n))=Z at B K
 clear M E I C A;go_in;go_wp2_with(at_builtin;refine Lib.wpList_append_run _ rfl _ _ _ _ rfl _ _ rfl rfl _ _ (B _) ?_);go_ret;exact⟨G,rfl,K.o,Below.drew (Zb.alloc Zl _)⟩
def y3r(w:World)(a:Option Addr)(ps:List (List Td)):Prop:=
 ∀i(h:i<ps.length),∃b o a' c',a=some ⟨b,o,none⟩/\b<w.heap.size/\w.cell? ⟨b,o+i,none⟩=some (.slice a' ps[i].length c')/\ps[i].length<=c'/\Tds w a' ps[i]/\(a'=none->ps[i].length=0/\c'=0)
theorem y3r.W{w w':World}{a:Option Addr}{ps:List (List Td)}(h:y3r w a ps)(hb:Below w w w'):y3r w' a ps:=by
 intro i I;obtain⟨b,o,B,C,e,A,D,E,G,H⟩:=h i I;exact⟨b,o,B,C,e,Nat.lt_of_lt_of_le A hb.size,(hb.cell (p:=⟨b,_,none⟩) A).trans D,E,G.W hb,H⟩
theorem k0u{ps:List (List Td)}{i:Nat}(h:i<ps.length):(ps.take (i+1)).flatten=(ps.take i).flatten++ps[i]:=by
 rw[List.take_succ_eq_append_getElem h,List.flatten_append];simp
theorem z8h(ps:List (List Td))(i:Nat):(ps.take i).flatten.length<=ps.flatten.length:=by
 have h:ps.flatten=(ps.take i).flatten++(ps.drop i).flatten:=by rw[<-List.flatten_append,List.take_append_drop]
 rw[h,List.length_append];omega
structure y7x(w:World)(ps:List (List Td))(i:Nat)(v:Value)(wr:World):Prop where
 le:i<=ps.length
 o:q0w w v (ps.take i).flatten wr
 b:Below w w wr
theorem k5p(ps:List (List Td))(a:Option Addr)(c:Nat)(w:World)(hP:y3r w a ps)(h0:0<ps.flatten.length)(hl:ps.flatten.length<=900000)(hp:ps.length<=10):
  Calls prog 234 #[.slice a ps.length c] w fun e w'=>∃A c',e=.returned (.slice A ps.flatten.length c')/\q0w w (.slice A ps.flatten.length c') ps.flatten w'/\Below w w w':=by
 have z:Hid (y3r w a ps):=hP;have u:Hid (Calls prog 252 #[.slice none 0 0,.int .i64 (ps.flatten.length:Int)] w fun e w'=>∃c,e=.returned (.slice (some ⟨w,0,none⟩) 0 c)/\q0w w (.slice (some ⟨w,0,none⟩) 0 c) [] w'/\Below w w w'):=v1l ps.flatten.length h0 (by omega) w;clear hP;generalize hN:ps.flatten.length=N at u h0 hl⊢;have P:Hid (ps.flatten.length=N):=hN;clear hN;go_in;go_wp2_with fail
 go_loopw [3,11] (fun s x wr=>w=wr/\∃i:Nat,i<=ps.length/\x=.int .i64 (i:Int)/\s=.int .i64 ((ps.take i).flatten.length:Int)) (fun _ x _=>ps.length-(intOf x).toNat)
 case atStart=>exact⟨rfl,0,Nat.zero_le _,rfl,rfl⟩
 case round=>
  obtain⟨rfl,i,hi,rfl,rfl⟩:=hrel;by_cases C:i<ps.length
  ·have K:(i:Int)<(ps.length:Int):=by omega
   obtain⟨b0,o0,Y,j,rfl,q,p,_,_,_⟩:=z.o i C;have B:=congrArg List.length (k0u C);rw[List.length_append]at B;have E:=z8h ps (i+1);rw[P.o]at E;have M:=(show Hid (_=_)from B);have V:(ps.take i).flatten.length+ps[i].length<=900000:=by omega
   clear B E;generalize ps[i].length=pn at M p V
   generalize(ps.take i).flatten.length=sn at M V⊢
   have Aa:¬(sn:Int)+(pn:Int)<0:=by omega
   go_wp2;refine⟨⟨trivial,i+1,C,by go_num,?_⟩,?_⟩
   ·rw[M.o];go_num
   ·simp[intOf];omega
  ·have K:¬(i:Int)<(ps.length:Int):=by omega
   have G:(ps.take i).flatten.length=N:=by rw[List.take_of_length_le (by omega)];exact P.o
   rw[G];clear G;go_wp2_with fail;refine u.o.mono ?_;rintro e w1⟨c1,rfl,S,b1⟩;have f:Hid (y7x w ps 0 (.slice (some ⟨w,0,none⟩) 0 c1) w1):=⟨Nat.zero_le _,S,b1⟩;clear S b1;go_wp2_with fail
   go_loopw [6,27] (fun v x w'=>∃(i:Nat)(A:Option Addr)(n c:Nat),x=.int .i64 (i:Int)/\v=.slice A n c/\n=(ps.take i).flatten.length/\y7x w ps i (.slice A n c) w') (fun _ x _=>ps.length-(intOf x).toNat)
   case atStart=>exact⟨0,_,_,_,rfl,rfl,rfl,f.o⟩
   case round=>
    obtain⟨i,A,n,l,rfl,rfl,L,O⟩:=hrel;have E:=z8h ps i;rw[P.o,<-L]at E;by_cases C:i<ps.length
    ·have K:(i:Int)<(ps.length:Int):=by omega
     obtain⟨b0,o0,Y,j,rfl,q,p,_,hT,J⟩:=z.o.W O.b i C;have B:=k0u C;have I:=z8h ps (i+1);rw[B,List.length_append,P.o,<-L]at I;have M:=(show Hid (_=_)from B);have Z:Hid (q0w w (.slice A n l) (ps.take i).flatten wr):=O.o;have d:Hid (Below w w wr):=O.b;have X:=O.b.size;have HT:Hid (Tds wr Y ps[i]):=hT;have Q:Hid (Y=none->ps[i].length=0/\j=0):=J;have y:Hid ((ps.take i).flatten.length=n):=L.symm;have g:Hid (∃m,ps[i].length=m):=⟨_,rfl⟩;generalize U:ps[i].length=pn at p I Q;have R:Hid (ps[i].length=pn):=U;clear B hT J L O U g E;go_wp2_with(at_builtin;refine q4m rfl _ _ rfl w.heap.size _ (ps.take i).flatten rfl Z.o Y pn ps[i] R.o j rfl HT.o Q.o (n+pn) (by rw[y.o]) (by omega) X ?_);intro t c3 w3 H D
     have h:Hid (y7x w ps (i+1) (.slice t (n+pn) c3) w3):=by
      refine⟨C,?_,d.o.grown D X (fun k hk=>(World.ownsRow.lt Z.o k hk).1)⟩;rw[M.o];exact H
     clear H D;go_wp2;refine⟨⟨i+1,t,n+pn,c3,by go_num,rfl,?_,h.o⟩,?_⟩
     ·rw[M.o,List.length_append,y.o,R.o]
     ·simp[intOf];omega
    ·have K:¬(i:Int)<(ps.length:Int):=by omega
     have G:ps.take i=ps:=List.take_of_length_le (by omega);obtain⟨_,r,hb⟩:=O;rw[G]at r L;rw[P.o]at L;subst L;have Z:Hid (q0w w (.slice A n l) ps.flatten wr):=r;have d:Hid (Below w w wr):=hb;clear r hb G;go_wp2;go_ret;exact⟨A,l,rfl,Z.o,d.o⟩
set_option maxHeartbeats 16000000
theorem q0h{ws:List Wd}{p:Nat}:(ws.drop p).length=ws.length-p:=List.length_drop
theorem q2n(ws:List Wd)(p:Nat):(ws.drop p).head?=ws[p]?:=List.head?_drop
theorem q7b{ws:List Wd}{p:Nat}{r:List Wd}(h:r <:+ ws.drop p):ws.drop (ws.length-r.length)=r:=by
 obtain⟨t,A⟩:=h.trans (List.drop_suffix p ws);have B:=congrArg List.length A;rw[List.length_append]at B;have e:ws.length-r.length=t.length:=by omega
 rw[e,<-A,List.drop_left]
structure v1t(K:LwK)(ws:List Wd)(pl:Nat->Nat)(b:Nat)(j:Job)(p:Nat)(w:World)(m:Nat)(ns:List Td)(u:List Wd)(v:Value)(w':World):Prop where
 pr:PR j (ws.drop p) (.ok m ns u)
 o:q0w w v ns w'
 n:ns.length+u.length<=(ws.drop p).length
 rd:Ry K ws pl b (ws.length-u.length) w'
 bt:But w b w w'
inductive q4k (K:LwK) (ws:List Wd) (pl:Nat->Nat) (b:Nat) (j:Job) (p:Nat) (w:World):Ending->World->Prop where
 | ok {m ns u A c w'} (h:v1t K ws pl b j p w m ns u (.slice A ns.length c) w'):q4k K ws pl b j p w (.returned (.slice A ns.length c)) w'
 | bad {u w'} (pr:PR j (ws.drop p) (.bad u)) (bt:But w b w w'):q4k K ws pl b j p w (.panicked [q4v (pl (ws.length-u.length))]) w'
abbrev j1w(K:LwK)(ws:List Wd)(pl:Nat->Nat)(b p:Nat):Prop:=∀w:World,Ry K ws pl b p w->Calls prog 153 #[.pointer (some ⟨b,0,none⟩)] w fun e w'=>q4k K ws pl b (.level 0) p w e w'
abbrev y3u(K:LwK)(ws:List Wd)(pl:Nat->Nat)(b p:Nat):Prop:=∀w:World,Ry K ws pl b p w->Calls prog 202 #[.pointer (some ⟨b,0,none⟩)] w fun e w'=>q4k K ws pl b (.level 1) p w e w'
abbrev y3s(K:LwK)(ws:List Wd)(pl:Nat->Nat)(b p:Nat):Prop:=∀w:World,Ry K ws pl b p w->Calls prog 235 #[.pointer (some ⟨b,0,none⟩)] w fun e w'=>q4k K ws pl b (.level 2) p w e w'
def j0j(w:World)(b:Nat):Nat:=match w.cell? ⟨b,0,none⟩with
 | some (.slice _ n _)=>n
 | _=>0
section
variable {K:LwK} {ws:List Wd} {pl:Nat→Nat} {b q p:Nat} {w w':World}
theorem Ry.len_eq(h:Ry K ws pl b q w):j0j w b=ws.length+1-q:=by
 unfold j0j;rw[h.c0]
theorem q0w.but2{B:Nat}{v:Value}{xs:List Td}(h:q0w B v xs w)(hb:But w b w w')(hB:b<B):q0w B v xs w':=h.kept fun g _ h2=>hb.block g h2 (by omega)
structure k8n(K:LwK)(ws:List Wd)(pl:Nat->Nat)(b k p:Nat)(w:World)(q:Nat)(acc:List Td)(v:Value)(wr:World):Prop where
 lt:p<q
 n:acc.length+(ws.length-q)<=ws.length-p
 o:q0w w v acc wr
 rd:Ry K ws pl b q wr
 bt:But w b w wr
 ok:∀r,PR (.loop k acc) (ws.drop q) r->PR (.level k) (ws.drop p) r
theorem v4r{k m:Nat}{ns:List Td}{u:List Wd}{v:Value}{w1:World}(hk:k<2)(h:v1t K ws pl b (.level (k+1)) p w m ns u v w1):k8n K ws pl b k p w (ws.length-u.length) ns v w1:=by
 have A:=q5h h.pr;have C:ws.drop (ws.length-u.length)=u:=q7b A.1;have D:=h.n;have B:=A.2 m ns u rfl;rw[q0h]at B D;simp only[Job.eats]at B;exact⟨by omega,by omega,h.o,h.rd,h.bt,fun r hr=>by rw[C]at hr;exact .levO hk h.pr hr⟩
theorem y2a{k q m:Nat}{A ns:List Td}{u:List Wd}{v v4 v5:Value}{wr w3 w4 w5:World}(hV:k8n K ws pl b k p w q A v wr)(hq:q<ws.length)(hd:ws.drop q=sgn k::ws.drop (q+1))(C:But w b w w3)(E:w.heap.size<=w3.heap.size)
  (hG:v1t K ws pl b (.level (k+1)) (q+1) w3 m ns u v4 w4) (b5:Below w4 w4 w5) (ho:q0w w v5 (sgT k::(A++ns)) w5):
  k8n K ws pl b k p w (ws.length-u.length) (sgT k::(A++ns)) v5 w5/\q<ws.length-u.length:=by
 have B:=q5h hG.pr;have H:ws.drop (ws.length-u.length)=u:=q7b B.1;have L:=hG.n;have G:=B.2 m ns u rfl;rw[q0h]at L G;simp only[Job.eats]at G;have I:=hV.n;have J:=hV.lt;have D:(sgT k::(A++ns)).length=1+A.length+ns.length:=by simp;omega
 have M:=hG.bt.size;exact⟨⟨by omega,by rw[D];omega,ho,hG.rd.keep b5,(C.trans (hG.bt.mono E)).trans (But.of (b5.mono (by omega))),fun r hr=>by rw[H]at hr;exact hV.ok _ (by rw[hd];exact .lopO hG.pr hr)⟩,by omega⟩
end
theorem z7h(k F:Nat)(s:UInt8)(o:Int)(hk:k=0/\F=202/\s=43/\o=5\/k=1/\F=235/\s=42/\o=6){K:LwK}{ws:List Wd}{pl:Nat->Nat}{b p:Nat}(hL:∀q,p<=q->q<=ws.length->∀w:World,Ry K ws pl b q w->Calls prog F #[.pointer (some ⟨b,0,none⟩)] w fun e w'=>q4k K ws pl b (.level (k+1)) q w e w')(w:World)(h:Ry K ws pl b p w):
  Calls prog 201 #[.pointer (some ⟨b,0,none⟩),.string ⟨#[s]⟩,.int .i64 o,.func (.func F) #[.pointer (some ⟨b,0,none⟩)] #[]] w fun e w'=>q4k K ws pl b (.level k) p w e w':=by
 have C:Tag k:=.mk;rcases hk with⟨rfl,rfl,rfl,rfl⟩|⟨rfl,rfl,rfl,rfl⟩
 all_goals
  have HL:=hid hL;have l:Hid (Calls prog ↑(q5k C 202 235) #[.pointer (some ⟨b,0,none⟩)] w fun e w'=>q4k K ws pl b (.level (↑(q5k C 0 1)+1)) p w e w'):=hL p Zl h.le w h;have z:b<w.heap.size:=h.row.lt;have Aw:=h.le;have At:=h.few;clear h hL;go_in;go_wp2_with fail;refine l.o.mono ?_;intro e w1 hG;cases hG with
  | bad pr bt=>
   have HB:Hid (q4k K ws pl b (.level ↑(q5k C 0 1)) p w (.panicked [q4v (pl (ws.length-_))]) w1):=.bad (.levB (by omega) pr) bt;clear pr bt;go_wp2;exact⟨rfl,HB.o⟩
  | @ok m ns u A c _ hg=>
   have v:Hid (k8n K ws pl b ↑(q5k C 0 1) p w (ws.length-u.length) ns (.slice A ns.length c) w1):=v4r (by omega) hg;clear hg l;generalize Ac:ns.length=nl at v;have Aj:Hid (ns.length=nl):=Ac;clear Ac;go_wp2_with fail
   go_loopw [9] (fun x wr=>∃(q:Nat)(B:List Td)(A':Option Addr)(n' c':Nat),x=.slice A' n' c'/\B.length=n'/\k8n K ws pl b ↑(q5k C 0 1) p w q B (.slice A' n' c') wr) (fun _ wr=>j0j wr b)
   case atStart=>exact⟨_,ns,A,nl,c,rfl,Aj.o,v.o⟩
   case round=>
    obtain⟨q,B,S,L,V,rfl,O,H⟩:=hrel;have U:=hid H;have N:Hid (B.length=L):=O;have Au:=H.rd.le;have hn:=H.n;have As:=H.bt.size;rw[O]at hn;by_cases I:ws[q]?=some (sgn ↑(q5k C 0 1))
    ·obtain⟨R,Af⟩:=List.getElem?_eq_some_iff.1 I
     have f:Hid (ws.drop q=sgn ↑(q5k C 0 1)::ws.drop (q+1)):=by
      show _=_;rw[List.drop_eq_getElem_cons R,Af]
     have HH:Hid (Calls prog 150 #[.pointer (some ⟨b,0,none⟩),.string ⟨#[↑(sel C (43:UInt8) 42)]⟩] wr fun e w'=>e=.returned (.bool true)/\Ry K ws pl b (q+1) w'/\But wr b wr w'):=q7i H.rd (sgn ↑(q5k C 0 1)) I;clear H O I Af;go_wp2_with fail;refine HH.o.mono ?_;rintro e E⟨rfl,h2,b2⟩;have Z:Hid (But wr b wr E):=b2;have Ax:=b2.size;have Ao:b<E.heap.size:=h2.row.lt
     have t:Hid (∃M,E.alloc (.cells #[.int .i64 ↑(sel C (5:Int) 6),.string ⟨#[]⟩,.int .i64 0] 71)=M/\Calls prog ↑(q5k C 202 235) #[.pointer (some ⟨b,0,none⟩)] M (fun e w'=>q4k K ws pl b (.level (↑(q5k C 0 1)+1)) (q+1) M e w')/\q0w E (.slice (some ⟨E,0,none⟩) 1 1) [sgT ↑(q5k C 0 1)] M/\q0w w (.slice S L V) B M/\But w b w M/\M.heap.size=E.heap.size+1):=by
      refine⟨_,rfl,HL.o (q+1) (by have:=U.o.lt;omega) (by omega) _ (h2.keep (q4c E _)),q0w.one E (sgT ↑(q5k C 0 1)),?_,(U.o.bt.trans (Z.o.mono As)).alloc (by omega) _,World.size_alloc ..⟩;have ho:=U.o.o.but2 Z.o z;exact ho.kept fun g _ h5=>Lib.alloc_old E _ g h5
     clear h2 b2 HH;go_wp2_with fail;obtain⟨M,Ah,Q,Ag,Ad,y,Av⟩:=t.o;rw[Ah];have Am:Hid (q0w E (.slice (some ⟨E,0,none⟩) 1 1) [sgT ↑(q5k C 0 1)] M):=Ag;have Ak:Hid (q0w w (.slice S L V) B M):=Ad;have a:Hid (But w b w M):=y;clear Ag Ad y t Ah;refine Q.mono ?_;clear Q;intro e D hG;cases hG with
     | @bad u4 _ pr bt=>
      have HB:Hid (q4k K ws pl b (.level ↑(q5k C 0 1)) p w (.panicked [q4v (pl (ws.length-u4.length))]) D):=.bad (U.o.ok _ (by rw[f.o];exact .lopB pr)) (a.o.trans (bt.mono (by omega)));clear pr bt;go_wp2;exact⟨rfl,HB.o⟩
     | @ok m4 ns4 u4 A4 c4 _ hg=>
      have HG:=hid hg;have Ay:=hg.bt.size;have Ab:=hg.n;rw[q0h]at Ab;have An:Hid (q0w E (.slice (some ⟨E,0,none⟩) 1 1) [sgT ↑(q5k C 0 1)] D):=Am.o.but2 hg.bt Ao;have r:Hid (q0w w (.slice S L V) B D):=Ak.o.but2 hg.bt z
      have Al:Hid (∀W,Below D D W->W.heap[D.heap.size]?=some (.cells #[.slice (some ⟨E,0,none⟩) 1 1,.slice S L V,.slice A4 ns4.length c4] 51 (0,0))->y3r W (some ⟨D,0,none⟩) [[sgT ↑(q5k C 0 1)],B,ns4]):=by
       intro W X hk;have Y:D.heap.size<W.heap.size:=(Array.getElem?_eq_some_iff.1 hk).1;have G:∀i,W.cell? ⟨D,i,none⟩=#[Value.slice (some ⟨E,0,none⟩) 1 1,.slice S L V,.slice A4 ns4.length c4][i]?:=fun i=>by simp[World.cell?,hk]
       intro i hi;have h3:i=0\/i=1\/i=2:=by simp at hi;omega
       have e1:=k4x r.o;have e2:=k4x HG.o.o;rcases h3 with rfl|rfl|rfl
       ·exact⟨D.heap.size,0,some ⟨E,0,none⟩,1,rfl,Y,G 0,Nat.le_refl _,An.o.tds.W X,fun e=>by cases e⟩
       ·exact⟨D.heap.size,0,S,V,rfl,Y,by rw[show(([[sgT ↑(q5k C 0 1)],B,ns4]:List (List Td))[1]).length=L from N.o];exact G 1,e1.2.1,e1.2.2.W X,fun e=>by
         have:=r.o.none.2 e
         exact⟨by show B.length=0;rw[N.o];exact this.1,this.2⟩⟩
       ·exact⟨D.heap.size,0,A4,c4,rfl,Y,G 2,e2.2.1,e2.2.2.W X,fun e=>HG.o.o.none.2 e⟩
      have P:[[sgT ↑(q5k C 0 1)],B,ns4].flatten=sgT ↑(q5k C 0 1)::(B++ns4):=by simp
      have J:(sgT ↑(q5k C 0 1)::(B++ns4)).length=1+L+ns4.length:=by rw[List.length_cons,List.length_append,N.o];omega
      have d:Hid (∀W,Below D D W->W.heap[D.heap.size]?=some (.cells #[.slice (some ⟨E,0,none⟩) 1 1,.slice S L V,.slice A4 ns4.length c4] 51 (0,0))->Calls prog 234 #[.slice (some ⟨D,0,none⟩) 3 3] W fun e w'=>∃A c',e=.returned (.slice A (1+L+ns4.length) c')/\k8n K ws pl b ↑(q5k C 0 1) p w (ws.length-u4.length) (sgT ↑(q5k C 0 1)::(B++ns4)) (.slice A (1+L+ns4.length) c') w'/\q<ws.length-u4.length):=by
       intro W X hk;have h9:=k5p [[sgT ↑(q5k C 0 1)],B,ns4] (some ⟨D,0,none⟩) 3 W (Al.o W X hk) (by rw[P,J];omega) (by rw[P,J];omega) (by simp);rw[P,J]at h9;refine h9.mono ?_;rintro e w6⟨A6,c6,rfl,Aq,Ap⟩;have Ar:=X.size;exact⟨A6,c6,rfl,y2a U.o R f.o a.o (by omega) HG.o (X.trans (Ap.mono Ar)) (Aq.down (by omega))⟩
      have j:=(show Hid (_=_)from J);clear hg P J Ab;generalize ns4.length=n4 at d j⊢;go_wp2_with fail;refine(d.o _ (q4c D _) (heap_alloc_new D _)).mono ?_;rintro e w6⟨A6,c6,rfl,h6,Ae⟩;have H6:=hid (And.intro h6 Ae);clear h6 Ae;go_wp2;refine⟨⟨_,_,A6,_,c6,rfl,j.o,H6.o.1⟩,?_⟩;rw[H6.o.1.rd.len_eq,U.o.rd.len_eq]
      have:=H6.o.2
      omega
    ·have Ai:Hid ((ws.drop q).head?≠some (sgn ↑(q5k C 0 1))):=by
      show _≠_;rw[q2n];exact I
     have HH:Hid (Calls prog 150 #[.pointer (some ⟨b,0,none⟩),.string ⟨#[↑(sel C (43:UInt8) 42)]⟩] wr fun e w'=>e=.returned (.bool false)/\w'=wr):=q8f H.rd (sgn ↑(q5k C 0 1)) (by decide) I;clear H O I;go_wp2_with fail;refine HH.o.mono ?_;rintro e E⟨rfl,rfl⟩;go_wp2;go_ret;have H:=U.o;obtain rfl:=N.o;have Aa:(ws.drop q).length=ws.length-q:=q0h;refine .ok (m:=0) (u:=ws.drop q) ⟨H.ok _ (.lopE Ai.o),H.o,?_,?_,H.bt⟩
     ·rw[Aa,q0h];have:=H.n;omega
     ·rw[Aa,show ws.length-(ws.length-q)=q by omega];exact H.rd
theorem v1p{K:LwK}{ws:List Wd}{pl:Nat->Nat}{b p:Nat}(hL:∀q,p<=q->q<=ws.length->y3u K ws pl b q):j1w K ws pl b p:=by
 intro w h;have G:∀(fn:Fn)(first cap:Array Value)(w:World),(Instr.makeFunc fn first cap).run prog w=.ok (.func fn first cap) w:=fun _ _ _ _=>rfl
 have D:Hid (Calls prog 201 #[.pointer (some ⟨b,0,none⟩),.string ⟨#[43]⟩,.int .i64 5,.func (.func 202) #[.pointer (some ⟨b,0,none⟩)] #[]] w fun e w'=>q4k K ws pl b (.level 0) p w e w'):=z7h 0 _ _ _ (.inl ⟨rfl,rfl,rfl,rfl⟩) hL w h;clear h hL;go_in;go_wp2_with fail;refine D.o.mono ?_;intro e C E;cases E with
 | @bad u _ pr bt=>
  have B:Hid (q4k K ws pl b (.level 0) p w (.panicked [q4v (pl (ws.length-u.length))]) C):=.bad pr bt;clear pr bt;go_wp2;exact⟨rfl,B.o⟩
 | @ok m ns u A c _ hg=>
  have B:Hid (q4k K ws pl b (.level 0) p w (.returned (.slice A ns.length c)) C):=.ok hg;clear hg;generalize ns.length=nl at B⊢;go_wp2;go_ret;exact B.o
theorem k2u{K:LwK}{ws:List Wd}{pl:Nat->Nat}{b p:Nat}(hL:∀q,p<=q->q<=ws.length->y3s K ws pl b q):y3u K ws pl b p:=by
 intro w h;have G:∀(fn:Fn)(first cap:Array Value)(w:World),(Instr.makeFunc fn first cap).run prog w=.ok (.func fn first cap) w:=fun _ _ _ _=>rfl
 have D:Hid (Calls prog 201 #[.pointer (some ⟨b,0,none⟩),.string ⟨#[42]⟩,.int .i64 6,.func (.func 235) #[.pointer (some ⟨b,0,none⟩)] #[]] w fun e w'=>q4k K ws pl b (.level 1) p w e w'):=z7h 1 _ _ _ (.inr ⟨rfl,rfl,rfl,rfl⟩) hL w h;clear h hL;go_in;go_wp2_with fail;refine D.o.mono ?_;intro e C E;cases E with
 | @bad u _ pr bt=>
  have B:Hid (q4k K ws pl b (.level 1) p w (.panicked [q4v (pl (ws.length-u.length))]) C):=.bad pr bt;clear pr bt;go_wp2;exact⟨rfl,B.o⟩
 | @ok m ns u A c _ hg=>
  have B:Hid (q4k K ws pl b (.level 1) p w (.returned (.slice A ns.length c)) C):=.ok hg;clear hg;generalize ns.length=nl at B⊢;go_wp2;go_ret;exact B.o
end Go.Proofs.YthcpdohdppkmkaaGreatDoor
