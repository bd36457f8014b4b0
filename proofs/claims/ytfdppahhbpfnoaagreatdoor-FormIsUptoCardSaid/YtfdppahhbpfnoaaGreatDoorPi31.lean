import Derived.Test.YtfdppahhbpfnoaaGreatDoorPi28
import Derived.Test.YtfdppahhbpfnoaaGreatDoorPi27
open Go.Proofs.Tryz
namespace Go.Proofs.YtfdppahhbpfnoaaGreatDoor
open Go Go.RowKit
theorem v3b:(prog.info? 45).map (fun i=>(i.zero,i.size,i.bytes))=some (some (.slice none 0 0),1,24):=by kernel_rfl
def q7q(B:Nat)(v:Value)(ls:List (List Int))(g:Option Nat)(w:World):Prop:=
 ∃xs:List Value,w.ownsRow B 45 1 v ls.length xs/\∀i(h:i<ls.length),∃a c,xs[i]?=some (.slice a ls[i].length c)/\w.ownsRow B 3 1 (.slice a ls[i].length c) ls[i].length (q0j ls[i])/\(∀k,(Value.slice a ls[i].length c).ownBlock=some k->g≠some k)
theorem q7q.nil(B:Nat)(g:Option Nat)(w:World):q7q B (.slice none 0 0) [] g w:=⟨[],World.ownsRow_nil _ _ _ _,fun i h=>by simp at h⟩
theorem q7q.kept{B:Nat}{v:Value}{ls:List (List Int)}{g g':Option Nat}{w w':World}(h:q7q B v ls g w)(hb:∀k,k<w.heap.size->(∃cur,w.heap[k]?=some (.cells cur 45 (0,0)))->w'.heap[k]?=w.heap[k]?)(hc:∀k,k<w.heap.size->(∃cur,w.heap[k]?=some (.cells cur 3 (0,0)))->g≠some k->w'.heap[k]?=w.heap[k]?/\g'≠some k):q7q B v ls g' w':=by
 obtain⟨J,G,I⟩:=h;refine⟨J,z9c G fun k hk=>?_,fun i hi=>?_⟩
 ·obtain⟨A,C⟩:=q8u G hk;exact hb k A C
 ·obtain⟨a,c,H,D,E⟩:=I i hi;refine⟨a,c,H,z9c D fun k hk=>?_,fun k hk=>?_⟩
  ·obtain⟨A,C⟩:=q8u D hk;exact(hc k A C (E k hk)).1
  ·obtain⟨A,C⟩:=q8u D hk;exact(hc k A C (E k hk)).2
theorem q7q.W{B:Nat}{v:Value}{ls:List (List Int)}{g:Option Nat}{w w':World}(h:q7q B v ls g w)(hb:Below w w w'):q7q B v ls g w':=
 h.kept (fun k h1 _=>hb.block k h1) (fun k h1 _ h3=>⟨hb.block k h1,h3⟩)
theorem q7q.push{B:Nat}{v v':Value}{ls:List (List Int)}{l:List Int}{g:Option Nat}{w w':World}{xs:List Value}{a':Option Addr}{c':Nat}(h1:w.ownsRow B 45 1 v ls.length xs)
  (h2:∀i(h:i<ls.length),∃a c,xs[i]?=some (.slice a ls[i].length c)/\w.ownsRow B 3 1 (.slice a ls[i].length c) ls[i].length (q0j ls[i])/\(∀k,(Value.slice a ls[i].length c).ownBlock=some k->g≠some k))
  (hl:w.ownsRow B 3 1 (.slice a' l.length c') l.length (q0j l)) (G:∀k,(Value.slice a' l.length c').ownBlock=some k->g≠some k) (hg:w.grownBy w' v.ownBlock) (D:w'.ownsRow B 45 1 v' (ls.length+1) (xs++[.slice a' l.length c'])):q7q B v' (ls++[l]) g w':=by
 have L:xs.length=ls.length:=by have:=h1.1;omega
 have A:∀{a c}{l:List Int},w.ownsRow B 3 1 (.slice a l.length c) l.length (q0j l)->w'.ownsRow B 3 1 (.slice a l.length c) l.length (q0j l):=fun{a c l}h=>
  z9c h fun k hk=>hg.block k (q8u h hk).1 fun e=>j8j h h1 (by decide) hk e.symm rfl
 refine⟨xs++[.slice a' l.length c'],by rw[List.length_append];exact D,fun i hi=>?_⟩;by_cases C:i<ls.length
 ·obtain⟨a,c,I,J,K⟩:=h2 i C;have E:(ls++[l])[i]=ls[i]:=List.getElem_append_left C;rw[E];exact⟨a,c,by rw[List.getElem?_append_left (by omega)];exact I,A J,K⟩
 ·have H:i=ls.length:=by simp at hi;omega
  subst H;have E:(ls++[l])[ls.length]=l:=by simp
  rw[E];exact⟨a',c',by rw[List.getElem?_append_right (by omega),L];simp,A hl,G⟩
theorem q7q.any{B B':Nat}{v:Value}{ls:List (List Int)}{g:Option Nat}{w:World}(h:q7q B v ls g w)(hB:B'<=B):q7q B' v ls none w:=by
 obtain⟨G,D,E⟩:=h;refine⟨G,z9a D hB,fun i hi=>?_⟩;obtain⟨a,c,A,C,_⟩:=E i hi;exact⟨a,c,A,z9a C hB,fun k _=>by simp⟩
def k0c(w:World)(a:Option Addr)(ls:List (List Int)):Prop:=
 ∀i(h:i<ls.length),∃b o a' c',a=some ⟨b,o,none⟩/\b<w.heap.size/\w.cell? ⟨b,o+i,none⟩=some (.slice a' ls[i].length c')/\ls[i].length<=c'/\q7r w a' ls[i]
theorem k0c.W{w w':World}{a:Option Addr}{ls:List (List Int)}(h:k0c w a ls)(hb:Below w w w'):k0c w' a ls:=by
 intro i H;obtain⟨b,o,B,C,e,A,D,E,G⟩:=h i H;exact⟨b,o,B,C,e,Nat.lt_of_lt_of_le A hb.size,((q1y hb).1 _ _ A).trans D,E,G.W hb⟩
theorem q7q.ways{B:Nat}{a:Option Addr}{n c:Nat}{ls:List (List Int)}{g:Option Nat}{w:World}(h:q7q B (.slice a n c) ls g w):n=ls.length/\k0c w a ls:=by
 obtain⟨S,E,N⟩:=h;have V:S.length=ls.length:=by have:=E.1;omega
 rcases E.2 with⟨C,M⟩|⟨L,U,J,C,_,G,O,_,P,A⟩
 ·simp only[Value.slice.injEq]at C;obtain⟨rfl,rfl,rfl⟩:=C;exact⟨M.symm,fun i hi=>by omega⟩
 ·simp only[Value.slice.injEq]at C;obtain⟨rfl,rfl,rfl⟩:=C;refine⟨rfl,fun i hi=>?_⟩;obtain⟨H,I,D,K,_⟩:=N i hi;obtain⟨_,_,Q,R,_⟩:=z9b K;refine⟨L,0,H,I,rfl,(Array.getElem?_eq_some_iff.1 G).1,?_,Q,R⟩;rw[<-A,List.getElem?_take_of_lt (by omega)]at D;rw[Nat.zero_add];simp only[World.cell?,G];simpa using D
set_option maxRecDepth 100000
set_option maxHeartbeats 4000000
def v8s(g:Option Nat)(w:World)(a:Option Addr)(ws:List Int):Prop:=
 ∀i(h:i<ws.length),∃b o,a=some ⟨b,o,none⟩/\b<w.heap.size/\some b≠g/\w.cell? ⟨b,o+i,none⟩=some (.int .i64 ws[i])
theorem v8s.ints{g:Option Nat}{w:World}{a:Option Addr}{ws:List Int}(h:v8s g w a ws):q7r w a ws:=by
 intro i B;obtain⟨b,o,e,A,_,c⟩:=h i B;exact⟨b,o,e,A,c⟩
def q1x(g:Option Nat)(w:World)(a:Option Addr)(ls:List (List Int)):Prop:=
 ∀i(h:i<ls.length),∃b o a' c',a=some ⟨b,o,none⟩/\b<w.heap.size/\some b≠g/\w.cell? ⟨b,o+i,none⟩=some (.slice a' ls[i].length c')/\ls[i].length<=c'/\v8s g w a' ls[i]/\(a'=none->ls[i]=[]/\c'=0)
theorem q1x.kept{g:Option Nat}{w w':World}{a:Option Addr}{ls:List (List Int)}(h:q1x g w a ls)(hs:w.heap.size<=w'.heap.size)(hk:∀k,k<w.heap.size->some k≠g->w'.heap[k]?=w.heap[k]?):q1x g w' a ls:=by
 intro i O;obtain⟨b,o,E,G,e,K,C,c,L,M,N⟩:=h i O;refine⟨b,o,E,G,e,by omega,C,(World.cell?_of_block (w:=w) (a:=⟨b,o+i,none⟩) (hk b K C)).trans c,L,fun j hj=>?_,N⟩;obtain⟨A,D,I,J,B,H⟩:=M j hj;exact⟨A,D,I,by omega,B,(World.cell?_of_block (w:=w) (a:=⟨A,D+j,none⟩) (hk A J B)).trans H⟩
theorem q1x.W{g:Option Nat}{w w':World}{a:Option Addr}{ls:List (List Int)}(h:q1x g w a ls)(hb:Below w w w'):q1x g w' a ls:=h.kept hb.size fun k hk _=>hb.block k hk
theorem q1x.new{g g':Option Nat}{w:World}{a:Option Addr}{ls:List (List Int)}(h:q1x g w a ls)(hg:∀k,g'=some k->w.heap.size<=k):q1x g' w a ls:=by
 intro i L;obtain⟨b,o,B,C,e,H,O,c,I,J,K⟩:=h i L;refine⟨b,o,B,C,e,H,fun q=>by have:=hg b q.symm;omega,c,I,fun j hj=>?_,K⟩;obtain⟨A,M,E,G,N,D⟩:=J j hj;exact⟨A,M,E,G,fun q=>by have:=hg A q.symm;omega,D⟩
theorem q1x.ways{g:Option Nat}{w:World}{a:Option Addr}{ls:List (List Int)}(h:q1x g w a ls):k0c w a ls:=by
 intro i G;obtain⟨b,o,A,B,e,C,_,c,D,E,_⟩:=h i G;exact⟨b,o,A,B,e,C,c,D,E.ints⟩
theorem q7q.waysN{B:Nat}{a:Option Addr}{n c:Nat}{ls:List (List Int)}{g g':Option Nat}{w:World}(h:q7q B (.slice a n c) ls g' w)(hg:∀k,g=some k->k<B):n=ls.length/\q1x g w a ls:=by
 obtain⟨Z,J,R⟩:=h;have f:Z.length=ls.length:=by have:=J.1;omega
 rcases J.2 with⟨D,Q⟩|⟨I,b,N,D,e,C,S,_,U,A⟩
 ·simp only[Value.slice.injEq]at D;obtain⟨rfl,rfl,rfl⟩:=D;exact⟨Q.symm,fun i hi=>by omega⟩
 ·simp only[Value.slice.injEq]at D;obtain⟨rfl,rfl,rfl⟩:=D;refine⟨rfl,fun i hi=>?_⟩;obtain⟨K,L,G,H,_⟩:=R i hi;obtain⟨_,_,W,X,Y⟩:=z9b H;refine⟨I,0,K,L,rfl,(Array.getElem?_eq_some_iff.1 C).1,fun q=>by have:=hg I q.symm;omega,?_,W,fun j hj=>?_,Y⟩
  ·rw[<-A,List.getElem?_take_of_lt (by omega)]at G;rw[Nat.zero_add];simp only[World.cell?,C];simpa using G
  ·obtain⟨E,V,O,P,M⟩:=X j hj;subst O;refine⟨E,V,rfl,P,fun q=>?_,M⟩;have d:=(H.lt E rfl).1
   have:=hg E q.symm
   omega
def y6t(B:Nat)(g0:Option Nat)(ls ms:List (List Int))(c:Int)(w:World)(vo vi:Value)(wr:World):Prop:=
 ∃(k:Nat)(av:Option Addr)(cv:Nat),k<=ms.length/\vi=.int .i64 k/\vo=.slice av (ls.length+k) cv/\q7q B (.slice av (ls.length+k) cv) (ls++(ms.take k).map (c::·)) none wr/\w.grownBy wr g0/\((Value.slice av (ls.length+k) cv).ownBlock=g0\/∀j,(Value.slice av (ls.length+k) cv).ownBlock=some j->w.heap.size<=j)
theorem q6i(B:Nat)(v:Value)(ls ms:List (List Int))(c:Int)(a:Option Addr)(ca:Nat)(w:World)(hG:q7q B v ls none w)(hM:q1x v.ownBlock w a ms)(hB:B<=w.heap.size)(hl:ls.length+ms.length<=1000)(hx:∀x∈ms,x.length<=1000):
  Calls prog 149 #[v,.int .i64 c,.slice a ms.length ca] w fun e w'=>∃v',e=.returned v'/\q7q B v' (ls++ms.map (c::·)) none w'/\w.grownBy w' v.ownBlock/\(v'.ownBlock=v.ownBlock\/∀k,v'.ownBlock=some k->w.heap.size<=k):=by
 obtain⟨i1,Ai,Al,Am,An⟩:=info_parts v3b;have Ad:Hid (q7q B v ls none w):=hG;have HM:Hid (q1x v.ownBlock w a ms):=hM;have HX:Hid (∀x∈ms,x.length<=1000):=hx
 obtain⟨S,V,rfl⟩:∃R U,v=.slice R ls.length U:=by
  obtain⟨xs,y,_⟩:=hG;rcases y.2 with⟨d,h0⟩|⟨g,c,Ah,d,_⟩
  ·exact⟨none,0,by rw[d,h0]⟩
  ·exact⟨_,c,d⟩
 generalize Aa:(Value.slice S ls.length V).ownBlock=g0 at HM;have HV:Hid ((Value.slice S ls.length V).ownBlock=g0):=Aa;clear hG hM hx Aa;go_in;go_wp2
 go_loopw [0,7] (fun vo vi wr=>y6t B g0 ls ms c w vo vi wr) (fun _ vi _=>ms.length-(intOf vi).toNat)
 case atStart=>exact⟨0,S,V,Nat.zero_le _,rfl,rfl,by simpa using Ad.o,⟨rfl,rfl,rfl,Nat.le_refl _,fun _ _ _=>rfl⟩,.inl HV.o⟩
 case round=>
  obtain⟨k,R,U,hk,rfl,rfl,hG,X,z⟩:=hrel;have HG:Hid (q7q B (.slice R (ls.length+k) U) (ls++(ms.take k).map (c::·)) none wr):=hG;have E:Hid (w.grownBy wr g0):=X;have P:Hid ((Value.slice R (ls.length+k) U).ownBlock=g0\/∀j,(Value.slice R (ls.length+k) U).ownBlock=some j->w.heap.size<=j):=z;have Ak:=X.size;clear hG X z;by_cases Z:k<ms.length
  ·have Ap:(k:Int)<(ms.length:Int):=by omega
   obtain⟨b1,o1,a4,d1,ea,Ao,_,c1,_,i4,I⟩:=(HM.o.kept Ak fun j hj hne=>E.o.block j hj hne) k Z;subst ea;have Aj:=HX.o _ (List.getElem_mem Z);have b:(ms.take (k+1)).map (c::·)=(ms.take k).map (c::·)++[c::ms[k]]:=by rw[List.take_add_one,List.getElem?_eq_getElem Z,List.map_append];rfl
   have n:Hid (q7r wr a4 ms[k]):=i4.ints;generalize ms[k]=m at c1 Aj b n I;have Ag:Hid ((ms.take (k+1)).map (c::·)=(ms.take k).map (c::·)++[c::m]):=b;have p:Hid (a4=none->m=[]/\d1=0):=I
   have HO:Hid ((wr.alloc (.cells #[.int .i64 c] 3)).ownsRow wr.heap.size 3 1 (.slice (some ⟨wr,0,none⟩) 1 1) 1 (q0j [c])):=
    ⟨rfl,.inr ⟨wr.heap.size,1,#[.int .i64 c],rfl,Nat.le_refl _,heap_alloc_new wr _,Nat.le_refl _,by unfold maxLen;decide,rfl,rfl⟩⟩
   clear i4 I b;go_wp2_with(at_builtin;refine z1f rfl _ _ rfl wr.heap.size _ _ [c] rfl HO.o a4 m d1 rfl (n.o.W ((Below.refl _ wr).alloc Zl _)) p.o (by omega) (by simp) ?_);intro v5 K C D;have L:Below wr wr K:=((Below.refl _ wr).alloc Zl _).grown D (by simp) (fun j hj=>by simp only[Value.ownBlock,Option.some.injEq]at hj;omega)
   obtain⟨a5,c5,rfl⟩:∃a5 c5,v5=.slice a5 (c::m).length c5:=by
    rcases C.2 with⟨d,h0⟩|⟨g,q,Ah,d,_⟩
    ·omega
    ·exact⟨_,q,by rw[d];congr 1;simp;omega⟩
   have Q:Hid (K.ownsRow B 3 1 (.slice a5 (c::m).length c5) (c::m).length (q0j (c::m))):=by
    show K.ownsRow _ _ _ _ _ _;have e1:(c::m).length=1+m.length:=by simp;omega
    rw[e1]at C⊢;exact z9a C (by omega)
   obtain⟨xs,hx,N⟩:=HG.o.W L;have Y:(ls++(ms.take k).map (c::·)).length=ls.length+k:=by simp;omega
   have Af:Hid ((ls++(ms.take k).map (c::·)).length=ls.length+k):=Y;have r:Hid (K.ownsRow B 45 1 (.slice R (ls.length+k) U) (ls++(ms.take k).map (c::·)).length xs):=hx
   have s:Hid (K.ownsRow B 45 1 (.slice R (ls.length+k) U) (ls.length+k) xs):=by
    have:=hx
    rw[Y]at this;exact this
   have M:=(show Hid (∀i(h:i<(ls++(ms.take k).map (c::·)).length),∃a t,xs[i]?=some (.slice a (ls++(ms.take k).map (c::·))[i].length t)/\K.ownsRow B 3 1 (.slice a (ls++(ms.take k).map (c::·))[i].length t) (ls++(ms.take k).map (c::·))[i].length (q0j (ls++(ms.take k).map (c::·))[i])/\(∀j,(Value.slice a (ls++(ms.take k).map (c::·))[i].length t).ownBlock=some j->(none:Option Nat)≠some j))from N);have Aq:=L.size;have G:Hid (Below wr wr K):=L;generalize Ab:(c::m).length=nl at Q;have o:Hid ((c::m).length=nl):=Ab;clear hx N C D L Y HO Ab;go_wp2_with(at_builtin;refine wpList_append_lies _ rfl _ _ 114 rfl B 45 i1 _ 1 24 Tryz.underlying114 Ai Al Am An rfl (by decide) _ _ _ rfl (s.o.alloc _) ⟨K,0,none⟩ 1 1 [.slice a5 nl c5] rfl rfl (cell_one_new K _ _) (by intro u hu;simp at hu;subst hu;rfl) (by decide) (by unfold maxLen;omega) (by omega) (by simp;omega) (K.heap.size+1) (by simp) ?_);intro g6 H w6 J A O Ac
   have Ae:Hid (q7q B (.slice (some ⟨g6,0,none⟩) (ls.length+(k+1)) H) (ls++(ms.take (k+1)).map (c::·)) none w6):=by
    show q7q _ _ _ _ _;rw[Ag.o,<-List.append_assoc];have ho:=Q.o;rw[<-o.o]at ho;refine q7q.push (r.o.alloc _) (fun i hi=>?_) (ho.alloc _) (fun _ _=>by simp) A (by rw[Af.o,o.o,<-Nat.add_assoc];exact J);obtain⟨a',t,e1,e2,e3⟩:=M.o i hi;exact⟨a',t,e1,e2.alloc _,e3⟩
   have l:Hid (w.grownBy w6 g0):=by
    refine⟨A.os.trans (G.o.os.trans E.o.os),A.tape.trans (G.o.tape.trans E.o.tape),A.output.trans (G.o.output.trans E.o.output),?_,fun j hj hne=>?_⟩
    ·have:=A.size
     simp at this;omega
    ·refine(A.block j (by simp;omega) ?_).trans ((Below.heap_alloc _ _ _ (by omega)).trans ((G.o.block j (by omega)).trans (E.o.block j hj hne)));intro e;rcases P.o with h|h
     ·exact hne (e.trans h)
     ·have:=h j e.symm
      omega
   have f:Hid ((Value.slice (some ⟨g6,0,none⟩) (ls.length+(k+1)) H).ownBlock=g0\/∀j,(Value.slice (some ⟨g6,0,none⟩) (ls.length+(k+1)) H).ownBlock=some j->w.heap.size<=j):=by
    rcases O with h|h
    ·rcases P.o with y|y
     ·exact .inl (h.symm.trans y)
     ·exact .inr fun j hj=>y j (h.trans hj)
    ·refine .inr fun j hj=>?_
     simp only[Value.ownBlock,Option.some.injEq]at hj;omega
   clear J A O Ac r s M Q G;go_wp2
   go_roundw
   case rel=>exact⟨k+1,_,_,by omega,by go_num,rfl,Ae.o,l.o,f.o⟩
   case measure=>simp[intOf];omega
  ·obtain rfl:k=ms.length:=by omega
   go_wp2;go_ret;have hG:=HG.o;rw[List.take_length]at hG;exact⟨_,rfl,hG,E.o,P.o⟩
theorem y7s(B b:Nat)(ds:List Nd)(a:Option Addr)(cap:Nat)(hl:ds.length<=400)(tx:ByteArray)(n:Int)(A C:List Nd)(f g:Nat->List Int->Except Int (List UInt8 × List Int))(hA:q6b B b ds a cap A f)(hC:q6b B b ds a cap C g)(hE:∀i r,ds.drop i=A++r->q0n ds i 1=some (i+A.length))(Ab:0<C.length):q6b B b ds a cap (⟨9,tx,n⟩::(A++C)) (q4g f g):=by
 intro i r R K wa wc s w hd q hI J p V Aa;obtain⟨hi,e1,e2⟩:=q0s (x:=⟨9,tx,n⟩) (r:=(A++C)++r) hd;obtain⟨Q,Y,ea,Ae,d1,d2,d3⟩:=q i hi;subst ea;rw[e1]at d1 d2 d3;dsimp only at d1 d2 d3;simp only[List.length_cons,List.length_append]at V Aa;have k:Hid (ds.drop (i+1)=(A++C)++r):=e2;have o:Hid (q5k B w (some ⟨Q,Y,none⟩) ds):=q;have d:Hid (q1h B w wa K):=hI;have P:Hid (q3s B b (.slice (some ⟨Q,Y,none⟩) ds.length cap) (.slice wa K.length wc) s 0 w):=p;have v:=p.bsize;obtain⟨h0,h1,c0,h,c2,c3,f1,f2,f3⟩:=p;have Ac:Q<w.heap.size:=by omega
 have Z:Hid (∀O:Obj,Below B w (w.alloc O)):=fun O=>(Below.refl _ w).alloc v O
 have HA:Hid (q6b B b ds (some ⟨Q,Y,none⟩) cap A f):=hA;have HC:Hid (q6b B b ds (some ⟨Q,Y,none⟩) cap C g):=hC;have HX:Hid (((i+1:Nat):Int)=(i:Int)+1):=(show _=_ by omega);rw[List.append_assoc]at k;have HE:Hid (q0n ds (i+1) 1=some (i+1+A.length)):=hE (i+1) (C++r) k.o;have S:Hid (ds.drop (i+1+A.length)=C++r):=q7w k.o
 have HJ:Hid (i+1+A.length<ds.length):=(show _<_ by
  have h1:=congrArg List.length S.o;simp at h1
  omega)
 clear hd e1 e2 q hI hA hC hE
 match K,d,P,J,h with
 | [],d,P,J,h=>
  simp only[List.length_nil]at P h;go_in;go_wp2_with fail;refine(z3s (P.o.alloc _)).mono ?_;rintro e N⟨rfl,D,E⟩;have I:Hid (q3s B b (.slice (some ⟨Q,Y,none⟩) ds.length cap) (.slice wa 0 wc) s 2 N):=D;obtain⟨_,_,_,_,_,g3,_,_,_⟩:=D;go_wp2;refine bodyPost_ret (results_none rfl _ _ _) rfl ?_;exact⟨rfl,⟨by decide,_,_,I.o⟩,(Z.o _).trans E⟩
 | c::K,d,P,J,h=>
  simp only[List.length_cons]at P h J;by_cases l:c=0
  ·subst l;go_in;go_wp2_with fail;refine(q5b 0 K (P.o.alloc _) (d.o.W (Z.o _)) J).mono ?_;rintro e N⟨rfl,⟨G,M,D,L,X⟩,E⟩;have I:Hid (q3s B b (.slice (some ⟨Q,Y,none⟩) ds.length cap) (.slice G K.length M) s 0 N):=D;have U:Hid (q1h B N G K):=L;have H:Hid (Below B w N):=(Z.o _).trans E;obtain⟨_,_,_,_,_,g3,_,_,_⟩:=D;clear L E;go_wp2_with fail;rw[<-HX.o];refine(HA.o (i+1) (C++r) R K G M s _ k.o (o.o.W H.o) U.o X I.o (by omega) (by omega)).mono ?_;rintro e w3⟨rfl,y,t⟩;go_wp2
   go_end0
   refine⟨rfl,?_,H.o.trans t⟩;rw[q4g,if_pos rfl];exact y
  ·have Ad:(c==0)=false:=by simp[l]
   have m:Hid (¬c=0):=l;clear l;go_in;go_wp2_with fail;refine(q5b c K (P.o.alloc _) (d.o.W (Z.o _)) J).mono ?_;rintro e N⟨rfl,⟨G,M,D,L,X⟩,E⟩;have I:Hid (q3s B b (.slice (some ⟨Q,Y,none⟩) ds.length cap) (.slice G K.length M) s 0 N):=D;have U:Hid (q1h B N G K):=L;have H:Hid (Below B w N):=(Z.o _).trans E;obtain⟨_,k1,k0,_,_,g3,_,_,_⟩:=D;clear L E;go_wp2_with fail;rw[<-HX.o];refine(q4w ds _ cap hl (ds.length+1) (i+1) N ((o.o.W H.o).nods I.o.bsize) (by omega) (by omega)).mono ?_;rintro e w3⟨rfl,rfl⟩;rw[HE.o];have hz:v6y (some (i+1+A.length))=((i+1+A.length:Nat):Int):=rfl;rw[hz];generalize hj:i+1+A.length=j at S HJ⊢;clear hz hj;go_wp2_with fail;refine(HC.o j r R K G M s _ S.o (o.o.W H.o) U.o X I.o (by omega) (by omega)).mono ?_;rintro e w4⟨rfl,z,u⟩;go_wp2
   go_end0
   refine⟨rfl,?_,H.o.trans u⟩;rw[q4g,if_neg m.o];exact z
theorem y7p(B b:Nat)(ds:List Nd)(a:Option Addr)(cap:Nat)(hl:ds.length<=400)(tx:ByteArray)(n:Int)(A C:List Nd)(f g:Nat->List Int->Except Int (List UInt8 × List Int))(hA:q6b B b ds a cap A f)(hC:q6b B b ds a cap C g)(hE:∀i r,ds.drop i=A++r->q0n ds i 1=some (i+A.length))(Am:0<C.length)(h:∀deep ws u v,f deep ws=.ok (u,v)->deep+8*A.length<=3300->u.length<=4000*A.length):q6b B b ds a cap (⟨6,tx,n⟩::(A++C)) (q6z f g):=by
 intro i r deep ws wa wc s w hd hN hI m hL R Ah;obtain⟨hi,e1,e2⟩:=q0s (x:=⟨6,tx,n⟩) (r:=(A++C)++r) hd;obtain⟨N,X,ea,Ao,d1,d2,d3⟩:=hN i hi;subst ea;rw[e1]at d1 d2 d3;dsimp only at d1 d2 d3;simp only[List.length_cons,List.length_append]at R Ah;have Y:Hid (ds.drop (i+1)=(A++C)++r):=e2;have V:Hid (q5k B w (some ⟨N,X,none⟩) ds):=hN;have HI:Hid (q1h B w wa ws):=hI;have HL:Hid (q3s B b (.slice (some ⟨N,X,none⟩) ds.length cap) (.slice wa ws.length wc) s 0 w):=hL;have Ae:=hL.bsize;obtain⟨h0,h1,c0,c1,c2,c3,f1,f2,f3⟩:=hL;have An:N<w.heap.size:=by omega
 have U:Hid (∀O:Obj,Below B w (w.alloc O)):=fun O=>(Below.refl _ w).alloc Ae O
 have HA:Hid (q6b B b ds (some ⟨N,X,none⟩) cap A f):=hA;have HC:Hid (q6b B b ds (some ⟨N,X,none⟩) cap C g):=hC;have HX:Hid (((i+1:Nat):Int)=(i:Int)+1):=(show _=_ by omega);rw[List.append_assoc]at Y;have HE:Hid (q0n ds (i+1) 1=some (i+1+A.length)):=hE (i+1) (C++r) Y.o;have L:Hid (ds.drop (i+1+A.length)=C++r):=q7w Y.o
 have HJ:Hid (i+1+A.length<ds.length):=(show _<_ by
  have h1:=congrArg List.length L.o;simp at h1
  omega)
 clear hd e1 e2 hN hI hA hC hE;cases d:f deep ws with
 | error e0=>
  have I:Hid (f deep ws=.error e0):=d;clear d;go_in;go_wp2_with fail;rw[<-HX.o];refine(HA.o (i+1) (C++r) deep ws wa wc s _ Y.o (V.o.W (U.o _)) (HI.o.W (U.o _)) m (HL.o.alloc _) (by omega) (by omega)).mono ?_;rintro e M⟨rfl,D,K⟩;rw[I.o]at D;obtain⟨c,v',s',D⟩:=D;have J:Hid (q3s B b (.slice (some ⟨N,X,none⟩) ds.length cap) v' s' e0 M):=D;have E:Hid (Below B w M):=(U.o _).trans K;have Z:Hid (e0≠0):=c;obtain⟨_,k1,k0,_,_,_,_,_,_⟩:=D;clear K c;go_wp2_with fail;rw[<-HX.o];refine(q4w ds _ cap hl (ds.length+1) (i+1) M ((V.o.W E.o).nods J.o.bsize) (by omega) (by omega)).mono ?_;rintro e w3⟨rfl,rfl⟩;rw[HE.o];have o:v6y (some (i+1+A.length))=((i+1+A.length:Nat):Int):=rfl;rw[o];generalize hj:i+1+A.length=j at L HJ⊢;clear o hj;go_wp2_with fail;refine(j5k ds _ cap j deep M HJ.o (V.o.W E.o) J.o Z.o).mono ?_;rintro e w4⟨rfl,G,Q⟩;go_wp2
  go_end0
  refine⟨rfl,?_,E.o.trans Q⟩;rw[q6z,I.o];exact⟨Z.o,_,_,G⟩
 | ok p=>
  obtain⟨u,H⟩:=p;have I:Hid (f deep ws=.ok (u,H)):=d;have Ap:=h deep ws u H d (by omega);clear d h;go_in;go_wp2_with fail;rw[<-HX.o];refine(HA.o (i+1) (C++r) deep ws wa wc s _ Y.o (V.o.W (U.o _)) (HI.o.W (U.o _)) m (HL.o.alloc _) (by omega) (by omega)).mono ?_;rintro e M⟨rfl,D,K⟩;rw[I.o]at D;obtain⟨S,z,y,P,D,k,Ai⟩:=D;have l:y.size=s.size+u.length:=by rw[<-q0x,<-q0x,P,List.length_append]
  have Ac:Hid (y.size=s.size+u.length):=l;have Aa:Hid (y.data.toList=s.data.toList++u):=P;have J:Hid (q3s B b (.slice (some ⟨N,X,none⟩) ds.length cap) (.slice S H.length z) y 0 M):=D;have Ab:Hid (q1h B M S H):=k;have E:Hid (Below B w M):=(U.o _).trans K;obtain⟨_,k1,k0,_,_,_,_,_,_⟩:=D;clear K k l P;go_wp2_with fail;rw[<-HX.o];refine(q4w ds _ cap hl (ds.length+1) (i+1) M ((V.o.W E.o).nods J.o.bsize) (by omega) (by omega)).mono ?_;rintro e w3⟨rfl,rfl⟩;rw[HE.o];have o:v6y (some (i+1+A.length))=((i+1+A.length:Nat):Int):=rfl;rw[o];generalize hj:i+1+A.length=j at L HJ⊢;clear o hj;go_wp2_with fail;refine(HC.o j r deep H S z y _ L.o (V.o.W E.o) Ab.o Ai J.o (by omega) (by have:=Ac.o;omega)).mono ?_;rintro e w4⟨rfl,G,Q⟩;go_wp2
  go_end0
  refine⟨rfl,?_,E.o.trans Q⟩;rw[q6z,I.o];dsimp only;cases hg:g deep H with
  | error e1=>rw[hg]at G;exact G
  | ok q=>
   obtain⟨t,Aq⟩:=q;rw[hg]at G;obtain⟨Ak,Al,s2,Ad,Ag,Af,Aj⟩:=G;exact⟨Ak,Al,s2,by rw[Ad,Aa.o,List.append_assoc],Ag,Af,Aj⟩
def z7p(ds:List Nd)(a:Option Addr)(cap:Nat)(A:List Nd)(f:List (List Int)->List (List Int)):Prop:=
 ∀(i:Nat)(r:List Nd)(bs:List (List Int))(ba:Option Addr)(bc m:Nat)(w:World),ds.drop i=A++r->q1p w a ds->q1x none w ba bs->bs.length<=bc->bs.length<=301->(∀x∈bs,x.length<=m)->m+A.length<=900->
  Calls prog 94 #[.slice a ds.length cap,.int .i64 i,.slice ba bs.length bc,.int .i64 300] w fun e w'=>∃a' c',e=.returned (.slice a' (f bs).length c')/\(f bs).length<=c'/\(∀g:Option Nat,(∀k,g=some k->k<w.heap.size)->q1x g w ba bs->q1x g w' a' (f bs))/\Below w w w'
def y2s(A:List Nd)(f:List (List Int)->List (List Int)):Prop:=
 (∀bs,bs.length<=301->(f bs).length<=301)/\∀bs m,(∀x∈bs,x.length<=m)->∀x∈f bs,x.length<=m+A.length
theorem q1x.take{g:Option Nat}{w:World}{a:Option Addr}{ls:List (List Int)}(h:q1x g w a ls)(n:Nat):q1x g w a (ls.take n):=by
 intro i B;have A:i<ls.length:=by simp at B;omega
 have e:(ls.take n)[i]=ls[i]:=List.getElem_take;rw[e];exact h i A
theorem q7q.o{B:Nat}{v:Value}{ls:List (List Int)}{w:World}(h:q7q B v ls none w):∃a c,v=.slice a ls.length c/\ls.length<=c/\(ls.length=0\/∃k,a=some ⟨k,0,none⟩)/\(∀g:Option Nat,(∀k,g=some k->k<B)->q1x g w a ls)/\(∀k,v.ownBlock=some k->B<=k/\k<w.heap.size):=by
 have G:=h;obtain⟨L,I,_⟩:=G;rcases I.2 with⟨rfl,H⟩|⟨K,D,E,rfl,J,A,C,_⟩
 ·rw[H]at *;exact⟨none,0,rfl,Nat.le_refl _,.inl rfl,fun g hg=>(h.waysN hg).2,fun k hk=>by cases hk⟩
 ·exact⟨_,D,rfl,C,.inr ⟨_,rfl⟩,fun g hg=>(h.waysN hg).2,fun k hk=>by
   cases hk
   exact⟨J,(Array.getElem?_eq_some_iff.1 A).1⟩⟩
theorem q5e{w w':World}{g:Option Nat}{B:Nat}(h:w.grownBy w' g)(hB:B<=w.heap.size)(hg:∀k,g=some k->B<=k):Below B w w':=(Below.refl B w).grown h hB hg
theorem q1x.apart{w w':World}{a:Option Addr}{ls:List (List Int)}{g:Option Nat}(h:q1x none w a ls)(hb:Below w w w')(hg:∀k,g=some k->w.heap.size<=k):q1x g w' a ls:=(h.new hg).W hb
theorem j1a(ds:List Nd)(a:Option Addr)(cap:Nat)(op:Int)(ho:op=1\/op=2\/op=3\/op=4\/op=5)(tx:ByteArray)(n:Int):z7p ds a cap [⟨op,tx,n⟩] (fun bs=>bs):=by
 intro i r bs Q R m w H G K A L O S;obtain⟨M,E,I⟩:=q0s (x:=⟨op,tx,n⟩) (r:=r) H;obtain⟨P,U,J,N,B,C,D⟩:=G i M;subst J;rw[E]at B C D;dsimp only at B C D;clear H E I G K O;rcases ho with rfl|rfl|rfl|rfl|rfl
 all_goals
  go_in;go_wp2;go_ret;exact⟨_,_,rfl,A,fun g _ h=>h,Below.refl _ _⟩
theorem y1y(ds:List Nd)(a:Option Addr)(cap:Nat)(hl:ds.length<=400)(tx:ByteArray)(n:Int)(A:List Nd)(f:List (List Int)->List (List Int))(hA:z7p ds a cap A f):z7p ds a cap (⟨7,tx,n⟩::A) f:=by
 intro i r B C H m w P D O E G Q d;obtain⟨b,L,M⟩:=q0s (x:=⟨7,tx,n⟩) (r:=A++r) P;obtain⟨W,h,X,c,I,J,K⟩:=D i b;subst X;rw[L]at I J K;dsimp only at I J K;simp only[List.length_cons]at d;have U:Hid (((i+1:Nat):Int)=(i:Int)+1):=(show _=_ by omega);have S:Hid (Calls prog 94 #[.slice (some ⟨W,h,none⟩) ds.length cap,.int .i64 (i+1:Nat),.slice C B.length H,.int .i64 300] w _):=hA (i+1) r B C H m w M D O E G Q (by omega);clear P L M D O Q hA;go_in;go_wp2_with fail;rw[<-U.o];refine S.o.mono ?_;rintro e j⟨V,l,rfl,Y,N,Z⟩;have R:Hid (∀g:Option Nat,(∀k,g=some k->k<w.heap.size)->q1x g w C B->q1x g j V (f B)):=N;clear N;go_wp2;go_ret;exact⟨_,_,rfl,Y,R.o,Z⟩
theorem y1x(ds:List Nd)(a:Option Addr)(cap:Nat)(hl:ds.length<=400)(tx:ByteArray)(n:Int)(A C:List Nd)(f g:List (List Int)->List (List Int))(hA:z7p ds a cap A f)(hC:z7p ds a cap C g)(hg:y2s C g)(hE:∀i r,ds.drop i=A++r->q0n ds i 1=some (i+A.length)):z7p ds a cap (⟨6,tx,n⟩::(A++C)) (fun bs=>f (g bs)):=by
 intro i r bs E Y m w s H O P B Q hm;obtain⟨hi,d,l⟩:=q0s (x:=⟨6,tx,n⟩) (r:=(A++C)++r) s;obtain⟨N,R,ea,Aa,Z,b,c⟩:=H i hi;subst ea;rw[d]at Z b c;dsimp only at Z b c;simp only[List.length_cons,List.length_append]at hm;have X:Hid (((i+1:Nat):Int)=(i:Int)+1):=(show _=_ by omega);have D:Hid (ds.drop (i+1)=(A++C)++r):=l;rw[List.append_assoc]at D;have V:Hid (q1p w (some ⟨N,R,none⟩) ds):=H;have y:Hid (q0n ds (i+1) 1=some (i+1+A.length)):=hE (i+1) (C++r) D.o;have J:Hid (ds.drop (i+1+A.length)=C++r):=q7w D.o;have U:Hid (Calls prog 94 #[.slice (some ⟨N,R,none⟩) ds.length cap,.int .i64 (i+1+A.length:Nat),.slice E bs.length Y,.int .i64 300] w _):=hC (i+1+A.length) r bs E Y m w J.o H O P B Q (by omega);have v:Hid (z7p ds (some ⟨N,R,none⟩) cap A f):=hA;have z:Hid (q1x none w E bs):=O;have K:Hid ((g bs).length<=301):=hg.1 bs B;have L:Hid (∀x∈g bs,x.length<=m+C.length):=hg.2 bs m Q;clear s d l H O Q hA hC hE;go_in;go_wp2_with fail;rw[<-X.o];refine(q4w ds _ cap hl (ds.length+1) (i+1) w V.o (by omega) (by omega)).mono ?_;rintro e w3⟨rfl,rfl⟩;rw[y.o];have t:v6y (some (i+1+A.length))=((i+1+A.length:Nat):Int):=rfl;rw[t];generalize hj:i+1+A.length=j at U⊢;clear t hj;go_wp2_with fail;refine U.o.mono ?_;rintro e I⟨M,k2,rfl,h2,o,G⟩;have S:Hid (∀g_1:Option Nat,(∀k,g_1=some k->k<w.heap.size)->q1x g_1 w E bs->q1x g_1 I M (g bs)):=o;clear o;go_wp2_with fail;rw[<-X.o];refine(v.o (i+1) (C++r) (g bs) M k2 (m+C.length) I D.o (V.o.W G) (S.o none (fun _ h=>by cases h) z.o) h2 K.o L.o (by omega)).mono ?_;rintro e w5⟨a5,k5,rfl,h5,p,h7⟩;have u:Hid (∀g_1:Option Nat,(∀k,g_1=some k->k<I.heap.size)->q1x g_1 I M (g bs)->q1x g_1 w5 a5 (f (g bs))):=p;clear p;go_wp2;go_ret;refine⟨_,_,rfl,h5,fun q hq hw=>u.o q (fun k hk=>?_) (S.o q hq hw),G.trans (h7.mono G.size)⟩
 have:=hq k hk
 have:=G.size
 omega
def y0k(ds:List Td)(i j:Nat):Nat:=(q3p ds (i+1) j).getD 0
def z0g(ds:List Td)(i q:Nat):List Int:=(List.range q).map fun j=>((y0k ds i j:Nat):Int)
theorem z6l(ds:List Td)(i q:Nat):(z0g ds i q).length=q:=by simp[z0g]
theorem k3y(ds:List Td)(i q:Nat):z0g ds i (q+1)=z0g ds i q++[((y0k ds i q:Nat):Int)]:=by
 simp[z0g,List.range_succ]
def v6n(ds:List Td):Prop:=∀x∈ds,x.tx.size<=1000000000000
structure z2s(ds:List Td)(i:Nat)(w:World)(q:Nat)(A:Option Addr)(c:Nat)(wr:World):Prop where
 b:Below w w wr
 o:wr.ownsRow w.heap.size 3 1 (.slice A q c) q (q2p (z0g ds i q))
theorem z2s.start(ds:List Td)(i:Nat)(w:World):z2s ds i w 0 none 0 w:=⟨Below.refl _ _,World.ownsRow_nil _ _ _ _⟩
theorem z2s.later{ds:List Td}{i:Nat}{w:World}{q:Nat}{A:Option Addr}{c:Nat}{wr w':World}(h:z2s ds i w q A c wr)(hb:Below wr wr w'):z2s ds i w q A c w':=⟨q0d h.b Zl hb,q3c h.o hb⟩
theorem z2s.next{ds:List Td}{i:Nat}{w:World}{q:Nat}{A:Option Addr}{c:Nat}{wr:World}(h:z2s ds i w q A c wr){O:Obj}{w2:World}{g B:Nat}(D:w2.ownsRow w.heap.size 3 1 (.slice (some ⟨g,0,none⟩) (q+1) B) (q+1) (q2p (z0g ds i q)++[.int .i64 ((y0k ds i q:Nat):Int)]))(C:(wr.alloc O).grownBy w2 (Value.slice A q c).ownBlock):z2s ds i w (q+1) (some ⟨g,0,none⟩) B w2:=by
 have E:=h.b.size;refine⟨(h.b.alloc E O).grown C (by simp;omega) (fun j hj=>(World.ownsRow.lt h.o j hj).1),?_⟩;rw[k3y,q9a];exact D
theorem z2s.ints{ds:List Td}{i:Nat}{w:World}{q:Nat}{A:Option Addr}{c:Nat}{wr:World}(h:z2s ds i w q A c wr):q7r wr A (z0g ds i q):=by
 refine k9o (B:=w.heap.size) (n:=q) (c:=c) ?_;unfold z5p;rw[z6l];exact h.o
def z5o(B:Nat)(w:World)(a:Option Addr)(ws:List Int):Prop:=
 ∀i(h:i<ws.length),∃b o,a=some ⟨b,o,none⟩/\B<=b/\b<w.heap.size/\w.cell? ⟨b,o+i,none⟩=some (.int .i64 ws[i])
theorem z5o.ints{B:Nat}{w:World}{a:Option Addr}{ws:List Int}(h:z5o B w a ws):q7r w a ws:=by
 intro i D;obtain⟨b,o,e,_,A,C⟩:=h i D;exact⟨b,o,e,A,C⟩
theorem z5o.W{B:Nat}{w w':World}{a:Option Addr}{ws:List Int}(h:z5o B w a ws)(hb:Below w w w'):z5o B w' a ws:=by
 intro i E;obtain⟨b,o,e,D,A,C⟩:=h i E;exact⟨b,o,e,D,Nat.lt_of_lt_of_le A hb.size,(hb.cell (p:=⟨b,_,none⟩) A).trans C⟩
theorem z5o.down{B B':Nat}{w:World}{a:Option Addr}{ws:List Int}(h:z5o B w a ws)(D:B'<=B):z5o B' w a ws:=by
 intro i E;obtain⟨b,o,e,G,A,C⟩:=h i E;exact⟨b,o,e,by omega,A,C⟩
theorem y1i{w:World}{B n m c:Nat}{A:Option Addr}{xs:List Int}(h:w.ownsRow B 3 1 (.slice A m c) n (q2p xs))(hn:xs.length=n):z5o B w A xs:=by
 intro j J;rcases h.2 with⟨E,M⟩|⟨g,c,H,E,I,G,K,_,L,C⟩
 ·omega
 ·simp only[Value.slice.injEq]at E;obtain⟨rfl,rfl,rfl⟩:=E;refine⟨g,0,rfl,I,(Array.getElem?_eq_some_iff.1 G).1,?_⟩;have D:(q2p xs)[j]?=some (.int .i64 xs[j]):=by simp[q2p,J]
  rw[<-C]at D;rw[List.getElem?_take_of_lt (by omega)]at D;rw[Nat.zero_add];simp only[World.cell?,G];simpa using D
theorem z2s.far{ds:List Td}{i:Nat}{w:World}{q:Nat}{A:Option Addr}{c:Nat}{wr:World}(h:z2s ds i w q A c wr):z5o w.heap.size wr A (z0g ds i q):=y1i h.o (z6l ds i q)
theorem y7q(B b:Nat)(ds:List Nd)(a:Option Addr)(cap:Nat)(hl:ds.length<=400)(tx:ByteArray)(n:Int)(q:0<=n)(t:n<=8)(A:List Nd)(f:Nat->List Int->Except Int (List UInt8 × List Int))(hA:q6b B b ds a cap A f):q6b B b ds a cap (⟨7,tx,n⟩::A) (fun deep ws=>f (deep+n.toNat) ws):=by
 intro i r deep ws P wc s w Y H X M G C L;obtain⟨o,U,V⟩:=q0s (x:=⟨7,tx,n⟩) (r:=A++r) Y;obtain⟨D,N,l,p,Q,R,S⟩:=H i o;subst l;rw[U]at Q R S;dsimp only at Q R S;simp only[List.length_cons]at C L;have c:Hid (ds.drop (i+1)=A++r):=V;have h:Hid (q5k B w (some ⟨D,N,none⟩) ds):=H;have d:Hid (q1h B w P ws):=X;have g:Hid (q3s B b (.slice (some ⟨D,N,none⟩) ds.length cap) (.slice P ws.length wc) s 0 w):=G;have J:=G.bsize;obtain⟨h0,h1,u,v,y,z,f1,f2,f3⟩:=G;have m:D<w.heap.size:=by omega
 have E:Hid (∀O:Obj,Below B w (w.alloc O)):=fun O=>(Below.refl _ w).alloc J O
 have Z:Hid (q6b B b ds (some ⟨D,N,none⟩) cap A f):=hA;have j:Hid (((i+1:Nat):Int)=(i:Int)+1):=(show _=_ by omega);have k:Hid (((deep+n.toNat:Nat):Int)=(deep:Int)+n):=(show _=_ by omega);clear Y U V H X hA;go_in;go_wp2_with fail;rw[<-j.o,<-k.o];refine(Z.o (i+1) r (deep+n.toNat) ws P wc s _ c.o (h.o.W (E.o _)) (d.o.W (E.o _)) M (g.o.alloc _) (by omega) (by omega)).mono ?_;rintro e w2⟨rfl,K,I⟩;go_wp2
 go_end0
 exact⟨rfl,K,(E.o _).trans I⟩
theorem q9m(B b:Nat)(ds:List Nd)(a:Option Addr)(cap:Nat)(hl:ds.length<=400):∀t:Tr,t.Wf->t.N.length<=400->q6b B b ds a cap t.N t.lay
 | .leaf ⟨op,tx,n⟩,h,hn=>by
  obtain⟨_,_,_,_,h5,_⟩:=q2a h.1;rcases q3y h.1 h.2 with e|e|e|e|e
  all_goals (simp only at e;subst e)
  ·exact y7n B b ds a cap tx n (q4c (h5 rfl)).2
  ·exact k4a 2 (.inl rfl) B b ds a cap tx n
  ·exact k4a 3 (.inr (.inl rfl)) B b ds a cap tx n
  ·exact k4a 4 (.inr (.inr rfl)) B b ds a cap tx n
  ·exact y7o B b ds a cap tx n
 | .one ⟨op,tx,n⟩ a',h,hn=>by
  obtain⟨_,_,_,_,_,h6⟩:=q2a h.1;have hn':a'.N.length<=400:=by simp[Tr.N]at hn;omega
  rcases q8d h.2.1 with e|e
  all_goals (simp only at e;subst e)
  ·exact y7q B b ds a cap hl tx n (h6 rfl).1 (h6 rfl).2 _ _ (q9m B b ds a cap hl a' h.2.2 hn')
  ·rw[k1a (x:=⟨8,tx,n⟩) rfl];exact y7r B b ds a cap hl tx n _ _ _ _ (q9m B b ds a cap hl a' h.2.2 hn') (q3w ds a cap hl a' h.2.2 hn') (by have:=q7y a' h.2.2;rw[q8b];omega)
 | .two ⟨op,tx,n⟩ a' c,h,hn=>by
  have A:a'.N.length<=400:=by simp[Tr.N]at hn;omega
  have C:c.N.length<=400:=by simp[Tr.N]at hn;omega
  rcases q7p h.2.1 with e|e
  all_goals (simp only at e;subst e)
  ·rw[j5n (x:=⟨6,tx,n⟩) rfl];exact y7p B b ds a cap hl tx n _ _ _ _ (q9m B b ds a cap hl a' h.2.2.1 A) (q9m B b ds a cap hl c h.2.2.2 C) (fun i r hd=>q4t h.2.2.1 hd) c.pos (fun deep ws u v he hd=>q5t a' deep ws u v h.2.2.1 he hd)
  ·rw[z6n (x:=⟨9,tx,n⟩) rfl];exact y7s B b ds a cap hl tx n _ _ _ _ (q9m B b ds a cap hl a' h.2.2.1 A) (q9m B b ds a cap hl c h.2.2.2 C) (fun i r hd=>q4t h.2.2.1 hd) c.pos
theorem j0o(t:Tr)(ht:t.Wf)(ds:List Nd)(hd:ds=t.N)(hl:ds.length<=400)(a wa:Option Addr)(cap wc:Nat)(ws:List Int)(hw:ws.length<=wc)(Ac:ws.length<=9223372036854775807)(w:World)(hN:q1p w a ds)(hI:q7r w wa ws):
  Calls prog 64 #[.slice a ds.length cap,.slice wa ws.length wc] w fun e w'=>e=.returned (.tuple #[.string (shS (t.show ws)),.int .i64 (shE (t.show ws))])/\Below w w w':=by
 have HN:Hid (q1p w a ds):=hN;have n:Hid (q7r w wa ws):=hI;have X:Hid (ds=t.N):=hd;clear hN hI hd;go_in;go_wp2
 go_loopw [6] (fun i wr=>wr=w/\∃k:Nat,k<=ws.length/\i=.int .i64 k/\∀j(h:j<ws.length),j<k->ws[j]=0\/ws[j]=1) (fun i _=>ws.length-(intOf i).toNat)
 case atStart=>exact⟨rfl,0,Nat.zero_le _,rfl,fun j _ g=>by omega⟩
 case round=>
  obtain⟨rfl,k,hk,rfl,J⟩:=hrel;have m:Hid (∀j(h:j<ws.length),j<k->ws[j]=0\/ws[j]=1):=J;clear J;by_cases S:k<ws.length
  ·obtain⟨b0,o0,ea,Aa,o⟩:=n.o k S;subst ea;by_cases B:ws[k]=0\/ws[k]=1
   ·have Z:Hid (∀j(h:j<ws.length),j<k+1->ws[j]=0\/ws[j]=1):=fun j h g=>by
     by_cases l:j=k
     ·subst l;exact B
     ·exact m.o j h (by omega)
    rcases B with B|B
    all_goals
     rw[B]at o;clear B;go_wp2
     go_roundw
     case rel=>exact⟨by trivial,k+1,by omega,by go_num,Z.o⟩
     case measure=>simp[intOf];omega
   ·have H:ws[k]≠0:=fun h=>B (.inl h)
    have I:ws[k]≠1:=fun h=>B (.inr h)
    have Y:Hid (t.show ws=.error 1):=j0p S H I;generalize ws[k]=c at o H I;have y:(c != 0)=true:=by simp[H]
    have g1:(c != 1)=true:=by simp[I]
    clear H I B;go_wp2;go_ret2;exact⟨by rw[Y.o];rfl,Below.refl _ _⟩
  ·have U:q2q ws:=fun c hc=>by
    obtain⟨j,g,rfl⟩:=List.getElem_of_mem hc;exact m.o j g (by omega)
   have Y:Hid (t.show ws=match t.lay 0 ws with| .error e=>.error e| .ok (s,[])=>.ok s| .ok (_,_::_)=>.error 2):=k7q U;clear U;have Q:q5k wr.heap.size wr a ds:=HN.o
   have d:Hid (q3s wr.heap.size wr.heap.size (.slice a ds.length cap) (.slice wa ws.length wc) ⟨#[]⟩ 0 (wr.alloc (.cells #[.slice a ds.length cap,.slice wa ws.length wc,.string ⟨#[]⟩,.int .i64 0] 157))):=
    ⟨Nat.le_refl _,by simp,by simp[go_sem],by simp[go_sem],by simp[go_sem],by simp[go_sem],by simp[go_sem],by simp[go_sem],by simp[go_sem]⟩
   have P:Hid (∀O:Obj,Below wr wr (wr.alloc O)):=fun O=> Zb.alloc Zl O
   have b:Hid (∀W:World,q3s wr.heap.size wr.heap.size (.slice a ds.length cap) (.slice wa ws.length wc) ⟨#[]⟩ 0 W->Below wr wr W->
     Calls prog 95 #[.pointer (some ⟨wr,0,none⟩),.int .i64 0,.int .i64 0] W fun e w'=>e=.returned (.tuple #[])/\Laid wr.heap.size wr.heap.size (.slice a ds.length cap) (t.lay 0 ws) ⟨#[]⟩ w'/\Below wr W w'):=fun W h1 h2=>
    q9m wr.heap.size wr.heap.size ds a cap hl t ht (by rw[<-X.o];exact hl) 0 [] 0 ws wa wc ⟨#[]⟩ W (by rw[X.o];simp) (Q.W h2) (q1h.W n.o h2) hw h1 (by rw[<-X.o];omega) (by rw[<-X.o];show 0+4000*ds.length<=1000000000;omega)
   clear Q;go_wp2_with fail;refine(b.o _ d.o (P.o _)).mono ?_;rintro e w2⟨rfl,G,R⟩;have K:Hid (Below wr wr w2):=(P.o _).trans R;clear R;cases A:t.lay 0 ws with
   | error e0=>
    rw[A]at G;have E:=Y.o;rw[A]at E;have D:Hid (t.show ws=.error e0):=E;obtain⟨M,v',s',C⟩:=G;obtain⟨_,k1,k0,k4,k2,k3,q,v,x⟩:=C;have y:(e0==0)=false:=by simp[M]
    have g1:(e0 != 0)=true:=by simp[M]
    clear M A E;go_wp2_with fail
    go_quiet (fail)
    go_wp2;go_ret2;exact⟨by rw[D.o];rfl,K.o.trans ⟨rfl,rfl,rfl,Nat.le_refl _,fun _ _=>rfl⟩⟩
   | ok p=>
    obtain⟨u,r⟩:=p;rw[A]at G;have E:=Y.o;rw[A]at E;obtain⟨Ad,Ae,s2,L,C,_,Ab⟩:=G;cases r with
    | nil=>
     have D:Hid (t.show ws=.ok u):=E;have V:s2=⟨u.toArray⟩:=q6e (by rw[L];simp);have f:Hid (s2=⟨u.toArray⟩):=V;simp only[List.length_nil]at C;obtain⟨_,k1,k0,k4,k2,k3,q,v,x⟩:=C;clear A E L V;go_wp2;go_ret2;exact⟨by rw[D.o];exact congrArg (fun z=>Ending.returned (.tuple #[.string z,.int .i64 0])) f.o,K.o⟩
    | cons c r=>
     have D:Hid (t.show ws=.error 2):=E;simp only[List.length_cons]at C;obtain⟨h0,k1,k0,k4,k2,k3,q,v,x⟩:=C;have y:(0:Int)<(r.length:Int)+1:=by omega
     clear A E L;go_wp2_with fail
     go_quiet (fail)
     go_wp2;go_ret2;exact⟨by rw[D.o];rfl,(K.o.setCell (p:=⟨wr,3,none⟩) Zl _).trans ⟨rfl,rfl,rfl,Nat.le_refl _,fun _ _=>rfl⟩⟩
end Go.Proofs.YtfdppahhbpfnoaaGreatDoor
