import Derived.Test.YthcpdohdppkmkaaGreatDoorPl37
import Derived.Laws.Cover3
open Go.Proofs.Tryz
namespace Go.Proofs.YthcpdohdppkmkaaGreatDoor
open Go Go.RowKit
set_option maxRecDepth 100000
set_option maxHeartbeats 2000000
theorem y8o{b:UInt8}(h:(((b.toNat:Nat):Int)==10)=true):b=10:=by
 have A:((b.toNat:Nat):Int)=10:=beq_iff_eq.1 h;exact UInt8.toNat_inj.1 (by simpa using(by omega:b.toNat=10))
theorem y5e{b:UInt8}(h:(((b.toNat:Nat):Int)==10)=false):¬b=10:=by
 rintro rfl;simp at h
theorem j9d(s:ByteArray)(wd:Int)(w:World)(hs:s.size<=2000000000):
  Calls prog 133 #[.string s,.int .i64 wd] w fun e w'=>e=.returned (.agg #[.int .i64 (stL wd s.data.toList).1,.int .i64 (stL wd s.data.toList).2.1])/\Below w w w':=by
 go_in;go_wp2
 go_loopw [6,7] (fun c i wr=>∃k:Nat,k<=s.size/\i=.int .i64 k/\c=.int .i64 (stL wd (s.data.toList.take k)).2.2/\Below w w wr
   /\wr.cell? ⟨w,0,none⟩=some (.int .i64 0)/\wr.cell? ⟨w,1,none⟩=some (.int .i64 0)/\wr.frozen? ⟨w,0,none⟩=false/\wr.frozen? ⟨w,1,none⟩=false
   /\wr.cell? ⟨w.heap.size+1,0,none⟩=some (.int .i64 (stL wd (s.data.toList.take k)).1)/\wr.cell? ⟨w.heap.size+1,1,none⟩=some (.int .i64 (stL wd (s.data.toList.take k)).2.1)/\wr.frozen? ⟨w.heap.size+1,0,none⟩=false/\wr.frozen? ⟨w.heap.size+1,1,none⟩=false)
  (fun _ i _=>s.size-(intOf i).toNat)
 case atStart=>
  exact⟨0,Nat.zero_le _,rfl,rfl,(Zb.alloc Zl _).alloc (by simp) _,by simp[go_sem],by simp[go_sem],by simp[go_sem],by simp[go_sem],by simp[go_sem,stL],by simp[go_sem,stL],by simp[go_sem],by simp[go_sem]⟩
 case round=>
  obtain⟨k,l,rfl,rfl,H,I,J,K,L,E,G,M,N⟩:=hrel;obtain⟨⟨Z,R⟩,⟨b,U⟩,⟨f,V⟩⟩:=y6i wd (s.data.toList.take k);have j:((s.data.toList.take k).length:Int)<=2000000000:=by have:=List.length_take_le k s.data.toList;omega
  generalize W:stL wd (s.data.toList.take k)=S at Z R b U f V E G⊢;have a:S.1<=2000000000:=by omega
  have d:S.2.1<=2000000000:=by omega
  have g:S.2.2<=2000000000:=by omega
  clear R U V j;have Q:Hid (stL wd (s.data.toList.take k)=S):=W;clear W;by_cases P:k<s.size
  ·have C:Hid (stL wd (s.data.toList.take (k+1))=stp wd S s[k]):=by
    have h:=v6b wd (s.data.toList.take k) s[k];rw[<-v0d s k P,Q.o]at h;exact h
   cases X:(((s[k].toNat:Nat):Int)==10)with
   | true=>
    have A:s[k]=10:=y8o X;have B:Hid (stL wd (s.data.toList.take (k+1))=(S.1,S.2.1+1,0)):=by rw[stp,if_pos A]at C;exact C
    clear A C;go_wp2
    go_roundw
    case rel=>
     refine⟨k+1,by omega,by go_num,by rw[B.o],H.setCell (p:=⟨w.heap.size+1,1,none⟩) (by simp) _,(cso (by omega)).trans I,(cso (by omega)).trans J,csf.trans K,csf.trans L,?_,?_,csf.trans M,csf.trans N⟩
     ·rw[B.o];exact(cso (by omega)).trans E
     ·rw[B.o];exact css G
    case measure=>simp[intOf];omega
   | false=>
    have A:¬s[k]=10:=y5e X;by_cases Y:wd<S.2.2+1
    ·have B:Hid (stL wd (s.data.toList.take (k+1))=(S.1+1,S.2.1,S.2.2+1)):=by rw[stp,if_neg A,if_pos Y]at C;exact C
     clear A C;go_wp2
     go_roundw
     case rel=>
      refine⟨k+1,by omega,by go_num,by rw[B.o],H.setCell (p:=⟨w.heap.size+1,0,none⟩) (by simp) _,(cso (by omega)).trans I,(cso (by omega)).trans J,csf.trans K,csf.trans L,?_,?_,csf.trans M,csf.trans N⟩
      ·rw[B.o];exact css E
      ·rw[B.o];exact(cso (by omega)).trans G
     case measure=>simp[intOf];omega
    ·have B:Hid (stL wd (s.data.toList.take (k+1))=(S.1,S.2.1,S.2.2+1)):=by rw[stp,if_neg A,if_neg Y]at C;exact C
     clear A C;go_wp2
     go_roundw
     case rel=>
      refine⟨k+1,by omega,by go_num,by rw[B.o],H,I,J,K,L,?_,?_,M,N⟩
      ·rw[B.o];exact E
      ·rw[B.o];exact G
     case measure=>simp[intOf];omega
  ·have D:s.data.toList.take k=s.data.toList:=List.take_of_length_le (by rw[<-Lib.size_eq];omega);have O:=Q.o;rw[D]at O;rw[<-O]at E G;clear O D;go_wp2;exact bodyPost_ret (v:=.agg #[.int .i64 (stL wd s.data.toList).1,.int .i64 (stL wd s.data.toList).2.1]) (by simp[results,Tryz.results133,go_sem,I,J]) rfl ⟨rfl,(H.setCell (p:=⟨w,0,none⟩) (by simp) _).setCell (p:=⟨w,1,none⟩) (by simp) _⟩
theorem q8p{w:World}{B e A n k:Nat}{v:Value}{xs:List Value}(h:w.ownsRow B e A v n xs)(hk:v.ownBlock=some k):k<w.heap.size/\∃cur,w.heap[k]?=some (.cells cur e (0,0)):=by
 rcases h.2 with⟨rfl,_⟩|⟨g,c,cur,rfl,_,C,_⟩
 ·simp[Value.ownBlock]at hk
 ·simp only[Value.ownBlock,Option.some.injEq]at hk;subst hk;exact⟨(Array.getElem?_eq_some_iff.1 C).1,cur,C⟩
theorem z9a{w w':World}{B e A n:Nat}{v:Value}{xs:List Value}(h:w.ownsRow B e A v n xs)(hk:∀k,v.ownBlock=some k->w'.heap[k]?=w.heap[k]?):w'.ownsRow B e A v n xs:=by
 refine⟨h.1,?_⟩;rcases h.2 with E|⟨g,c,D,rfl,G,H,C⟩
 ·exact .inl E
 ·exact .inr ⟨g,c,D,rfl,G,(hk g rfl).trans H,C⟩
theorem v5g{w:World}{B B' e A n:Nat}{v:Value}{xs:List Value}(h:w.ownsRow B e A v n xs)(hB:B'<=B):w.ownsRow B' e A v n xs:=by
 refine⟨h.1,?_⟩;rcases h.2 with E|⟨g,c,D,rfl,G,C⟩
 ·exact .inl E
 ·exact .inr ⟨g,c,D,rfl,Nat.le_trans hB G,C⟩
theorem j8s{w:World}{B B' e e' C A n n' k k':Nat}{v v':Value}{xs E:List Value}(h:w.ownsRow B e C v n xs)(h':w.ownsRow B' e' A v' n' E)(he:e≠e')(hk:v.ownBlock=some k)(D:v'.ownBlock=some k'):k≠k':=by
 intro H;subst H;obtain⟨_,c,I⟩:=q8p h hk;obtain⟨_,J,G⟩:=q8p h' D;rw[I]at G;cases G;exact he rfl
theorem v3w:(prog.info? 43).map (fun i=>(i.zero,i.size,i.bytes))=some (some (.slice none 0 0),1,24):=by kernel_rfl
def q8w(B:Nat)(v:Value)(ls:List (List Int))(g:Option Nat)(w:World):Prop:=
 ∃xs:List Value,w.ownsRow B 43 1 v ls.length xs/\∀i(h:i<ls.length),∃a c,xs[i]?=some (.slice a ls[i].length c)/\w.ownsRow B 3 1 (.slice a ls[i].length c) ls[i].length (q0j ls[i])/\(∀k,(Value.slice a ls[i].length c).ownBlock=some k->g≠some k)
theorem q8w.nil(B:Nat)(g:Option Nat)(w:World):q8w B (.slice none 0 0) [] g w:=⟨[],World.ownsRow_nil _ _ _ _,fun i h=>by simp at h⟩
theorem q8w.kept{B:Nat}{v:Value}{ls:List (List Int)}{g g':Option Nat}{w w':World}(h:q8w B v ls g w)(hb:∀k,k<w.heap.size->(∃cur,w.heap[k]?=some (.cells cur 43 (0,0)))->w'.heap[k]?=w.heap[k]?)(hc:∀k,k<w.heap.size->(∃cur,w.heap[k]?=some (.cells cur 3 (0,0)))->g≠some k->w'.heap[k]?=w.heap[k]?/\g'≠some k):q8w B v ls g' w':=by
 obtain⟨J,G,I⟩:=h;refine⟨J,z9a G fun k hk=>?_,fun i hi=>?_⟩
 ·obtain⟨A,C⟩:=q8p G hk;exact hb k A C
 ·obtain⟨a,c,H,D,E⟩:=I i hi;refine⟨a,c,H,z9a D fun k hk=>?_,fun k hk=>?_⟩
  ·obtain⟨A,C⟩:=q8p D hk;exact(hc k A C (E k hk)).1
  ·obtain⟨A,C⟩:=q8p D hk;exact(hc k A C (E k hk)).2
theorem q8w.W{B:Nat}{v:Value}{ls:List (List Int)}{g:Option Nat}{w w':World}(h:q8w B v ls g w)(hb:Below w w w'):q8w B v ls g w':=
 h.kept (fun k h1 _=>hb.block k h1) (fun k h1 _ h3=>⟨hb.block k h1,h3⟩)
theorem q8w.push{B:Nat}{v v':Value}{ls:List (List Int)}{l:List Int}{g:Option Nat}{w w':World}{xs:List Value}{a':Option Addr}{c':Nat}(h1:w.ownsRow B 43 1 v ls.length xs)
  (h2:∀i(h:i<ls.length),∃a c,xs[i]?=some (.slice a ls[i].length c)/\w.ownsRow B 3 1 (.slice a ls[i].length c) ls[i].length (q0j ls[i])/\(∀k,(Value.slice a ls[i].length c).ownBlock=some k->g≠some k))
  (hl:w.ownsRow B 3 1 (.slice a' l.length c') l.length (q0j l)) (G:∀k,(Value.slice a' l.length c').ownBlock=some k->g≠some k) (hg:w.grownBy w' v.ownBlock) (D:w'.ownsRow B 43 1 v' (ls.length+1) (xs++[.slice a' l.length c'])):q8w B v' (ls++[l]) g w':=by
 have L:xs.length=ls.length:=by have:=h1.1;omega
 have A:∀{a c}{l:List Int},w.ownsRow B 3 1 (.slice a l.length c) l.length (q0j l)->w'.ownsRow B 3 1 (.slice a l.length c) l.length (q0j l):=fun{a c l}h=>
  z9a h fun k hk=>hg.block k (q8p h hk).1 fun e=>j8s h h1 (by decide) hk e.symm rfl
 refine⟨xs++[.slice a' l.length c'],by rw[List.length_append];exact D,fun i hi=>?_⟩;by_cases C:i<ls.length
 ·obtain⟨a,c,I,J,K⟩:=h2 i C;have E:(ls++[l])[i]=ls[i]:=List.getElem_append_left C;rw[E];exact⟨a,c,by rw[List.getElem?_append_left (by omega)];exact I,A J,K⟩
 ·have H:i=ls.length:=by simp at hi;omega
  subst H;have E:(ls++[l])[ls.length]=l:=by simp
  rw[E];exact⟨a',c',by rw[List.getElem?_append_right (by omega),L];simp,A hl,G⟩
set_option maxHeartbeats 4000000
def v9s(g:Option Nat)(w:World)(a:Option Addr)(ws:List Int):Prop:=
 ∀i(h:i<ws.length),∃b o,a=some ⟨b,o,none⟩/\b<w.heap.size/\some b≠g/\w.cell? ⟨b,o+i,none⟩=some (.int .i64 ws[i])
theorem v9s.ints{g:Option Nat}{w:World}{a:Option Addr}{ws:List Int}(h:v9s g w a ws):q8x w a ws:=by
 intro i B;obtain⟨b,o,e,A,_,c⟩:=h i B;exact⟨b,o,e,A,c⟩
def q2b(g:Option Nat)(w:World)(a:Option Addr)(ls:List (List Int)):Prop:=
 ∀i(h:i<ls.length),∃b o a' c',a=some ⟨b,o,none⟩/\b<w.heap.size/\some b≠g/\w.cell? ⟨b,o+i,none⟩=some (.slice a' ls[i].length c')/\ls[i].length<=c'/\v9s g w a' ls[i]/\(a'=none->ls[i]=[]/\c'=0)
theorem q2b.kept{g:Option Nat}{w w':World}{a:Option Addr}{ls:List (List Int)}(h:q2b g w a ls)(hs:w.heap.size<=w'.heap.size)(hk:∀k,k<w.heap.size->some k≠g->w'.heap[k]?=w.heap[k]?):q2b g w' a ls:=by
 intro i O;obtain⟨b,o,E,G,e,K,C,c,L,M,N⟩:=h i O;refine⟨b,o,E,G,e,by omega,C,(World.cell?_of_block (w:=w) (a:=⟨b,o+i,none⟩) (hk b K C)).trans c,L,fun j hj=>?_,N⟩;obtain⟨A,D,I,J,B,H⟩:=M j hj;exact⟨A,D,I,by omega,B,(World.cell?_of_block (w:=w) (a:=⟨A,D+j,none⟩) (hk A J B)).trans H⟩
theorem q2b.W{g:Option Nat}{w w':World}{a:Option Addr}{ls:List (List Int)}(h:q2b g w a ls)(hb:Below w w w'):q2b g w' a ls:=h.kept hb.size fun k hk _=>hb.block k hk
theorem q2b.new{g g':Option Nat}{w:World}{a:Option Addr}{ls:List (List Int)}(h:q2b g w a ls)(hg:∀k,g'=some k->w.heap.size<=k):q2b g' w a ls:=by
 intro i L;obtain⟨b,o,B,C,e,H,O,c,I,J,K⟩:=h i L;refine⟨b,o,B,C,e,H,fun q=>by have:=hg b q.symm;omega,c,I,fun j hj=>?_,K⟩;obtain⟨A,M,E,G,N,D⟩:=J j hj;exact⟨A,M,E,G,fun q=>by have:=hg A q.symm;omega,D⟩
theorem q8w.waysN{B:Nat}{a:Option Addr}{n c:Nat}{ls:List (List Int)}{g g':Option Nat}{w:World}(h:q8w B (.slice a n c) ls g' w)(hg:∀k,g=some k->k<B):n=ls.length/\q2b g w a ls:=by
 obtain⟨Z,J,R⟩:=h;have f:Z.length=ls.length:=by have:=J.1;omega
 rcases J.2 with⟨D,Q⟩|⟨I,b,N,D,e,C,S,_,U,A⟩
 ·simp only[Value.slice.injEq]at D;obtain⟨rfl,rfl,rfl⟩:=D;exact⟨Q.symm,fun i hi=>by omega⟩
 ·simp only[Value.slice.injEq]at D;obtain⟨rfl,rfl,rfl⟩:=D;refine⟨rfl,fun i hi=>?_⟩;obtain⟨K,L,G,H,_⟩:=R i hi;obtain⟨_,_,W,X,Y⟩:=k7p H;refine⟨I,0,K,L,rfl,(Array.getElem?_eq_some_iff.1 C).1,fun q=>by have:=hg I q.symm;omega,?_,W,fun j hj=>?_,Y⟩
  ·rw[<-A,List.getElem?_take_of_lt (by omega)]at G;rw[Nat.zero_add];simp only[World.cell?,C];simpa using G
  ·obtain⟨E,V,O,P,M⟩:=X j hj;subst O;refine⟨E,V,rfl,P,fun q=>?_,M⟩;have d:=(H.lt E rfl).1
   have:=hg E q.symm
   omega
def y7w(B:Nat)(g0:Option Nat)(ls ms:List (List Int))(c:Int)(w:World)(vo vi:Value)(wr:World):Prop:=
 ∃(k:Nat)(av:Option Addr)(cv:Nat),k<=ms.length/\vi=.int .i64 k/\vo=.slice av (ls.length+k) cv/\q8w B (.slice av (ls.length+k) cv) (ls++(ms.take k).map (c::·)) none wr/\w.grownBy wr g0/\((Value.slice av (ls.length+k) cv).ownBlock=g0\/∀j,(Value.slice av (ls.length+k) cv).ownBlock=some j->w.heap.size<=j)
theorem q6g(B:Nat)(v:Value)(ls ms:List (List Int))(c:Int)(a:Option Addr)(ca:Nat)(w:World)(hG:q8w B v ls none w)(hM:q2b v.ownBlock w a ms)(hB:B<=w.heap.size)(hl:ls.length+ms.length<=1000)(hx:∀x∈ms,x.length<=1000):
  Calls prog 224 #[v,.int .i64 c,.slice a ms.length ca] w fun e w'=>∃v',e=.returned v'/\q8w B v' (ls++ms.map (c::·)) none w'/\w.grownBy w' v.ownBlock/\(v'.ownBlock=v.ownBlock\/∀k,v'.ownBlock=some k->w.heap.size<=k):=by
 obtain⟨i1,Ai,Al,Am,An⟩:=info_parts v3w;have Ad:Hid (q8w B v ls none w):=hG;have HM:Hid (q2b v.ownBlock w a ms):=hM;have HX:Hid (∀x∈ms,x.length<=1000):=hx
 obtain⟨S,V,rfl⟩:∃R U,v=.slice R ls.length U:=by
  obtain⟨xs,y,_⟩:=hG;rcases y.2 with⟨d,h0⟩|⟨g,c,Ah,d,_⟩
  ·exact⟨none,0,by rw[d,h0]⟩
  ·exact⟨_,c,d⟩
 generalize Aa:(Value.slice S ls.length V).ownBlock=g0 at HM;have HV:Hid ((Value.slice S ls.length V).ownBlock=g0):=Aa;clear hG hM hx Aa;go_in;go_wp2
 go_loopw [0,7] (fun vo vi wr=>y7w B g0 ls ms c w vo vi wr) (fun _ vi _=>ms.length-(intOf vi).toNat)
 case atStart=>exact⟨0,S,V,Nat.zero_le _,rfl,rfl,by simpa using Ad.o,⟨rfl,rfl,rfl,Nat.le_refl _,fun _ _ _=>rfl⟩,.inl HV.o⟩
 case round=>
  obtain⟨k,R,U,hk,rfl,rfl,hG,X,z⟩:=hrel;have HG:Hid (q8w B (.slice R (ls.length+k) U) (ls++(ms.take k).map (c::·)) none wr):=hG;have E:Hid (w.grownBy wr g0):=X;have P:Hid ((Value.slice R (ls.length+k) U).ownBlock=g0\/∀j,(Value.slice R (ls.length+k) U).ownBlock=some j->w.heap.size<=j):=z;have Ak:=X.size;clear hG X z;by_cases Z:k<ms.length
  ·have Ap:(k:Int)<(ms.length:Int):=by omega
   obtain⟨b1,o1,a4,d1,ea,Ao,_,c1,_,i4,I⟩:=(HM.o.kept Ak fun j hj hne=>E.o.block j hj hne) k Z;subst ea;have Aj:=HX.o _ (List.getElem_mem Z);have b:(ms.take (k+1)).map (c::·)=(ms.take k).map (c::·)++[c::ms[k]]:=by rw[List.take_add_one,List.getElem?_eq_getElem Z,List.map_append];rfl
   have n:Hid (q8x wr a4 ms[k]):=i4.ints;generalize ms[k]=m at c1 Aj b n I;have Ag:Hid ((ms.take (k+1)).map (c::·)=(ms.take k).map (c::·)++[c::m]):=b;have p:Hid (a4=none->m=[]/\d1=0):=I
   have HO:Hid ((wr.alloc (.cells #[.int .i64 c] 3)).ownsRow wr.heap.size 3 1 (.slice (some ⟨wr,0,none⟩) 1 1) 1 (q0j [c])):=
    ⟨rfl,.inr ⟨wr.heap.size,1,#[.int .i64 c],rfl,Nat.le_refl _,heap_alloc_new wr _,Nat.le_refl _,by unfold maxLen;decide,rfl,rfl⟩⟩
   clear i4 I b;go_wp2_with(at_builtin;refine z1d rfl _ _ rfl wr.heap.size _ _ [c] rfl HO.o a4 m d1 rfl (n.o.W ((Below.refl _ wr).alloc Zl _)) p.o (by omega) (by simp) ?_);intro v5 K C D;have L:Below wr wr K:=((Below.refl _ wr).alloc Zl _).grown D (by simp) (fun j hj=>by simp only[Value.ownBlock,Option.some.injEq]at hj;omega)
   obtain⟨a5,c5,rfl⟩:∃a5 c5,v5=.slice a5 (c::m).length c5:=by
    rcases C.2 with⟨d,h0⟩|⟨g,q,Ah,d,_⟩
    ·omega
    ·exact⟨_,q,by rw[d];congr 1;simp;omega⟩
   have Q:Hid (K.ownsRow B 3 1 (.slice a5 (c::m).length c5) (c::m).length (q0j (c::m))):=by
    show K.ownsRow _ _ _ _ _ _;have e1:(c::m).length=1+m.length:=by simp;omega
    rw[e1]at C⊢;exact v5g C (by omega)
   obtain⟨xs,hx,N⟩:=HG.o.W L;have Y:(ls++(ms.take k).map (c::·)).length=ls.length+k:=by simp;omega
   have Af:Hid ((ls++(ms.take k).map (c::·)).length=ls.length+k):=Y;have r:Hid (K.ownsRow B 43 1 (.slice R (ls.length+k) U) (ls++(ms.take k).map (c::·)).length xs):=hx
   have s:Hid (K.ownsRow B 43 1 (.slice R (ls.length+k) U) (ls.length+k) xs):=by
    have:=hx
    rw[Y]at this;exact this
   have M:=(show Hid (∀i(h:i<(ls++(ms.take k).map (c::·)).length),∃a t,xs[i]?=some (.slice a (ls++(ms.take k).map (c::·))[i].length t)/\K.ownsRow B 3 1 (.slice a (ls++(ms.take k).map (c::·))[i].length t) (ls++(ms.take k).map (c::·))[i].length (q0j (ls++(ms.take k).map (c::·))[i])/\(∀j,(Value.slice a (ls++(ms.take k).map (c::·))[i].length t).ownBlock=some j->(none:Option Nat)≠some j))from N);have Aq:=L.size;have G:Hid (Below wr wr K):=L;generalize Ab:(c::m).length=nl at Q;have o:Hid ((c::m).length=nl):=Ab;clear hx N C D L Y HO Ab;go_wp2_with(at_builtin;refine wpList_append_lies _ rfl _ _ 211 rfl B 43 i1 _ 1 24 Tryz.underlying211 Ai Al Am An rfl (by decide) _ _ _ rfl (s.o.alloc _) ⟨K,0,none⟩ 1 1 [.slice a5 nl c5] rfl rfl (cell_one_new K _ _) (by intro u hu;simp at hu;subst hu;rfl) (by decide) (by unfold maxLen;omega) (by omega) (by simp;omega) (K.heap.size+1) (by simp) ?_);intro g6 H w6 J A O Ac
   have Ae:Hid (q8w B (.slice (some ⟨g6,0,none⟩) (ls.length+(k+1)) H) (ls++(ms.take (k+1)).map (c::·)) none w6):=by
    show q8w _ _ _ _ _;rw[Ag.o,<-List.append_assoc];have ho:=Q.o;rw[<-o.o]at ho;refine q8w.push (r.o.alloc _) (fun i hi=>?_) (ho.alloc _) (fun _ _=>by simp) A (by rw[Af.o,o.o,<-Nat.add_assoc];exact J);obtain⟨a',t,e1,e2,e3⟩:=M.o i hi;exact⟨a',t,e1,e2.alloc _,e3⟩
   have l:Hid (w.grownBy w6 g0):=by
    refine⟨A.os.trans (G.o.os.trans E.o.os),A.tape.trans (G.o.tape.trans E.o.tape),A.output.trans (G.o.output.trans E.o.output),?_,fun j hj hne=>?_⟩
    ·have:=A.size
     simp at this;omega
    ·refine(A.block j (by simp;omega) ?_).trans ((Below.heap_alloc _ _ _ (by omega)).trans ((G.o.block j (by omega)).trans (E.o.block j hj hne)));intro e;rcases P.o with h|h
     ·exact hne (e.trans h)
     ·have:=h j e.symm
      omega
   have f:Hid ((Value.slice (some ⟨g6,0,none⟩) (ls.length+(k+1)) H).ownBlock=g0\/∀j,(Value.slice (some ⟨g6,0,none⟩) (ls.length+(k+1)) H).ownBlock=some j->w.heap.size<=j):=by
    rcases O with h|h
    ·rcases P.o with y|y
     ·exact .inl (h.symm.trans y)
     ·exact .inr fun j hj=>y j (h.trans hj)
    ·refine .inr fun j hj=>?_
     simp only[Value.ownBlock,Option.some.injEq]at hj;omega
   clear J A O Ac r s M Q G;go_wp2
   go_roundw
   case rel=>exact⟨k+1,_,_,by omega,by go_num,rfl,Ae.o,l.o,f.o⟩
   case measure=>simp[intOf];omega
  ·obtain rfl:k=ms.length:=by omega
   go_wp2;go_ret;have hG:=HG.o;rw[List.take_length]at hG;exact⟨_,rfl,hG,E.o,P.o⟩
end Go.Proofs.YthcpdohdppkmkaaGreatDoor
namespace Go.Proofs.YthcpdohdppkmkaaGreatDoor
def q3s(l L:List (List Int)):Prop:=l.take 301=L.take 301
theorem q3s.cut(l:List (List Int)):q3s (l.take 301) l:=by
 unfold q3s;rw[List.take_take,Nat.min_self]
theorem q3s.or{l L:List (List Int)}(h:q3s l L):l=L\/(301<=l.length/\301<=L.length):=by
 unfold q3s at h;have B:=congrArg List.length h;rw[List.length_take,List.length_take]at B;by_cases A:301<=l.length
 ·exact .inr ⟨A,by omega⟩
 ·left;rw[List.take_of_length_le (by omega),List.take_of_length_le (by omega)]at h;exact h
theorem q3s.map{l L:List (List Int)}(h:q3s l L)(f:List Int->List Int):q3s (l.map f) (L.map f):=by
 unfold q3s at *;rw[<-List.map_take,<-List.map_take,h]
theorem q3s.app{l L m M:List (List Int)}(h:q3s l L)(k:q3s m M):q3s (l++m) (L++M):=by
 rcases h.or with rfl|⟨A,B⟩
 ·unfold q3s at *;rw[List.take_append,List.take_append]
  congr 1
  have e:∀x:List (List Int),x.take (301-l.length)=(x.take 301).take (301-l.length):=fun x=>by rw[List.take_take];congr 1;omega
  rw[e m,e M,k]
 ·unfold q3s at *;rw[List.take_append_of_le_length A,List.take_append_of_le_length B,h]
theorem q3s.flat{l L:List (List Int)}(h:q3s l L):∀us:List (List Int),q3s (us.flatMap fun u=>l.map (u++·)) (us.flatMap fun u=>L.map (u++·))
 | []=>rfl
 | u::us=>by
  rw[List.flatMap_cons,List.flatMap_cons];exact(h.map _).app (h.flat us)
def Tr.tl:Tr->List (List Int)->List (List Int)
 | .leaf _,bs=>bs
 | .one x a,bs=>if x.op=7 then a.tl bs else((if a.isFlat=true then bs.map (0::·)else [])++(a.tl bs).map (1::·)).take 301
 | .two x a b,bs=>if x.op=6 then a.tl (b.tl bs)else((a.tl bs).map (0::·)++(b.tl bs).map (1::·)).take 301
theorem q8t:∀(t:Tr)(bs:List (List Int)),q3s (t.tl bs) (t.ways.flatMap fun u=>bs.map (u++·))
 | .leaf x,bs=>by simp only[Tr.tl,Tr.ways,List.flatMap_cons,List.flatMap_nil,List.append_nil];simp[q3s]
 | .one x a,bs=>by
  have ih:=q8t a bs;simp only[Tr.tl,Tr.ways]
  split
  ·exact ih
  ·refine(q3s.cut _).trans ?_;rw[List.flatMap_append];refine q3s.app ?_ ?_
   ·split
    ·simp[q3s]
    ·simp[q3s]
   ·have e:(a.ways.map (1::·)).flatMap (fun u=>bs.map (u++·))=(a.ways.flatMap fun u=>bs.map (u++·)).map (1::·):=by
     rw[List.flatMap_map,List.map_flatMap]
     congr 1
     funext u
     rw[List.map_map];rfl
    rw[e];exact ih.map _
 | .two x a b,bs=>by
  simp only[Tr.tl,Tr.ways]
  split
  ·have e:(a.ways.flatMap fun u=>b.ways.map (u++·)).flatMap (fun u=>bs.map (u++·))=a.ways.flatMap fun u=>(b.ways.flatMap fun v=>bs.map (v++·)).map (u++·):=by
    rw[List.flatMap_assoc]
    congr 1
    funext u
    rw[List.flatMap_map,List.map_flatMap]
    congr 1
    funext v
    rw[List.map_map]
    congr 1
    funext z
    exact List.append_assoc u v z
   rw[e];exact(q8t a (b.tl bs)).trans ((q8t b bs).flat a.ways)
  ·refine(q3s.cut _).trans ?_
   have A:(a.ways.map (0::·)).flatMap (fun u=>bs.map (u++·))=(a.ways.flatMap fun u=>bs.map (u++·)).map (0::·):=by
    rw[List.flatMap_map,List.map_flatMap]
    congr 1
    funext u
    rw[List.map_map];rfl
   have B:(b.ways.map (1::·)).flatMap (fun u=>bs.map (u++·))=(b.ways.flatMap fun u=>bs.map (u++·)).map (1::·):=by
    rw[List.flatMap_map,List.map_flatMap]
    congr 1
    funext u
    rw[List.map_map];rfl
   rw[List.flatMap_append,A,B];exact((q8t a bs).map _).app ((q8t b bs).map _)
theorem y3e(t:Tr):q3s (t.tl [[]]) t.ways:=by
 have h:=q8t t [[]]
 have e:(t.ways.flatMap fun u=>[[]].map (u++·))=t.ways:=by
  simp
 rw[e]at h;exact h
theorem y6q(t:Tr):(t.ways.length<=300/\t.tl [[]]=t.ways)\/(300<t.ways.length/\300<(t.tl [[]]).length):=by
 rcases(y3e t).or with h|⟨B,C⟩
 ·by_cases A:t.ways.length<=300
  ·exact .inl ⟨A,h⟩
  ·exact .inr ⟨by omega,by rw[h];omega⟩
 ·exact .inr ⟨by omega,by omega⟩
theorem k8d:∀(t:Tr)(bs:List (List Int)),bs.length<=301->(t.tl bs).length<=301
 | .leaf x,bs,h=>h
 | .one x a,bs,h=>by
  simp only[Tr.tl]
  split
  ·exact k8d a bs h
  ·rw[List.length_take];omega
 | .two x a b,bs,h=>by
  simp only[Tr.tl]
  split
  ·exact k8d a _ (k8d b bs h)
  ·rw[List.length_take];omega
theorem v0g:∀(t:Tr)(bs:List (List Int))(m:Nat),(∀x∈bs,x.length<=m)->∀x∈t.tl bs,x.length<=m+t.N.length
 | .leaf x,bs,m,h,y,hy=>by have:=h y hy;omega
 | .one x a,bs,m,h,y,hy=>by
  have ih:=v0g a bs m h;simp only[Tr.tl]at hy;simp only[Tr.N,List.length_cons]
  split at hy
  ·have:=ih y hy;omega
  ·have hy:=List.mem_of_mem_take hy;rcases List.mem_append.1 hy with hy|hy
   ·split at hy
    ·obtain⟨z,hz,rfl⟩:=List.mem_map.1 hy
     have:=h z hz
     simp;omega
    ·simp at hy
   ·obtain⟨z,hz,rfl⟩:=List.mem_map.1 hy
    have:=ih z hz
    simp;omega
 | .two x a b,bs,m,h,y,hy=>by
  have ia:=v0g a bs m h;have ib:=v0g b bs m h;simp only[Tr.tl]at hy;simp only[Tr.N,List.length_cons,List.length_append]
  split at hy
  ·have:=v0g a (b.tl bs) _ ib y hy;omega
  ·have hy:=List.mem_of_mem_take hy;rcases List.mem_append.1 hy with hy|hy
   ·obtain⟨z,hz,rfl⟩:=List.mem_map.1 hy
    have:=ia z hz
    simp;omega
   ·obtain⟨z,hz,rfl⟩:=List.mem_map.1 hy
    have:=ib z hz
    simp;omega
end Go.Proofs.YthcpdohdppkmkaaGreatDoor
namespace Go.Proofs.YthcpdohdppkmkaaGreatDoor
open Go Go.RowKit
set_option maxRecDepth 100000
theorem j0i(op:Int)(w:World):Calls prog 248 #[.int .i64 op] w fun e w'=>e=.returned (.int .i64 (pts op))/\w=w':=by
 by_cases A:op=6
 ·subst A;go_in;go_wp2;go_ret;exact⟨rfl,rfl⟩
 by_cases D:op=9
 ·subst D;go_in;go_wp2;go_ret;exact⟨rfl,rfl⟩
 by_cases B:op=7
 ·subst B;go_in;go_wp2;go_ret;exact⟨rfl,rfl⟩
 by_cases C:op=8
 ·subst C;go_in;go_wp2;go_ret;exact⟨rfl,rfl⟩
 have e:pts op=0:=by simp[pts,A,B,C,D]
 rw[e];have E:(op==6)=false:=by simp[A]
 have G:(op==7)=false:=by simp[B]
 have H:(op==8)=false:=by simp[C]
 have I:(op==9)=false:=by simp[D]
 clear e A B C D;go_in;go_wp2;go_ret;exact⟨rfl,rfl⟩
set_option maxHeartbeats 1000000
theorem q4x(ds:List Nd)(a:Option Addr)(cap:Nat)(hl:ds.length<=400):∀(f i:Nat)(w:World),q1u w a ds->ds.length-i<f->i<=1000->
  Calls prog 222 #[.slice a ds.length cap,.int .i64 i] w fun e w'=>e=.returned (.int .i64 (v7y (q0o ds i 1)))/\w=w':=by
 intro f
 induction f with
 | zero=>intro i w _ h;omega
 | succ f ih=>
  intro i w M Z c;have K:Hid (q1u w a ds):=M
  have P:Hid (∀(i:Nat)(w:World),q1u w a ds->ds.length-i<f->i<=1000->
   Calls prog 222 #[.slice a ds.length cap,.int .i64 i] w fun e w'=>e=.returned (.int .i64 (v7y (q0o ds i 1)))/\w=w'):=ih
  clear M ih;by_cases C:i<ds.length
  ·obtain⟨b,o,S,Y,X,Q,R⟩:=K.o i C;have L:Hid (q0o ds i 1=q0o ds (i+1) (pts ds[i].op)):=z6a _ _ 0 C;have N:=j9c ds[i].op;generalize D:pts ds[i].op=p at L N;have O:Hid (pts ds[i].op=p):=D;subst S;clear Q R D;go_in;go_wp2_with(go_at_call 248;refine(j0i _ _).mono ?_;rintro e w'⟨rfl,rfl⟩;rw[O.o])
   go_loopw [1,5] (fun z m wr=>wr=w/\∃q:Nat,q<=2/\m=.int .i64 q/\((∃k:Nat,i<k/\k<=ds.length/\z=.int .i64 k/\q0o ds i 1=q0o ds k q)\/(z=.int .i64 (-1)/\q0o ds i 1=none))) (fun _ m _=>(intOf m).toNat)
   case atStart=>exact⟨rfl,p,N,rfl,.inl ⟨i+1,by omega,by omega,by go_num,L.o⟩⟩
   case round=>
    obtain⟨rfl,q,d,rfl,⟨k,V,W,rfl,B⟩|⟨rfl,B⟩⟩:=hrel
    ·have A:Hid (q0o ds i 1=q0o ds k q):=B;clear B;by_cases G:q=0
     ·subst G;have H:Hid (q0o ds i 1=some k):=A.o.trans (z6b _ _);go_wp2;go_ret;exact⟨by rw[H.o];rfl,rfl⟩
     ·obtain⟨E,rfl⟩:∃E,q=E+1:=⟨q-1,by omega⟩;have J:Hid (q0o ds i 1=(q0o ds k 1).bind fun j=>q0o ds j E):=A.o.trans (by rw[Nat.add_comm E 1,j3s]);clear G;go_wp2_with(go_at_call 222;refine(P.o k _ K.o (by omega) (by omega)).mono ?_;rintro e w'⟨rfl,rfl⟩)
      go_roundw
      case rel=>
       refine⟨by trivial,E,by omega,by go_num,?_⟩;cases I:q0o ds k 1 with
       | none=>exact .inr ⟨rfl,by rw[J.o,I];rfl⟩
       | some j=>
        have U:=k6h I;exact .inl ⟨j,by omega,by omega,rfl,by rw[J.o,I];rfl⟩
      case measure=>simp[intOf]
    ·have A:Hid (q0o ds i 1=none):=B;clear B;by_cases G:q=0
     ·subst G;go_wp2;go_ret;exact⟨by rw[A.o];rfl,rfl⟩
     ·go_wp2;go_ret;exact⟨by rw[A.o];rfl,rfl⟩
  ·have A:Hid (q0o ds i 1=none):=k0p _ _ _ (by omega);go_in;go_wp2;go_ret;exact⟨by rw[A.o];rfl,rfl⟩
def q2d(ds:List Nd)(a:Option Addr)(cap:Nat)(A:List Nd)(sA:ByteArray)(fA:Bool):Prop:=∀(i:Nat)(r:List Nd)(w:World),ds.drop i=A++r->q1u w a ds->
  Calls prog 223 #[.slice a ds.length cap,.int .i64 i] w fun e w'=>e=.returned (.tuple #[.string sA,.bool fA])/\Below w w w'
set_option maxHeartbeats 4000000
theorem v3g(ds:List Nd)(a:Option Addr)(cap:Nat)(tx:ByteArray)(n:Int):q2d ds a cap (⟨2,tx,n⟩::[]) (⟨#[32]⟩) (true):=by
 intro i r w H A;obtain⟨K,E,G⟩:=q0t (x:=⟨2,tx,n⟩) (r:=[]++r) H;obtain⟨I,M,J,L,B,C,D⟩:=A i K;subst J;rw[E]at B C D;dsimp only at B C D;have N:Hid (ds.drop (i+1)=[]++r):=G;have O:Hid (q1u w (some ⟨I,M,none⟩) ds):=A;clear H E G A;go_in;go_wp2;go_ret2;exact⟨rfl,Below.refl _ _⟩
theorem v3h(ds:List Nd)(a:Option Addr)(cap:Nat)(tx:ByteArray)(n:Int):q2d ds a cap (⟨3,tx,n⟩::[]) (⟨#[]⟩) (true):=by
 intro i r w H A;obtain⟨K,E,G⟩:=q0t (x:=⟨3,tx,n⟩) (r:=[]++r) H;obtain⟨I,M,J,L,B,C,D⟩:=A i K;subst J;rw[E]at B C D;dsimp only at B C D;have N:Hid (ds.drop (i+1)=[]++r):=G;have O:Hid (q1u w (some ⟨I,M,none⟩) ds):=A;clear H E G A;go_in;go_wp2;go_ret2;exact⟨rfl,Below.refl _ _⟩
theorem v3i(ds:List Nd)(a:Option Addr)(cap:Nat)(tx:ByteArray)(n:Int):q2d ds a cap (⟨4,tx,n⟩::[]) (⟨#[]⟩) (false):=by
 intro i r w H A;obtain⟨K,E,G⟩:=q0t (x:=⟨4,tx,n⟩) (r:=[]++r) H;obtain⟨I,M,J,L,B,C,D⟩:=A i K;subst J;rw[E]at B C D;dsimp only at B C D;have N:Hid (ds.drop (i+1)=[]++r):=G;have O:Hid (q1u w (some ⟨I,M,none⟩) ds):=A;clear H E G A;go_in;go_wp2;go_ret2;exact⟨rfl,Below.refl _ _⟩
theorem v3j(ds:List Nd)(a:Option Addr)(cap:Nat)(tx:ByteArray)(n:Int):q2d ds a cap (⟨5,tx,n⟩::[]) (⟨#[]⟩) (true):=by
 intro i r w H A;obtain⟨K,E,G⟩:=q0t (x:=⟨5,tx,n⟩) (r:=[]++r) H;obtain⟨I,M,J,L,B,C,D⟩:=A i K;subst J;rw[E]at B C D;dsimp only at B C D;have N:Hid (ds.drop (i+1)=[]++r):=G;have O:Hid (q1u w (some ⟨I,M,none⟩) ds):=A;clear H E G A;go_in;go_wp2;go_ret2;exact⟨rfl,Below.refl _ _⟩
theorem v3f(ds:List Nd)(a:Option Addr)(cap:Nat)(tx:ByteArray)(n:Int):q2d ds a cap (⟨1,tx,n⟩::[]) (tx) (true):=by
 intro i r w H A;obtain⟨K,E,G⟩:=q0t (x:=⟨1,tx,n⟩) (r:=[]++r) H;obtain⟨I,M,J,L,B,C,D⟩:=A i K;subst J;rw[E]at B C D;dsimp only at B C D;have N:Hid (ds.drop (i+1)=[]++r):=G;have O:Hid (q1u w (some ⟨I,M,none⟩) ds):=A;clear H E G A;go_in;go_wp2;go_ret2;exact⟨rfl,Below.refl _ _⟩
theorem v3k(ds:List Nd)(a:Option Addr)(cap:Nat)(hl:ds.length<=400)(tx:ByteArray)(n:Int)(A C:List Nd)(sA sC:ByteArray)(fA fC:Bool)(hA:q2d ds a cap A sA fA)(hC:q2d ds a cap C sC fC)(f:sA.size<=8800)(g:sC.size<=8800)(hE:∀i r,ds.drop i=A++r->q0o ds i 1=some (i+A.length)):q2d ds a cap (⟨6,tx,n⟩::(A++C)) (if(fA&&fC)=true then sA++sC else⟨#[]⟩) (fA&&fC):=by
 intro i r w R I;obtain⟨b,P,Q⟩:=q0t (x:=⟨6,tx,n⟩) (r:=(A++C)++r) R;obtain⟨H,K,Z,d,M,N,O⟩:=I i b;subst Z;rw[P]at M N O;dsimp only at M N O;have E:Hid (ds.drop (i+1)=(A++C)++r):=Q;have G:Hid (q1u w (some ⟨H,K,none⟩) ds):=I;have V:Hid (q2d ds (some ⟨H,K,none⟩) cap A sA fA):=hA;have X:Hid (q2d ds (some ⟨H,K,none⟩) cap C sC fC):=hC;have L:Hid (((i+1:Nat):Int)=(i:Int)+1):=(show _=_ by omega);rw[List.append_assoc]at E;have Y:Hid (q0o ds (i+1) 1=some (i+1+A.length)):=hE (i+1) (C++r) E.o;have D:Hid (ds.drop (i+1+A.length)=C++r):=q7p E.o;clear R P Q I hA hC hE;cases fA<;>cases fC
 all_goals
  go_in;go_wp2_with fail;rw[<-L.o];refine(V.o (i+1) (C++r) _ E.o G.o).mono ?_;rintro e U⟨rfl,B⟩;go_wp2_with fail;rw[<-L.o];refine(q4x ds _ cap hl (ds.length+1) (i+1) U (G.o.W B) (by omega) (by omega)).mono ?_;rintro e h⟨rfl,rfl⟩;rw[Y.o];have S:v7y (some (i+1+A.length))=((i+1+A.length:Nat):Int):=rfl;rw[S];generalize c:i+1+A.length=j at D⊢;clear S c;go_wp2_with fail;refine(X.o j r U D.o (G.o.W B)).mono ?_;rintro e k⟨rfl,J⟩;go_wp2;go_ret2;exact⟨rfl,q0e B Zl J⟩
theorem v3l(ds:List Nd)(a:Option Addr)(cap:Nat)(hl:ds.length<=400)(tx:ByteArray)(n:Int)(A:List Nd)(sA:ByteArray)(fA:Bool)(hA:q2d ds a cap A sA fA):q2d ds a cap (⟨7,tx,n⟩::A) (sA) (fA):=by
 intro i r w K B;obtain⟨R,I,J⟩:=q0t (x:=⟨7,tx,n⟩) (r:=A++r) K;obtain⟨D,L,Q,S,E,G,H⟩:=B i R;subst Q;rw[I]at E G H;dsimp only at E G H;have N:Hid (ds.drop (i+1)=A++r):=J;have P:Hid (q1u w (some ⟨D,L,none⟩) ds):=B;have M:Hid (q2d ds (some ⟨D,L,none⟩) cap A sA fA):=hA;have O:Hid (((i+1:Nat):Int)=(i:Int)+1):=(show _=_ by omega);clear K I J B hA;go_in;go_wp2_with fail;rw[<-O.o];refine(M.o (i+1) _ _ N.o P.o).mono ?_;rintro e U⟨rfl,C⟩;go_wp2;go_ret2;exact⟨rfl,C⟩
theorem v3m(ds:List Nd)(a:Option Addr)(cap:Nat)(hl:ds.length<=400)(tx:ByteArray)(n:Int)(A:List Nd)(sA:ByteArray)(fA:Bool)(hA:q2d ds a cap A sA fA):q2d ds a cap (⟨8,tx,n⟩::A) (sA) (fA):=by
 intro i r w K B;obtain⟨R,I,J⟩:=q0t (x:=⟨8,tx,n⟩) (r:=A++r) K;obtain⟨D,L,Q,S,E,G,H⟩:=B i R;subst Q;rw[I]at E G H;dsimp only at E G H;have N:Hid (ds.drop (i+1)=A++r):=J;have P:Hid (q1u w (some ⟨D,L,none⟩) ds):=B;have M:Hid (q2d ds (some ⟨D,L,none⟩) cap A sA fA):=hA;have O:Hid (((i+1:Nat):Int)=(i:Int)+1):=(show _=_ by omega);clear K I J B hA;go_in;go_wp2_with fail;rw[<-O.o];refine(M.o (i+1) _ _ N.o P.o).mono ?_;rintro e U⟨rfl,C⟩;go_wp2;go_ret2;exact⟨rfl,C⟩
theorem v3n(ds:List Nd)(a:Option Addr)(cap:Nat)(hl:ds.length<=400)(tx:ByteArray)(n:Int)(A C:List Nd)(sA:ByteArray)(fA:Bool)(hA:q2d ds a cap A sA fA):q2d ds a cap (⟨9,tx,n⟩::(A++C)) (sA) (fA):=by
 intro i r w M B;obtain⟨S,K,L⟩:=q0t (x:=⟨9,tx,n⟩) (r:=(A++C)++r) M;obtain⟨G,N,R,U,H,I,J⟩:=B i S;subst R;rw[K]at H I J;dsimp only at H I J;have E:Hid (ds.drop (i+1)=(A++C)++r):=L;have Q:Hid (q1u w (some ⟨G,N,none⟩) ds):=B;rw[List.append_assoc]at E;have O:Hid (q2d ds (some ⟨G,N,none⟩) cap A sA fA):=hA;have P:Hid (((i+1:Nat):Int)=(i:Int)+1):=(show _=_ by omega);clear M K L B hA;go_in;go_wp2_with fail;rw[<-P.o];refine(O.o (i+1) _ _ E.o Q.o).mono ?_;rintro e V⟨rfl,D⟩;go_wp2;go_ret2;exact⟨rfl,D⟩
theorem k9m{x:Nd}{a c:Tr}(h:x.op=6):Tr.line (.two x a c)=(if(a.isFlat&&c.isFlat)=true then a.line++c.line else⟨#[]⟩)/\Tr.isFlat (.two x a c)=(a.isFlat&&c.isFlat):=by
 unfold Tr.line Tr.isFlat;simp only[Tr.flat,if_pos h];cases A:a.flat with
 | none=>simp
 | some s=>
  cases B:c.flat with
  | none=>simp
  | some t=>exact⟨q6c (by simp),by simp⟩
theorem q3w(ds:List Nd)(a:Option Addr)(cap:Nat)(hl:ds.length<=400):∀t:Tr,t.Wf->t.N.length<=400->q2d ds a cap t.N t.line t.isFlat
 | .leaf ⟨op,tx,n⟩,h,hn=>by
  rcases q3y h.1 h.2 with e|e|e|e|e
  all_goals (simp only at e;subst e)
  ·have es:Tr.line (.leaf ⟨1,tx,n⟩)=tx:=q6c (by rw[z4f];simp[Tr.flat]);rw[es];exact v3f ds a cap tx n
  ·exact v3g ds a cap tx n
  ·exact v3h ds a cap tx n
  ·exact v3i ds a cap tx n
  ·exact v3j ds a cap tx n
 | .one ⟨op,tx,n⟩ a',h,hn=>by
  have hn':a'.N.length<=400:=by simp[Tr.N]at hn;omega
  rcases q7y h.2.1 with e|e
  all_goals (simp only at e;subst e)
  ·exact v3l ds a cap hl tx n _ _ _ (q3w ds a cap hl a' h.2.2 hn')
  ·exact v3m ds a cap hl tx n _ _ _ (q3w ds a cap hl a' h.2.2 hn')
 | .two ⟨op,tx,n⟩ a' c,h,hn=>by
  have A:a'.N.length<=400:=by simp[Tr.N]at hn;omega
  have B:c.N.length<=400:=by simp[Tr.N]at hn;omega
  have C:a'.line.size<=8800:=by have:=q7r a' h.2.2.1;rw[q7w];omega
  have D:c.line.size<=8800:=by have:=q7r c h.2.2.2;rw[q7w];omega
  rcases q7k h.2.1 with e|e
  all_goals (simp only at e;subst e)
  ·obtain⟨E,G⟩:=k9m (x:=⟨6,tx,n⟩) (a:=a') (c:=c) rfl;rw[E,G];exact v3k ds a cap hl tx n _ _ _ _ _ _ (q3w ds a cap hl a' h.2.2.1 A) (q3w ds a cap hl c h.2.2.2 B) C D fun i r hd=>q4u h.2.2.1 hd
  ·exact v3n ds a cap hl tx n _ _ _ _ (q3w ds a cap hl a' h.2.2.1 A)
end Go.Proofs.YthcpdohdppkmkaaGreatDoor
