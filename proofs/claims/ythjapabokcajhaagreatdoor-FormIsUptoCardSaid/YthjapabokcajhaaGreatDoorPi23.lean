/- Texts as one: RAh, WayT, DocA1, DocR, FlatR, FlatR2, FlatR6, FlatR7, FlatRZ, RTl. -/
import Derived.Test.YthjapabokcajhaaGreatDoorPi22
open Go.Proofs.Tryz
namespace Go.Proofs.YthjapabokcajhaaGreatDoor
open Go Go.RowKit
set_option maxRecDepth 100000
set_option maxHeartbeats 4000000
def v8j(g:Option Nat)(w:World)(a:Option Addr)(ws:List Int):Prop:=
 ∀i(h:i<ws.length),∃b o,a=some ⟨b,o,none⟩/\b<w.heap.size/\some b≠g/\w.cell? ⟨b,o+i,none⟩=some (.int .i64 ws[i])
theorem v8j.ints{g:Option Nat}{w:World}{a:Option Addr}{ws:List Int}(h:v8j g w a ws):q9e w a ws:=by
 intro i hi;obtain⟨b,o,e,h1,_,c⟩:=h i hi;exact⟨b,o,e,h1,c⟩
def q4v(g:Option Nat)(w:World)(a:Option Addr)(ls:List (List Int)):Prop:=
 ∀i(h:i<ls.length),∃b o a' c',a=some ⟨b,o,none⟩/\b<w.heap.size/\some b≠g/\w.cell? ⟨b,o+i,none⟩=some (.slice a' ls[i].length c')/\ls[i].length<=c'/\v8j g w a' ls[i]/\(a'=none->ls[i]=[]/\c'=0)
theorem q4v.kept{g:Option Nat}{w w':World}{a:Option Addr}{ls:List (List Int)}(h:q4v g w a ls)(hs:w.heap.size<=w'.heap.size)(hk:∀k,k<w.heap.size->some k≠g->w'.heap[k]?=w.heap[k]?):q4v g w' a ls:=by
 intro i hi;obtain⟨b,o,a',c',e,h1,h2,c,h3,h4,h5⟩:=h i hi;refine⟨b,o,a',c',e,by omega,h2,(World.cell?_of_block (w:=w) (a:=(b,o+i)) (hk b h1 h2)).trans c,h3,fun j hj=>?_,h5⟩;obtain⟨b',o',e',g1,g2,c2⟩:=h4 j hj;exact⟨b',o',e',by omega,g2,(World.cell?_of_block (w:=w) (a:=(b',o'+j)) (hk b' g1 g2)).trans c2⟩
theorem q4v.below{g:Option Nat}{w w':World}{a:Option Addr}{ls:List (List Int)}(h:q4v g w a ls)(hb:Below w w w'):q4v g w' a ls:=h.kept hb.size fun k hk _=>hb.block k hk
theorem q4v.new{g g':Option Nat}{w:World}{a:Option Addr}{ls:List (List Int)}(h:q4v g w a ls)(hg:∀k,g'=some k->w.heap.size<=k):q4v g' w a ls:=by
 intro i hi;obtain⟨b,o,a',c',e,h1,h2,c,h3,h4,h5⟩:=h i hi;refine⟨b,o,a',c',e,h1,fun q=>by have:=hg b q.symm;omega,c,h3,fun j hj=>?_,h5⟩;obtain⟨b',o',e',g1,g2,c2⟩:=h4 j hj;exact⟨b',o',e',g1,fun q=>by have:=hg b' q.symm;omega,c2⟩
theorem z3g.waysN{B:Nat}{a:Option Addr}{n c:Nat}{ls:List (List Int)}{g g':Option Nat}{w:World}(h:z3g B (.slice a n c) ls g' w)(hg:∀k,g=some k->k<B):n=ls.length/\q4v g w a ls:=by
 obtain⟨xs,h1,h2⟩:=h;have hx:xs.length=ls.length:=by have:=h1.1;omega
 rcases h1.2 with⟨hv,h0⟩|⟨gg,cc,cur,hv,hb,hgg,hnc,_,hsz,htake⟩
 ·simp only[Value.slice.injEq]at hv;obtain⟨rfl,rfl,rfl⟩:=hv;exact⟨h0.symm,fun i hi=>by omega⟩
 ·simp only[Value.slice.injEq]at hv;obtain⟨rfl,rfl,rfl⟩:=hv;refine⟨rfl,fun i hi=>?_⟩;obtain⟨a',c',e1,e2,_⟩:=h2 i hi;obtain⟨_,_,q2,q3,q4⟩:=k7f e2;refine⟨gg,0,a',c',rfl,(Array.getElem?_eq_some_iff.1 hgg).1,fun q=>by have:=hg gg q.symm;omega,?_,q2,fun j hj=>?_,q4⟩
  ·rw[<-htake,List.getElem?_take_of_lt (by omega)]at e1;rw[Nat.zero_add];simp only[World.cell?,hgg];simpa using e1
  ·obtain⟨b',o',e',g1,c2⟩:=q3 j hj;subst e';refine⟨b',o',rfl,g1,fun q=>?_,c2⟩;have h5:=(e2.lt b' rfl).1
   have:=hg b' q.symm
   omega
def y7a(B:Nat)(g0:Option Nat)(ls ms:List (List Int))(c:Int)(w:World)(vo vi:Value)(wr:World):Prop:=
 ∃(k:Nat)(av:Option Addr)(cv:Nat),k<=ms.length/\vi=.int .i64 k/\vo=.slice av (ls.length+k) cv/\z3g B (.slice av (ls.length+k) cv) (ls++(ms.take k).map (c::·)) none wr/\w.grownBy wr g0/\((Value.slice av (ls.length+k) cv).ownBlock=g0\/∀j,(Value.slice av (ls.length+k) cv).ownBlock=some j->w.heap.size<=j)
theorem q6d(B:Nat)(v:Value)(ls ms:List (List Int))(c:Int)(a:Option Addr)(ca:Nat)(w:World)(hG:z3g B v ls none w)(hM:q4v v.ownBlock w a ms)(hB:B<=w.heap.size)(hl:ls.length+ms.length<=1000)(hx:∀x∈ms,x.length<=1000):
  Calls prog 149 #[v,c,.slice a ms.length ca] w fun e w'=>∃v',e=.returned v'/\z3g B v' (ls++ms.map (c::·)) none w'/\w.grownBy w' v.ownBlock/\(v'.ownBlock=v.ownBlock\/∀k,v'.ownBlock=some k->w.heap.size<=k):=by
 obtain⟨i1,hi1,hy0,hy1,hy2⟩:=info_parts v2q;have HG0:=hid hG;have HM:=hid hM;have HX:=hid hx
 obtain⟨av0,cv0,rfl⟩:∃av cv,v=.slice av ls.length cv:=by
  obtain⟨xs,h1,_⟩:=hG;rcases h1.2 with⟨hv,h0⟩|⟨g,c,cur,hv,_⟩
  ·exact⟨none,0,by rw[hv,h0]⟩
  ·exact⟨_,c,hv⟩
 generalize hg0:(Value.slice av0 ls.length cv0).ownBlock=g0 at HM;have HV:=hid hg0;clear hG hM hx hg0;go_in;go_wp2
 go_loopw [0,7] (fun vo vi wr=>y7a B g0 ls ms c w vo vi wr) (fun _ vi _=>ms.length-(intOf vi).toNat)
 case atStart=>exact⟨0,av0,cv0,Nat.zero_le _,rfl,rfl,by simpa using HG0.o,⟨rfl,rfl,rfl,Nat.le_refl _,fun _ _ _=>rfl⟩,.inl HV.o⟩
 case round=>
  obtain⟨k,av,cv,hk,rfl,rfl,hG,hgr,hat⟩:=hrel;have HG:=hid hG;have HGR:=hid hgr;have HAT:=hid hat;have hsr:=hgr.size;clear hG hgr hat;by_cases hlt:k<ms.length
  ·have hki:(k:Int)<(ms.length:Int):=by omega
   obtain⟨b1,o1,a4,d1,ea,hb1,_,c1,_,i4,hnil⟩:=(HM.o.kept hsr fun j hj hne=>HGR.o.block j hj hne) k hlt;subst ea;have hml:=HX.o _ (List.getElem_mem hlt);have hmt:(ms.take (k+1)).map (c::·)=(ms.take k).map (c::·)++[c::ms[k]]:=by rw[List.take_add_one,List.getElem?_eq_getElem hlt,List.map_append];rfl
   have HI4:=hid i4.ints;generalize ms[k]=m at c1 hml hmt HI4 hnil;have HMT:=hid hmt;have HNIL:=hid hnil
   have HO:Hid ((wr.alloc (.cells #[c] 3)).ownsRow wr.heap.size 3 1 (.slice wr.heap.size 1 1) 1 (q0k [c])):=
    ⟨rfl,.inr ⟨wr.heap.size,1,#[c],rfl,Nat.le_refl _,heap_alloc_new wr _,Nat.le_refl _,by unfold maxLen;decide,rfl,rfl⟩⟩
   clear i4 hnil hmt;go_wp2_with(at_builtin;refine z1g rfl _ _ rfl wr.heap.size _ _ [c] rfl HO.o a4 m d1 rfl (HI4.o.below ((Below.refl _ wr).alloc Zl _)) HNIL.o (by omega) (by simp) ?_);intro v5 w5 hown5 hgrow5;have hb5:=((Below.refl _ wr).alloc Zl _).grown hgrow5 (by simp) (fun j hj=>by simp only[Value.ownBlock,Option.some.injEq]at hj;omega)
   obtain⟨a5,c5,rfl⟩:∃a5 c5,v5=.slice a5 (c::m).length c5:=by
    rcases hown5.2 with⟨hv,h0⟩|⟨g,q,cur,hv,_⟩
    ·omega
    ·exact⟨_,q,by rw[hv];congr 1;simp;omega⟩
   have HO5:Hid (w5.ownsRow B 3 1 (.slice a5 (c::m).length c5) (c::m).length (q0k (c::m))):=by
    show w5.ownsRow _ _ _ _ _ _;have e1:(c::m).length=1+m.length:=by simp;omega
    rw[e1]at hown5⊢;exact v3w hown5 (by omega)
   obtain⟨xs,hx,hall⟩:=HG.o.below hb5;have hlk:(ls++(ms.take k).map (c::·)).length=ls.length+k:=by simp;omega
   have HLK:=hid hlk;have HXX:=hid hx
   have HXk:Hid (w5.ownsRow B 45 1 (.slice av (ls.length+k) cv) (ls.length+k) xs):=by
    have:=hx
    rw[hlk]at this;exact this
   have HALL:=(show Hid (∀i(h:i<(ls++(ms.take k).map (c::·)).length),∃a c',xs[i]?=some (.slice a (ls++(ms.take k).map (c::·))[i].length c')/\w5.ownsRow B 3 1 (.slice a (ls++(ms.take k).map (c::·))[i].length c') (ls++(ms.take k).map (c::·))[i].length (q0k (ls++(ms.take k).map (c::·))[i])/\(∀j,(Value.slice a (ls++(ms.take k).map (c::·))[i].length c').ownBlock=some j->(none:Option Nat)≠some j))from hall);have hs5:=hb5.size;have HB5:=hid hb5;generalize hlm:(c::m).length=nl at HO5;have HLM:=hid hlm;clear hx hall hown5 hgrow5 hb5 hlk HO hlm;go_wp2_with(at_builtin;refine wpList_append_lies _ rfl _ _ 114 rfl B 45 i1 _ 1 24 Tryz.underlying114 hi1 hy0 hy1 hy2 rfl (by decide) _ _ _ rfl (HXk.o.alloc _) w5.heap.size 1 1 [.slice a5 nl c5] rfl rfl (cell_one_new w5 _ _) (by intro u hu;simp at hu;subst hu;rfl) (by decide) (by unfold maxLen;omega) (by omega) (by simp;omega) (w5.heap.size+1) (by simp) ?_);intro g6 cap6 w6 hown6 hgrow6 hat6 hlt6
   have HG6:Hid (z3g B (.slice g6 (ls.length+(k+1)) cap6) (ls++(ms.take (k+1)).map (c::·)) none w6):=by
    show z3g _ _ _ _ _;rw[HMT.o,<-List.append_assoc];have ho:=HO5.o;rw[<-HLM.o]at ho;refine z3g.push (HXX.o.alloc _) (fun i hi=>?_) (ho.alloc _) (fun _ _=>by simp) hgrow6 (by rw[HLK.o,HLM.o,<-Nat.add_assoc];exact hown6);obtain⟨a',c',e1,e2,e3⟩:=HALL.o i hi;exact⟨a',c',e1,e2.alloc _,e3⟩
   have HGR6:Hid (w.grownBy w6 g0):=by
    refine⟨hgrow6.os.trans (HB5.o.os.trans HGR.o.os),hgrow6.tape.trans (HB5.o.tape.trans HGR.o.tape),hgrow6.output.trans (HB5.o.output.trans HGR.o.output),?_,fun j hj hne=>?_⟩
    ·have:=hgrow6.size
     simp at this;omega
    ·refine(hgrow6.block j (by simp;omega) ?_).trans ((Below.heap_alloc _ _ _ (by omega)).trans ((HB5.o.block j (by omega)).trans (HGR.o.block j hj hne)));intro e;rcases HAT.o with h|h
     ·exact hne (e.trans h)
     ·have:=h j e.symm
      omega
   have HAT6:Hid ((Value.slice g6 (ls.length+(k+1)) cap6).ownBlock=g0\/∀j,(Value.slice g6 (ls.length+(k+1)) cap6).ownBlock=some j->w.heap.size<=j):=by
    rcases hat6 with h|h
    ·rcases HAT.o with h1|h1
     ·exact .inl (h.symm.trans h1)
     ·exact .inr fun j hj=>h1 j (h.trans hj)
    ·refine .inr fun j hj=>?_
     simp only[Value.ownBlock,Option.some.injEq]at hj;omega
   clear hown6 hgrow6 hat6 hlt6 HXX HXk HALL HO5 HB5;go_wp2
   go_roundw
   case rel=>exact⟨k+1,_,_,by omega,by go_num,rfl,HG6.o,HGR6.o,HAT6.o⟩
   case measure=>simp[intOf];omega
  ·obtain rfl:k=ms.length:=by omega
   go_wp2;go_ret;have hG:=HG.o;rw[List.take_length]at hG;exact⟨_,rfl,hG,HGR.o,HAT.o⟩
end Go.Proofs.YthjapabokcajhaaGreatDoor
namespace Go.Proofs.YthjapabokcajhaaGreatDoor
def q3r(l L:List (List Int)):Prop:=l.take 301=L.take 301
theorem q3r.cut(l:List (List Int)):q3r (l.take 301) l:=by
 unfold q3r;rw[List.take_take,Nat.min_self]
theorem q3r.or{l L:List (List Int)}(h:q3r l L):l=L\/(301<=l.length/\301<=L.length):=by
 unfold q3r at h;have hl:=congrArg List.length h;rw[List.length_take,List.length_take]at hl;by_cases h1:301<=l.length
 ·exact .inr ⟨h1,by omega⟩
 ·left;rw[List.take_of_length_le (by omega),List.take_of_length_le (by omega)]at h;exact h
theorem q3r.map{l L:List (List Int)}(h:q3r l L)(f:List Int->List Int):q3r (l.map f) (L.map f):=by
 unfold q3r at *;rw[<-List.map_take,<-List.map_take,h]
theorem q3r.app{l L m M:List (List Int)}(h:q3r l L)(k:q3r m M):q3r (l++m) (L++M):=by
 rcases h.or with rfl|⟨h1,h2⟩
 ·unfold q3r at *;rw[List.take_append,List.take_append]
  congr 1
  have e:∀x:List (List Int),x.take (301-l.length)=(x.take 301).take (301-l.length):=fun x=>by rw[List.take_take];congr 1;omega
  rw[e m,e M,k]
 ·unfold q3r at *;rw[List.take_append_of_le_length h1,List.take_append_of_le_length h2,h]
theorem q3r.flat{l L:List (List Int)}(h:q3r l L):∀us:List (List Int),q3r (us.flatMap fun u=>l.map (u++·)) (us.flatMap fun u=>L.map (u++·))
 | []=>rfl
 | u::us=>by
  rw[List.flatMap_cons,List.flatMap_cons];exact(h.map _).app (h.flat us)
def Tr.tl:Tr->List (List Int)->List (List Int)
 | .leaf _,bs=>bs
 | .one x a,bs=>if x.op=7 then a.tl bs else((if a.isFlat=true then bs.map (0::·)else [])++(a.tl bs).map (1::·)).take 301
 | .two x a b,bs=>if x.op=6 then a.tl (b.tl bs)else((a.tl bs).map (0::·)++(b.tl bs).map (1::·)).take 301
theorem q8v:∀(t:Tr)(bs:List (List Int)),q3r (t.tl bs) (t.ways.flatMap fun u=>bs.map (u++·))
 | .leaf x,bs=>by simp only[Tr.tl,Tr.ways,List.flatMap_cons,List.flatMap_nil,List.append_nil];simp[q3r]
 | .one x a,bs=>by
  have ih:=q8v a bs;simp only[Tr.tl,Tr.ways]
  split
  ·exact ih
  ·refine(q3r.cut _).trans ?_;rw[List.flatMap_append];refine q3r.app ?_ ?_
   ·split
    ·simp[q3r]
    ·simp[q3r]
   ·have e:(a.ways.map (1::·)).flatMap (fun u=>bs.map (u++·))=(a.ways.flatMap fun u=>bs.map (u++·)).map (1::·):=by
     rw[List.flatMap_map,List.map_flatMap]
     congr 1
     funext u
     rw[List.map_map];rfl
    rw[e];exact ih.map _
 | .two x a b,bs=>by
  simp only[Tr.tl,Tr.ways]
  split
  ·have e:(a.ways.flatMap fun u=>b.ways.map (u++·)).flatMap (fun u=>bs.map (u++·))=a.ways.flatMap fun u=>(b.ways.flatMap fun v=>bs.map (v++·)).map (u++·):=by
    rw[List.flatMap_assoc]
    congr 1
    funext u
    rw[List.flatMap_map,List.map_flatMap]
    congr 1
    funext v
    rw[List.map_map]
    congr 1
    funext z
    exact List.append_assoc u v z
   rw[e];exact(q8v a (b.tl bs)).trans ((q8v b bs).flat a.ways)
  ·refine(q3r.cut _).trans ?_
   have e0:(a.ways.map (0::·)).flatMap (fun u=>bs.map (u++·))=(a.ways.flatMap fun u=>bs.map (u++·)).map (0::·):=by
    rw[List.flatMap_map,List.map_flatMap]
    congr 1
    funext u
    rw[List.map_map];rfl
   have e1:(b.ways.map (1::·)).flatMap (fun u=>bs.map (u++·))=(b.ways.flatMap fun u=>bs.map (u++·)).map (1::·):=by
    rw[List.flatMap_map,List.map_flatMap]
    congr 1
    funext u
    rw[List.map_map];rfl
   rw[List.flatMap_append,e0,e1];exact((q8v a bs).map _).app ((q8v b bs).map _)
theorem y2c(t:Tr):q3r (t.tl [[]]) t.ways:=by
 have h:=q8v t [[]]
 have e:(t.ways.flatMap fun u=>[[]].map (u++·))=t.ways:=by
  simp
 rw[e]at h;exact h
theorem y5u(t:Tr):(t.ways.length<=300/\t.tl [[]]=t.ways)\/(300<t.ways.length/\300<(t.tl [[]]).length):=by
 rcases(y2c t).or with h|⟨h1,h2⟩
 ·by_cases hl:t.ways.length<=300
  ·exact .inl ⟨hl,h⟩
  ·exact .inr ⟨by omega,by rw[h];omega⟩
 ·exact .inr ⟨by omega,by omega⟩
theorem k7r:∀(t:Tr)(bs:List (List Int)),bs.length<=301->(t.tl bs).length<=301
 | .leaf x,bs,h=>h
 | .one x a,bs,h=>by
  simp only[Tr.tl]
  split
  ·exact k7r a bs h
  ·rw[List.length_take];omega
 | .two x a b,bs,h=>by
  simp only[Tr.tl]
  split
  ·exact k7r a _ (k7r b bs h)
  ·rw[List.length_take];omega
theorem j9e:∀(t:Tr)(bs:List (List Int))(m:Nat),(∀x∈bs,x.length<=m)->∀x∈t.tl bs,x.length<=m+t.nodes.length
 | .leaf x,bs,m,h,y,hy=>by have:=h y hy;omega
 | .one x a,bs,m,h,y,hy=>by
  have ih:=j9e a bs m h;simp only[Tr.tl]at hy;simp only[Tr.nodes,List.length_cons]
  split at hy
  ·have:=ih y hy;omega
  ·have hy:=List.mem_of_mem_take hy;rcases List.mem_append.1 hy with hy|hy
   ·split at hy
    ·obtain⟨z,hz,rfl⟩:=List.mem_map.1 hy
     have:=h z hz
     simp;omega
    ·simp at hy
   ·obtain⟨z,hz,rfl⟩:=List.mem_map.1 hy
    have:=ih z hz
    simp;omega
 | .two x a b,bs,m,h,y,hy=>by
  have ia:=j9e a bs m h;have ib:=j9e b bs m h;simp only[Tr.tl]at hy;simp only[Tr.nodes,List.length_cons,List.length_append]
  split at hy
  ·have:=j9e a (b.tl bs) _ ib y hy;omega
  ·have hy:=List.mem_of_mem_take hy;rcases List.mem_append.1 hy with hy|hy
   ·obtain⟨z,hz,rfl⟩:=List.mem_map.1 hy
    have:=ia z hz
    simp;omega
   ·obtain⟨z,hz,rfl⟩:=List.mem_map.1 hy
    have:=ib z hz
    simp;omega
end Go.Proofs.YthjapabokcajhaaGreatDoor
namespace Go.Proofs.YthjapabokcajhaaGreatDoor
open Go Go.RowKit
set_option maxRecDepth 100000
theorem k9x(op:Int)(w:World):Calls prog 189 #[.int .i64 op] w fun e w'=>e=.returned (.int .i64 (pts op))/\w=w':=by
 by_cases h6:op=6
 ·subst h6;go_in;go_wp2;go_ret;exact⟨rfl,rfl⟩
 by_cases h9:op=9
 ·subst h9;go_in;go_wp2;go_ret;exact⟨rfl,rfl⟩
 by_cases h7:op=7
 ·subst h7;go_in;go_wp2;go_ret;exact⟨rfl,rfl⟩
 by_cases h8:op=8
 ·subst h8;go_in;go_wp2;go_ret;exact⟨rfl,rfl⟩
 have e:pts op=0:=by simp[pts,h6,h7,h8,h9]
 rw[e];have g6:(op==6)=false:=by simp[h6]
 have g7:(op==7)=false:=by simp[h7]
 have g8:(op==8)=false:=by simp[h8]
 have g9:(op==9)=false:=by simp[h9]
 clear e h6 h7 h8 h9;go_in;go_wp2;go_ret;exact⟨rfl,rfl⟩
set_option maxHeartbeats 1000000
theorem q4t(ds:List Nd)(a:Option Addr)(cap:Nat)(hl:ds.length<=400):∀(f i:Nat)(w:World),q1u w a ds->ds.length-i<f->i<=1000->
  Calls prog 147 #[.slice a ds.length cap,.int .i64 i] w fun e w'=>e=.returned (.int .i64 (v6p (q0v ds i 1)))/\w=w':=by
 intro f
 induction f with
 | zero=>intro i w _ h;omega
 | succ f ih=>
  intro i w hN hf hi;have HN:Hid (q1u w a ds):=hN
  have IH:Hid (∀(i:Nat)(w:World),q1u w a ds->ds.length-i<f->i<=1000->
   Calls prog 147 #[.slice a ds.length cap,.int .i64 i] w fun e w'=>e=.returned (.int .i64 (v6p (q0v ds i 1)))/\w=w'):=ih
  clear hN ih;by_cases hlt:i<ds.length
  ·obtain⟨b,o,ea,hb,c1,c2,c3⟩:=HN.o i hlt;have HS:Hid (q0v ds i 1=q0v ds (i+1) (pts ds[i].op)):=z6i _ _ 0 hlt;have hp:=j8e ds[i].op;generalize hpp:pts ds[i].op=p at HS hp;have HP:Hid (pts ds[i].op=p):=hpp;subst ea;clear c2 c3 hpp;go_in;go_wp2_with(go_at_call 189;refine(k9x _ _).mono ?_;rintro e w'⟨rfl,rfl⟩;rw[HP.o])
   go_loopw [1,5] (fun z m wr=>wr=w/\∃q:Nat,q<=2/\m=.int .i64 q/\((∃k:Nat,i<k/\k<=ds.length/\z=.int .i64 k/\q0v ds i 1=q0v ds k q)\/(z=.int .i64 (-1)/\q0v ds i 1=none))) (fun _ m _=>(intOf m).toNat)
   case atStart=>exact⟨rfl,p,hp,rfl,.inl ⟨i+1,by omega,by omega,by go_num,HS.o⟩⟩
   case round=>
    obtain⟨rfl,q,hq,rfl,⟨k,hk1,hk2,rfl,he⟩|⟨rfl,he⟩⟩:=hrel
    ·have HE:Hid (q0v ds i 1=q0v ds k q):=he;clear he;by_cases h0:q=0
     ·subst h0;have HE':Hid (q0v ds i 1=some k):=HE.o.trans (z6j _ _);go_wp2;go_ret;exact⟨by rw[HE'.o];rfl,rfl⟩
     ·obtain⟨q',rfl⟩:∃q',q=q'+1:=⟨q-1,by omega⟩;have HA:Hid (q0v ds i 1=(q0v ds k 1).bind fun j=>q0v ds j q'):=HE.o.trans (by rw[Nat.add_comm q' 1,j3j]);clear h0;go_wp2_with(go_at_call 147;refine(IH.o k _ HN.o (by omega) (by omega)).mono ?_;rintro e w'⟨rfl,rfl⟩)
      go_roundw
      case rel=>
       refine⟨by trivial,q',by omega,by go_num,?_⟩;cases hj:q0v ds k 1 with
       | none=>exact .inr ⟨rfl,by rw[HA.o,hj];rfl⟩
       | some j=>
        have hjb:=k5x hj;exact .inl ⟨j,by omega,by omega,rfl,by rw[HA.o,hj];rfl⟩
      case measure=>simp[intOf]
    ·have HE:Hid (q0v ds i 1=none):=he;clear he;by_cases h0:q=0
     ·subst h0;go_wp2;go_ret;exact⟨by rw[HE.o];rfl,rfl⟩
     ·go_wp2;go_ret;exact⟨by rw[HE.o];rfl,rfl⟩
  ·have HE:Hid (q0v ds i 1=none):=k0n _ _ _ (by omega);go_in;go_wp2;go_ret;exact⟨by rw[HE.o];rfl,rfl⟩
def q2m(ds:List Nd)(a:Option Addr)(cap:Nat)(A:List Nd)(sA:ByteArray)(fA:Bool):Prop:=∀(i:Nat)(r:List Nd)(w:World),ds.drop i=A++r->q1u w a ds->
  Calls prog 148 #[.slice a ds.length cap,.int .i64 i] w fun e w'=>e=.returned (.tuple #[.string sA,.bool fA])/\Below w w w'
set_option maxHeartbeats 4000000
theorem v2c(ds:List Nd)(a:Option Addr)(cap:Nat)(tx:ByteArray)(n:Int):q2m ds a cap (⟨2,tx,n⟩::[]) (⟨#[32]⟩) (true):=by
 intro i r w hd hN;obtain⟨hi,e1,e2⟩:=q0m (x:=⟨2,tx,n⟩) (r:=[]++r) hd;obtain⟨b0,o0,ea,hlt,c1,c2,c3⟩:=hN i hi;subst ea;rw[e1]at c1 c2 c3;dsimp only at c1 c2 c3;have HD:Hid (ds.drop (i+1)=[]++r):=e2;have HN:Hid (q1u w (some ⟨b0,o0,none⟩) ds):=hN;clear hd e1 e2 hN;go_in;go_wp2;go_ret2;exact⟨rfl,Below.refl _ _⟩
theorem v2d(ds:List Nd)(a:Option Addr)(cap:Nat)(tx:ByteArray)(n:Int):q2m ds a cap (⟨3,tx,n⟩::[]) (⟨#[]⟩) (true):=by
 intro i r w hd hN;obtain⟨hi,e1,e2⟩:=q0m (x:=⟨3,tx,n⟩) (r:=[]++r) hd;obtain⟨b0,o0,ea,hlt,c1,c2,c3⟩:=hN i hi;subst ea;rw[e1]at c1 c2 c3;dsimp only at c1 c2 c3;have HD:Hid (ds.drop (i+1)=[]++r):=e2;have HN:Hid (q1u w (some ⟨b0,o0,none⟩) ds):=hN;clear hd e1 e2 hN;go_in;go_wp2;go_ret2;exact⟨rfl,Below.refl _ _⟩
theorem v2e(ds:List Nd)(a:Option Addr)(cap:Nat)(tx:ByteArray)(n:Int):q2m ds a cap (⟨4,tx,n⟩::[]) (⟨#[]⟩) (false):=by
 intro i r w hd hN;obtain⟨hi,e1,e2⟩:=q0m (x:=⟨4,tx,n⟩) (r:=[]++r) hd;obtain⟨b0,o0,ea,hlt,c1,c2,c3⟩:=hN i hi;subst ea;rw[e1]at c1 c2 c3;dsimp only at c1 c2 c3;have HD:Hid (ds.drop (i+1)=[]++r):=e2;have HN:Hid (q1u w (some ⟨b0,o0,none⟩) ds):=hN;clear hd e1 e2 hN;go_in;go_wp2;go_ret2;exact⟨rfl,Below.refl _ _⟩
theorem v2f(ds:List Nd)(a:Option Addr)(cap:Nat)(tx:ByteArray)(n:Int):q2m ds a cap (⟨5,tx,n⟩::[]) (⟨#[]⟩) (true):=by
 intro i r w hd hN;obtain⟨hi,e1,e2⟩:=q0m (x:=⟨5,tx,n⟩) (r:=[]++r) hd;obtain⟨b0,o0,ea,hlt,c1,c2,c3⟩:=hN i hi;subst ea;rw[e1]at c1 c2 c3;dsimp only at c1 c2 c3;have HD:Hid (ds.drop (i+1)=[]++r):=e2;have HN:Hid (q1u w (some ⟨b0,o0,none⟩) ds):=hN;clear hd e1 e2 hN;go_in;go_wp2;go_ret2;exact⟨rfl,Below.refl _ _⟩
theorem v2b(ds:List Nd)(a:Option Addr)(cap:Nat)(tx:ByteArray)(n:Int):q2m ds a cap (⟨1,tx,n⟩::[]) (tx) (true):=by
 intro i r w hd hN;obtain⟨hi,e1,e2⟩:=q0m (x:=⟨1,tx,n⟩) (r:=[]++r) hd;obtain⟨b0,o0,ea,hlt,c1,c2,c3⟩:=hN i hi;subst ea;rw[e1]at c1 c2 c3;dsimp only at c1 c2 c3;have HD:Hid (ds.drop (i+1)=[]++r):=e2;have HN:Hid (q1u w (some ⟨b0,o0,none⟩) ds):=hN;clear hd e1 e2 hN;go_in;go_wp2;go_ret2;exact⟨rfl,Below.refl _ _⟩
theorem v2g(ds:List Nd)(a:Option Addr)(cap:Nat)(hl:ds.length<=400)(tx:ByteArray)(n:Int)(A C:List Nd)(sA sC:ByteArray)(fA fC:Bool)(hA:q2m ds a cap A sA fA)(hC:q2m ds a cap C sC fC)(hsA:sA.size<=8800)(hsC:sC.size<=8800)(hE:∀i r,ds.drop i=A++r->q0v ds i 1=some (i+A.length)):q2m ds a cap (⟨6,tx,n⟩::(A++C)) (if(fA&&fC)=true then sA++sC else⟨#[]⟩) (fA&&fC):=by
 intro i r w hd hN;obtain⟨hi,e1,e2⟩:=q0m (x:=⟨6,tx,n⟩) (r:=(A++C)++r) hd;obtain⟨b0,o0,ea,hlt,c1,c2,c3⟩:=hN i hi;subst ea;rw[e1]at c1 c2 c3;dsimp only at c1 c2 c3;have HD:Hid (ds.drop (i+1)=(A++C)++r):=e2;have HN:Hid (q1u w (some ⟨b0,o0,none⟩) ds):=hN;have HA:Hid (q2m ds (some ⟨b0,o0,none⟩) cap A sA fA):=hA;have HC:Hid (q2m ds (some ⟨b0,o0,none⟩) cap C sC fC):=hC;have HI:Hid (((i+1:Nat):Int)=(i:Int)+1):=(show _=_ by omega);rw[List.append_assoc]at HD;have HE:Hid (q0v ds (i+1) 1=some (i+1+A.length)):=hE (i+1) (C++r) HD.o;have HD2:Hid (ds.drop (i+1+A.length)=C++r):=q7r HD.o;clear hd e1 e2 hN hA hC hE;cases fA<;>cases fC
 all_goals
  go_in;go_wp2_with fail;rw[<-HI.o];refine(HA.o (i+1) (C++r) _ HD.o HN.o).mono ?_;rintro e w2⟨rfl,hB2⟩;go_wp2_with fail;rw[<-HI.o];refine(q4t ds _ cap hl (ds.length+1) (i+1) w2 (HN.o.below hB2) (by omega) (by omega)).mono ?_;rintro e w3⟨rfl,rfl⟩;rw[HE.o];have hz:v6p (some (i+1+A.length))=((i+1+A.length:Nat):Int):=rfl;rw[hz];generalize hj:i+1+A.length=j at HD2⊢;clear hz hj;go_wp2_with fail;refine(HC.o j r w2 HD2.o (HN.o.below hB2)).mono ?_;rintro e w4⟨rfl,hb4⟩;go_wp2;go_ret2;exact⟨rfl,q0d hB2 Zl hb4⟩
theorem v2h(ds:List Nd)(a:Option Addr)(cap:Nat)(hl:ds.length<=400)(tx:ByteArray)(n:Int)(A:List Nd)(sA:ByteArray)(fA:Bool)(hA:q2m ds a cap A sA fA):q2m ds a cap (⟨7,tx,n⟩::A) (sA) (fA):=by
 intro i r w hd hN;obtain⟨hi,e1,e2⟩:=q0m (x:=⟨7,tx,n⟩) (r:=A++r) hd;obtain⟨b0,o0,ea,hlt,c1,c2,c3⟩:=hN i hi;subst ea;rw[e1]at c1 c2 c3;dsimp only at c1 c2 c3;have HD:Hid (ds.drop (i+1)=A++r):=e2;have HN:Hid (q1u w (some ⟨b0,o0,none⟩) ds):=hN;have HA:Hid (q2m ds (some ⟨b0,o0,none⟩) cap A sA fA):=hA;have HI:Hid (((i+1:Nat):Int)=(i:Int)+1):=(show _=_ by omega);clear hd e1 e2 hN hA;go_in;go_wp2_with fail;rw[<-HI.o];refine(HA.o (i+1) _ _ HD.o HN.o).mono ?_;rintro e w2⟨rfl,hb2⟩;go_wp2;go_ret2;exact⟨rfl,hb2⟩
theorem v2i(ds:List Nd)(a:Option Addr)(cap:Nat)(hl:ds.length<=400)(tx:ByteArray)(n:Int)(A:List Nd)(sA:ByteArray)(fA:Bool)(hA:q2m ds a cap A sA fA):q2m ds a cap (⟨8,tx,n⟩::A) (sA) (fA):=by
 intro i r w hd hN;obtain⟨hi,e1,e2⟩:=q0m (x:=⟨8,tx,n⟩) (r:=A++r) hd;obtain⟨b0,o0,ea,hlt,c1,c2,c3⟩:=hN i hi;subst ea;rw[e1]at c1 c2 c3;dsimp only at c1 c2 c3;have HD:Hid (ds.drop (i+1)=A++r):=e2;have HN:Hid (q1u w (some ⟨b0,o0,none⟩) ds):=hN;have HA:Hid (q2m ds (some ⟨b0,o0,none⟩) cap A sA fA):=hA;have HI:Hid (((i+1:Nat):Int)=(i:Int)+1):=(show _=_ by omega);clear hd e1 e2 hN hA;go_in;go_wp2_with fail;rw[<-HI.o];refine(HA.o (i+1) _ _ HD.o HN.o).mono ?_;rintro e w2⟨rfl,hb2⟩;go_wp2;go_ret2;exact⟨rfl,hb2⟩
theorem v2j(ds:List Nd)(a:Option Addr)(cap:Nat)(hl:ds.length<=400)(tx:ByteArray)(n:Int)(A C:List Nd)(sA:ByteArray)(fA:Bool)(hA:q2m ds a cap A sA fA):q2m ds a cap (⟨9,tx,n⟩::(A++C)) (sA) (fA):=by
 intro i r w hd hN;obtain⟨hi,e1,e2⟩:=q0m (x:=⟨9,tx,n⟩) (r:=(A++C)++r) hd;obtain⟨b0,o0,ea,hlt,c1,c2,c3⟩:=hN i hi;subst ea;rw[e1]at c1 c2 c3;dsimp only at c1 c2 c3;have HD:Hid (ds.drop (i+1)=(A++C)++r):=e2;have HN:Hid (q1u w (some ⟨b0,o0,none⟩) ds):=hN;rw[List.append_assoc]at HD;have HA:Hid (q2m ds (some ⟨b0,o0,none⟩) cap A sA fA):=hA;have HI:Hid (((i+1:Nat):Int)=(i:Int)+1):=(show _=_ by omega);clear hd e1 e2 hN hA;go_in;go_wp2_with fail;rw[<-HI.o];refine(HA.o (i+1) _ _ HD.o HN.o).mono ?_;rintro e w2⟨rfl,hb2⟩;go_wp2;go_ret2;exact⟨rfl,hb2⟩
theorem k9b{x:Nd}{a c:Tr}(h:x.op=6):Tr.line (.two x a c)=(if(a.isFlat&&c.isFlat)=true then a.line++c.line else⟨#[]⟩)/\Tr.isFlat (.two x a c)=(a.isFlat&&c.isFlat):=by
 unfold Tr.line Tr.isFlat;simp only[Tr.flat,if_pos h];cases ha:a.flat with
 | none=>simp
 | some s=>
  cases hc:c.flat with
  | none=>simp
  | some t=>exact⟨q6a (by simp),by simp⟩
theorem q3u(ds:List Nd)(a:Option Addr)(cap:Nat)(hl:ds.length<=400):∀t:Tr,t.Wf->t.nodes.length<=400->q2m ds a cap t.nodes t.line t.isFlat
 | .leaf ⟨op,tx,n⟩,h,hn=>by
  rcases q3w h.1 h.2 with e|e|e|e|e
  all_goals (simp only at e;subst e)
  ·have es:Tr.line (.leaf ⟨1,tx,n⟩)=tx:=q6a (by rw[z4g];simp[Tr.flat]);rw[es];exact v2b ds a cap tx n
  ·exact v2c ds a cap tx n
  ·exact v2d ds a cap tx n
  ·exact v2e ds a cap tx n
  ·exact v2f ds a cap tx n
 | .one ⟨op,tx,n⟩ a',h,hn=>by
  have hn':a'.nodes.length<=400:=by simp[Tr.nodes]at hn;omega
  rcases q7z h.2.1 with e|e
  all_goals (simp only at e;subst e)
  ·exact v2h ds a cap hl tx n _ _ _ (q3u ds a cap hl a' h.2.2 hn')
  ·exact v2i ds a cap hl tx n _ _ _ (q3u ds a cap hl a' h.2.2 hn')
 | .two ⟨op,tx,n⟩ a' c,h,hn=>by
  have hn1:a'.nodes.length<=400:=by simp[Tr.nodes]at hn;omega
  have hn2:c.nodes.length<=400:=by simp[Tr.nodes]at hn;omega
  have hs1:a'.line.size<=8800:=by have:=q7t a' h.2.2.1;rw[q7x];omega
  have hs2:c.line.size<=8800:=by have:=q7t c h.2.2.2;rw[q7x];omega
  rcases q7m h.2.1 with e|e
  all_goals (simp only at e;subst e)
  ·obtain⟨e1,e2⟩:=k9b (x:=⟨6,tx,n⟩) (a:=a') (c:=c) rfl;rw[e1,e2];exact v2g ds a cap hl tx n _ _ _ _ _ _ (q3u ds a cap hl a' h.2.2.1 hn1) (q3u ds a cap hl c h.2.2.2 hn2) hs1 hs2 fun i r hd=>q4r h.2.2.1 hd
  ·exact v2j ds a cap hl tx n _ _ _ _ (q3u ds a cap hl a' h.2.2.1 hn1)
def k5l(ds:List Nd)(a:Option Addr)(cap:Nat)(A:List Nd)(f:List (List Int)->List (List Int)):Prop:=
 ∀(i:Nat)(r:List Nd)(bs:List (List Int))(ba:Option Addr)(bc m:Nat)(w:World),ds.drop i=A++r->q1u w a ds->q4v none w ba bs->bs.length<=bc->bs.length<=301->(∀x∈bs,x.length<=m)->m+A.length<=900->
  Calls prog 94 #[.slice a ds.length cap,.int .i64 i,.slice ba bs.length bc,.int .i64 300] w fun e w'=>∃a' c',e=.returned (.slice a' (f bs).length c')/\(f bs).length<=c'/\(∀g:Option Nat,(∀k,g=some k->k<w.heap.size)->q4v g w ba bs->q4v g w' a' (f bs))/\Below w w w'
def y2s(A:List Nd)(f:List (List Int)->List (List Int)):Prop:=
 (∀bs,bs.length<=301->(f bs).length<=301)/\∀bs m,(∀x∈bs,x.length<=m)->∀x∈f bs,x.length<=m+A.length
theorem q4v.take{g:Option Nat}{w:World}{a:Option Addr}{ls:List (List Int)}(h:q4v g w a ls)(n:Nat):q4v g w a (ls.take n):=by
 intro i hi;have hi':i<ls.length:=by simp at hi;omega
 have e:(ls.take n)[i]=ls[i]:=List.getElem_take;rw[e];exact h i hi'
theorem z3g.o{B:Nat}{v:Value}{ls:List (List Int)}{w:World}(h:z3g B v ls none w):∃a c,v=.slice a ls.length c/\ls.length<=c/\(ls.length=0\/∃k,a=some ⟨k,0,none⟩)/\(∀g:Option Nat,(∀k,g=some k->k<B)->q4v g w a ls)/\(∀k,v.ownBlock=some k->B<=k/\k<w.heap.size):=by
 have h':=h;obtain⟨xs,h1,_⟩:=h';rcases h1.2 with⟨rfl,h0⟩|⟨gg,cc,cur,rfl,hb,hgg,hnc,_⟩
 ·rw[h0]at *;exact⟨none,0,rfl,Nat.le_refl _,.inl rfl,fun g hg=>(h.waysN hg).2,fun k hk=>by cases hk⟩
 ·exact⟨_,cc,rfl,hnc,.inr ⟨_,rfl⟩,fun g hg=>(h.waysN hg).2,fun k hk=>by
   cases hk
   exact⟨hb,(Array.getElem?_eq_some_iff.1 hgg).1⟩⟩
theorem q5b{w w':World}{g:Option Nat}{B:Nat}(h:w.grownBy w' g)(hB:B<=w.heap.size)(hg:∀k,g=some k->B<=k):Below B w w':=(Below.refl B w).grown h hB hg
theorem q4v.apart{w w':World}{a:Option Addr}{ls:List (List Int)}{g:Option Nat}(h:q4v none w a ls)(hb:Below w w w')(hg:∀k,g=some k->w.heap.size<=k):q4v g w' a ls:=(h.new hg).below hb
theorem j0m(ds:List Nd)(a:Option Addr)(cap:Nat)(op:Int)(ho:op=1\/op=2\/op=3\/op=4\/op=5)(tx:ByteArray)(n:Int):k5l ds a cap [⟨op,tx,n⟩] (fun bs=>bs):=by
 intro i r bs ba bc m w hd hN hM hbc hbl hx hm;obtain⟨hi,e1,e2⟩:=q0m (x:=⟨op,tx,n⟩) (r:=r) hd;obtain⟨b0,o0,ea,hlt,c1,c2,c3⟩:=hN i hi;subst ea;rw[e1]at c1 c2 c3;dsimp only at c1 c2 c3;clear hd e1 e2 hN hM hx;rcases ho with rfl|rfl|rfl|rfl|rfl
 all_goals
  go_in;go_wp2;go_ret;exact⟨_,_,rfl,hbc,fun g _ h=>h,Below.refl _ _⟩
theorem y1y(ds:List Nd)(a:Option Addr)(cap:Nat)(hl:ds.length<=400)(tx:ByteArray)(n:Int)(A:List Nd)(f:List (List Int)->List (List Int))(hA:k5l ds a cap A f):k5l ds a cap (⟨7,tx,n⟩::A) f:=by
 intro i r bs ba bc m w hd hN hM hbc hbl hx hm;obtain⟨hi,e1,e2⟩:=q0m (x:=⟨7,tx,n⟩) (r:=A++r) hd;obtain⟨b0,o0,ea,hlt,c1,c2,c3⟩:=hN i hi;subst ea;rw[e1]at c1 c2 c3;dsimp only at c1 c2 c3;simp only[List.length_cons]at hm;have HX:Hid (((i+1:Nat):Int)=(i:Int)+1):=(show _=_ by omega);have HA:=hid (hA (i+1) r bs ba bc m w e2 hN hM hbc hbl hx (by omega));clear hd e1 e2 hN hM hx hA;go_in;go_wp2_with fail;rw[<-HX.o];refine HA.o.mono ?_;rintro e w2⟨a2,k2,rfl,h2,h3,h4⟩;have H3:=hid h3;clear h3;go_wp2;go_ret;exact⟨_,_,rfl,h2,H3.o,h4⟩
theorem y1x(ds:List Nd)(a:Option Addr)(cap:Nat)(hl:ds.length<=400)(tx:ByteArray)(n:Int)(A C:List Nd)(f g:List (List Int)->List (List Int))(hA:k5l ds a cap A f)(hC:k5l ds a cap C g)(hg:y2s C g)(hE:∀i r,ds.drop i=A++r->q0v ds i 1=some (i+A.length)):k5l ds a cap (⟨6,tx,n⟩::(A++C)) (fun bs=>f (g bs)):=by
 intro i r bs ba bc m w hd hN hM hbc hbl hx hm;obtain⟨hi,e1,e2⟩:=q0m (x:=⟨6,tx,n⟩) (r:=(A++C)++r) hd;obtain⟨b0,o0,ea,hlt,c1,c2,c3⟩:=hN i hi;subst ea;rw[e1]at c1 c2 c3;dsimp only at c1 c2 c3;simp only[List.length_cons,List.length_append]at hm;have HX:Hid (((i+1:Nat):Int)=(i:Int)+1):=(show _=_ by omega);have HD:=hid e2;rw[List.append_assoc]at HD;have HN:=hid hN;have HE:=hid (hE (i+1) (C++r) HD.o);have HD2:=hid (q7r HD.o);have HC:=hid (hC (i+1+A.length) r bs ba bc m w HD2.o hN hM hbc hbl hx (by omega));have HA:=hid hA;have HM:=hid hM;have HG1:=hid (hg.1 bs hbl);have HG2:=hid (hg.2 bs m hx);clear hd e1 e2 hN hM hx hA hC hE;go_in;go_wp2_with fail;rw[<-HX.o];refine(q4t ds _ cap hl (ds.length+1) (i+1) w HN.o (by omega) (by omega)).mono ?_;rintro e w3⟨rfl,rfl⟩;rw[HE.o];have hz:v6p (some (i+1+A.length))=((i+1+A.length:Nat):Int):=rfl;rw[hz];generalize hj:i+1+A.length=j at HC⊢;clear hz hj;go_wp2_with fail;refine HC.o.mono ?_;rintro e w2⟨a2,k2,rfl,h2,h3,h4⟩;have H3:=hid h3;clear h3;go_wp2_with fail;rw[<-HX.o];refine(HA.o (i+1) (C++r) (g bs) a2 k2 (m+C.length) w2 HD.o (HN.o.below h4) (H3.o none (fun _ h=>by cases h) HM.o) h2 HG1.o HG2.o (by omega)).mono ?_;rintro e w5⟨a5,k5,rfl,h5,h6,h7⟩;have H6:=hid h6;clear h6;go_wp2;go_ret;refine⟨_,_,rfl,h5,fun q hq hw=>H6.o q (fun k hk=>?_) (H3.o q hq hw),h4.trans (h7.mono h4.size)⟩
 have:=hq k hk
 have:=h4.size
 omega
end Go.Proofs.YthjapabokcajhaaGreatDoor
