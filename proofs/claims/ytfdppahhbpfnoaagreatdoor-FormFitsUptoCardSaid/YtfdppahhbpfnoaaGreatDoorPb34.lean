import Derived.Test.YtfdppahhbpfnoaaGreatDoorPb32
import Derived.Test.YtfdppahhbpfnoaaGreatDoorPb26
import Derived.Deep.Slices
import Derived.Carry
import Derived.SizedLaws
open Go.Proofs.Tryz
namespace Go.Proofs.YtfdppahhbpfnoaaGreatDoor
open Go Go.RowKit
theorem q9z:∀(t:Tr),t.noE->∀(deep:Nat)(ws ws':List Int)(r:List UInt8),t.lay deep ws=.ok (r,ws')->(∀c∈r,c≠10)->t.flat=some r
 | .leaf x,_,deep,ws,ws',r,h,hr=>by
  simp only[Tr.lay]at h;simp only[Tr.flat]
  split at h
  ·rename_i h1;cases h;rw[if_pos h1]
  ·split at h
   ·rename_i h1 h5;cases h;rw[if_neg h1,if_neg (by omega),if_neg (by omega)]
   ·cases h;exact absurd rfl (hr 10 (by simp))
 | .one x a,hn,deep,ws,ws',r,h,hr=>by
  simp only[Tr.lay]at h;simp only[Tr.flat]
  split at h
  ·exact q9z a hn _ _ _ _ h hr
  ·split at h
   ·cases h
   ·split at h
    ·exact q9z a hn _ _ _ _ h hr
    ·split at h
     ·cases h
     ·rename_i he;cases h;exact he
 | .two x a b,hn,deep,ws,ws',r,h,hr=>by
  simp only[Tr.lay,if_pos hn.1]at h;simp only[Tr.flat,if_pos hn.1]
  split at h
  ·cases h
  ·rename_i ha
   split at h
   ·cases h
   ·rename_i hb;cases h;rw[q9z a hn.2.1 _ _ _ _ ha fun c hc=>hr c (by simp[hc]),q9z b hn.2.2 _ _ _ _ hb fun c hc=>hr c (by simp[hc])]
def FlW(D:Tr):Prop:=∃u s,D.flat=some s/\q2g u/\∀deep rest,D.lay deep (u++rest)=.ok (s,rest)
theorem v3q(s:List UInt8):FlW (wdD s):=⟨[],s,rfl,fun _ h=>(by simp at h),fun _ _=>rfl⟩
theorem v3p{a:Tr}{s:List UInt8}(h:a.flat=some s):FlW (grD a):=⟨[0],s,h,fun c hc=>(by simp at hc;exact .inl hc),fun deep rest=>(by
 simp only[Tr.lay,List.cons_append,List.nil_append]
 rw[if_neg (by decide),if_neg (by decide),h])⟩
theorem g0c{a b:Tr}(ha:FlW a)(hb:FlW b):FlW (twD a b):=by
 obtain⟨u,s,A,B,C⟩:=ha;obtain⟨v,t,D,E,G⟩:=hb;refine⟨u++v,s++t,q5o A D,fun c hc=>?_,fun deep rest=>?_⟩
 ·rcases List.mem_append.1 hc with h|h
  ·exact B c h
  ·exact E c h
 ·simp only[Tr.lay,if_true];rw[List.append_assoc,C];simp only;rw[G]
theorem j5h{op cl:List UInt8}{ps:List (Td × Tr)}{s:List UInt8}(h:(q1g op cl ps).flat=some s):FlW (q1g op cl ps):=by
 unfold q1g at h⊢
 split
 ·exact v3q _
 ·rename_i h0;rw[if_neg h0]at h;exact v3p h
theorem g0b{x:Td}{ps:List (Td × Tr)}{ts:List Tn}(h:Mts ps ts)(hx:exN x)(hk:ps.length=kdT x):FlW (q0g x ps):=by
 have B:=y5z h hx hk
 have C:kdT x=2->∃a b,ps=[a,b]:=fun e=>by
  rw[e]at hk
  match ps,hk with
  | [a,b],_=>exact⟨a,b,rfl⟩
 rcases q1l hx with⟨A,_⟩|⟨A,_⟩|⟨A,_⟩|⟨A,_⟩|⟨A,_,_,D⟩|⟨A,_,_,D⟩
 ·rw[show q0g x ps=wdD (q2n x.n.toNat) by simp[q0g,A]];exact v3q _
 ·rw[show q0g x ps=wdD (btL x.tx) by simp[q0g,A]];exact v3q _
 ·rw[show q0g x ps=q1g (btL x.tx++[40]) [41] ps by simp[q0g,A]]at B⊢;exact j5h B
 ·rw[show q0g x ps=q1g [91] [93] ps by simp[q0g,A]]at B⊢;exact j5h B
 ·obtain⟨a,b,rfl⟩:=C D;rw[show q0g x [a,b]=grD (twD (inD 0 a.1 a.2) (dpD (twD blD (twD (wdD [43,32]) (inD 1 b.1 b.2))))) by simp[q0g,tw2,A]]at B⊢;exact v3p B
 ·obtain⟨a,b,rfl⟩:=C D;rw[show q0g x [a,b]=grD (twD (inD 1 a.1 a.2) (dpD (twD blD (twD (wdD [42,32]) (inD 2 b.1 b.2))))) by simp[q0g,tw2,A]]at B⊢;exact v3p B
theorem y5i{t:List Td}(h:q0b t=0)(h9:opT t≠9):FlW (q0j t):=by
 have A:=(q7h h h9).f;obtain⟨x,y,k,rfl,B,C,H,J⟩:=q5a h h9;have I:Mts k.D k.R:=z2w k B.2.1 fun z hz=>C z (by simp[Fo.N,hz])
 have G:FlW (q0g y k.D):=g0b I (C y (by simp[Fo.N])) (by rw[q3i];exact B.1);have E:q0j (x::(Fo.cons y k .nil).N)=stD x (q0g y k.D):=q6p B H;rw[E]at A⊢;generalize q0g y k.D=D at *;unfold stD at A⊢
 split
 ·rename_i ho;rw[if_pos ho]at A;exact v3p A
 ·exact g0c G (v3q _)
theorem v2y{t:List Td}(h:q0b t=0)(h9:opT t≠9):∃u∈(q0j t).ways,(q0j t).txt u=q5i t/\∀b∈q5i t,b≠10:=by
 obtain⟨u,s,A,E,G⟩:=y5i h h9;have B:=q7h h h9;obtain rfl:s=q5i t:=by rw[B.f]at A;exact(Option.some.inj A).symm
 have C:=G 0 [];rw[List.append_nil]at C
 have D:(q0j t).show u=.ok (q5i t):=by
  unfold Tr.show;rw[if_pos (k9r.2 E),C]
 exact⟨u,(z4n _ _).1 ⟨_,D⟩,by rw[Tr.txt,D],q5p _ _ B.w A⟩
theorem k8j(wd:Nat):∀(s:List UInt8)(c:Nat),(q1p wd c s).2.1=0->∀b∈s,b≠10
 | [],_,_,b,hb=>by cases hb
 | a::s,c,h,b,hb=>by
  simp only[q1p]at h
  split at h
  ·simp at h
  ·rename_i ha;rcases List.mem_cons.1 hb with rfl|hb
   ·exact ha
   ·exact k8j wd s (c+1) h b hb
theorem z9n{t:List Td}(wd:Nat):∃u∈(q0j t).ways,dcL wd t=(q0j t).txt u++[10]/\(q0j t).show u=.ok ((q0j t).txt u)/\∀v∈(q0j t).ways,¬q3f ((q0j t).cst wd v) ((q0j t).cst wd u):=by
 have E:(q0j t).best wd=some (bs wd 0 [(0,q0j t)]):=by rw[q9l,q3c]
 obtain⟨A,B,C,D⟩:=q7x E;exact⟨_,A,rfl,B,fun v hv=>by rw[<-C];exact(D v hv).1⟩
theorem v5r{t:Tr}{u:List Int}{r:List UInt8}(h:t.show u=.ok r):t.lay 0 u=.ok (r,[]):=by
 unfold Tr.show at h
 split at h
 ·split at h
  ·cases h
  ·rename_i hl;cases h;exact hl
  ·cases h
 ·cases h
theorem y1b{t:List Td}{wd:Nat}(h:q0b t=0)(h9:opT t≠9)(hl:(q5i t).length<=wd):dcL wd t=q5i t++[10]:=by
 obtain⟨v,E,G,H⟩:=v2y h h9;obtain⟨u,u1,u2,u3,u4⟩:=z9n (t:=t) wd
 have C:(q0j t).cst wd v=(0,0):=by
  rw[Tr.cst,G,q9q wd _ 0 H];simp;omega
 have B:=u4 v E;rw[C,q3f]at B
 have D:(q1p wd 0 ((q0j t).txt u)).2.1=0:=by
  simp only[Tr.cst]at B;omega
 have A:=q9z _ (q7h h h9).e _ _ _ _ (v5r u3) (k8j wd _ 0 D);rw[(q7h h h9).f]at A;rw[u2,<-Option.some.inj A]
theorem y1c{t:List Td}{wd:Nat}{w:List Int}{r:List UInt8}(hs:(q0j t).show w=.ok r)(h0:(q1p wd 0 r).1=0):(q1p wd 0 (dcL wd t)).1=0:=by
 obtain⟨u,u1,u2,u3,u4⟩:=z9n (t:=t) wd;have A:=u4 w ((z4n _ _).1 ⟨_,hs⟩);have e:(q0j t).txt w=r:=by rw[Tr.txt,hs]
 rw[q3f]at A;simp only[Tr.cst,e]at A;rw[u2,z2u];simp only[q1p];simp;omega
theorem z4k{t:List Td}(h:q0b t=0)(h9:opT t=9):∃x,t=[x]/\x.op=9/\q1x x.tx=0/\q5i t=k3x x.tx:=by
 rcases q3h h with⟨x,rfl,A,H,E⟩|⟨x,F,rfl,_,_,_,B⟩
 ·have G:(Fo.nil).len=kdT x:=by simp[kdT,A,Fo.len]
  have C:q5i [x]=stX x []:=(z0l (x:=x) (F:=.nil) trivial G).1;exact⟨x,rfl,A,E,by rw[C,k3x];simp[stX,A]⟩
 ·have D:x.op=9:=h9;rcases B with⟨B,_⟩|⟨B,_⟩<;>omega
theorem y3k{tx:ByteArray}{wd:Nat}(hl:(k3x tx).length<=wd):ntL wd tx=k3x tx++[10]:=by
 by_cases D:btL tx=[]
 ·have E:q0e (btL tx)=[]:=by rw[q0e,if_pos D]
  rw[ntL,if_pos E,k3x,if_pos (q6m.2 D)];rfl
 ·have L:tx.size≠0:=fun e=>D (q6m.1 e)
  have E:q0e (btL tx)=q4h (btL tx):=by rw[q0e,if_neg D]
  have H:jb (q0e (btL tx))=btL tx:=by rw[E,z3z]
  have C:q0e (btL tx)≠[]:=by rw[E];exact q6o _
  rw[k3x,if_neg L]at hl⊢;rw[ntL,if_neg C];generalize q0e (btL tx)=ws at *;have A:ws.map wbS≠[]:=by simpa using C
  have G:ln (ws.map wbS)=(btL tx).length:=by rw[<-k5s,v3u,H]
  simp only[List.length_append,List.length_cons,List.length_nil]at hl
  have J:fOf (wd-2) (ws.map wbS) (ws.map wbS).length=0:=by
   rw[fOf,List.take_length,List.drop_length,z2s,G,bd,if_neg (by omega),if_pos (by simp)]
  have B:1<=(ws.map wbS).length:=List.length_pos_iff.2 A
  have K:z4h (fOf (wd-2) (ws.map wbS)) (ws.map wbS).length=0:=by
   have:=z9b (fOf (wd-2) (ws.map wbS)) (ws.map wbS).length (ws.map wbS).length B Zl
   omega
  have I:agF (wd-2) (ws.map wbS)=(ws.map wbS).length:=by
   have M:=(q8u (wd-2) A).2;rcases Nat.lt_or_ge (agF (wd-2) (ws.map wbS)) (ws.map wbS).length with h|h
   ·exact absurd (J.trans K.symm) (k0q _ _ _ h Zl B)
   ·omega
  rw[q5k _ A,I,List.drop_length,q6a];simp only[k2f,List.take_length,List.flatMap_cons,List.flatMap_nil,List.append_nil];have e:btL (jnS (ws.map wbS))=btL tx:=by rw[jnS,v3u,H]
  rw[e];rfl
theorem z9o{t:List Td}{wd:Nat}(h:q0b t=0)(hl:(q5i t).length<=wd):q6y wd t=q5i t++[10]:=by
 by_cases A:opT t=9
 ·obtain⟨x,rfl,B,_,e⟩:=z4k h A;rw[e]at hl⊢;rw[q6y,if_pos B];exact y3k hl
 ·cases t with
  | nil=>exact absurd h (by decide)
  | cons x r=>
   have:q6y wd (x::r)=dcL wd (x::r):=if_neg (show ¬x.op=9 from A)
   rw[this];exact y1b h A hl
theorem j5p:∀g:List Wd,(∀w∈g,∀b∈w,b≠10)->∀b∈jb g,b≠10
 | [],_,b,hb=>by cases hb
 | [w],h,b,hb=>h w (by simp) b (by simpa[jb]using hb)
 | w::u::r,h,b,hb=>by
  have e:jb (w::u::r)=w++32::jb (u::r):=rfl;rw[e]at hb;rcases List.mem_append.1 hb with hb|hb
  ·exact h w (by simp) b hb
  ·rcases List.mem_cons.1 hb with rfl|hb
   ·decide
   ·exact j5p (u::r) (fun x hx=>h x (List.mem_cons_of_mem _ hx)) b hb
theorem y4g{b:UInt8}(h:q5g b=true):b≠10:=fun e=>by subst e;revert h;decide
theorem v7u:∀(gs:List (List Wd)),(∀g∈gs,GOk g)->Gd (gs.flatMap fun g=>lnW g++[10])
 | [],_=>fun p q e=>by cases p<;>cases e
 | g::gs,h=>by
  have ih:=v7u gs fun x hx=>h x (by simp[hx])
  have hg:=h g (by simp);obtain⟨v,c,e,w,hw,hc⟩:=k5r g hg.1 fun w hw=>(hg.2.2 w hw).1
  have e0:((g::gs).flatMap fun g=>lnW g++[10])=lnW g++([10]++gs.flatMap fun g=>lnW g++[10]):=by simp
  have B:∀b∈jb g,b≠10:=j5p g fun w hw b A=>y4g ((hg.2.2 w hw).2.2 b A)
  rw[e0];refine k1p (z3x fun b A=>?_) (k1p (z8p (by decide)) ih (fun hh=>absurd hh.1 (by decide))) fun hh=>?_
  ·rcases List.mem_append.1 A with A|A
   ·simp at A;rcases A with rfl|rfl<;>decide
   ·exact B b A
  ·have:(lnW g).getLast?=some c:=by rw[lnW,e,<-List.append_assoc,List.getLast?_append];simp
   rw[this]at hh;exact v0n ((hg.2.2 w hw).2.2 c hc) (Option.some.inj hh.1)
theorem y6c{t:List Td}(h:q0b t=0){s:List UInt8}{ws:List Wd}(hf:FmS t s ws):Gd s/\∃r,s=r++[10]/\r≠[]:=by
 cases hf with
 | @doc r cs cs' h9 hr=>
  have A:=y5l h h9;have B:Txt (q0j t) r:=.inr ⟨_,_,_,hr⟩;obtain⟨a,D,e,C⟩:=A.l r B;refine⟨k1p (A.g r B) (z8p (by decide)) fun hh=>?_,r,rfl,by rw[e];simp⟩;rw[e]at hh;simp at hh;exact C.1 hh
 | empty=>exact⟨z8p (by decide),[35],rfl,by simp⟩
 | @note x gs he ho hne hg hfl hx=>
  refine⟨v7u gs hg,?_⟩;have e:gs=gs.dropLast++[gs.getLast hne]:=(List.dropLast_concat_getLast hne).symm;rw[e];refine⟨(gs.dropLast.flatMap fun g=>lnW g++[10])++lnW (gs.getLast hne),by simp,by simp⟩
def k1j(wd:Nat)(ps:List (List Td)):List UInt8:=ps.flatMap (q6y wd)
theorem j9c(wd:Nat):∀(ps:List (List Td))(prev:Int),okP prev ps->∃ws,FmP ps (k1j wd ps) ws
 | [],_,_=>⟨[],.nil⟩
 | t::ps,prev,h=>by
  obtain⟨ws,h1⟩:=v8z (wd:=wd) h.1;obtain⟨us,h2⟩:=j9c wd ps _ h.2.2;exact⟨ws++us,.cons h1 h2⟩
theorem v3o{s:ByteArray}{ps:List (List Td)}{k:Int}(h:q8o s ps k 0)(wd:Nat):(q0t ps).2=0/\q8o (wbS (k1j wd ps)) ps 0 0:=by
 obtain⟨D,E,A⟩:q7a (btL s)=0/\PG false [] (q2p (btL s)) (.ok ps)/\(q0t ps).2=0:=by
  generalize C:(0:Int)=z at h;cases h with
  | lex h1=>exact absurd C.symm h1
  | bad=>cases C
  | full _ _ h1=>exact absurd C.symm h1
  | ok h1 h2 h3=>exact⟨h1,h2,h3⟩
 have G:=y3o E ps rfl;have H:=(z4e D).2.2;have I:q3q ([]:List (List Td))=0:=rfl;obtain⟨J,B⟩:=j9c wd ps 0 (q6j A).2;exact⟨A,y1k A (by omega) B⟩
theorem q7s(l:List UInt8):(wbS l).size=l.length:=by rw[<-q0c];rfl
def pgE(t:List Td):Int:=if opT t=9 then 0 else if 400<(q0j t).N.length then 3 else 0
theorem z9j{t:List Td}{wd:Int}(hw:¬(wd<10\/100<wd))(h:q0b t=0):z2e t wd=pgE t:=by
 rw[z2e,if_neg hw,if_neg (by simp[h])];rfl
theorem z9t{t:List Td}(h9:opT t=9):pgE t=0:=by rw[pgE,if_pos h9]
theorem j8q{t:List Td}(h:q0b t=0)(h9:opT t≠9):pgE t=q7f t:=by
 have e:q7f t=if opT t=9 then 2 else if 400<(q0j t).N.length then 3 else 0:=by rw[q7f,if_neg (by simp[h])]
 rw[e,if_neg h9,pgE,if_neg h9]
def j8g(t:List Td)(wd:Int):ByteArray:=if z2e t wd=0 then wbS (q6y wd.toNat t)else⟨#[]⟩
def fmE:List (List Td)->Int
 | []=>0
 | t::r=>if pgE t≠0 then pgE t else fmE r
theorem z8e{t:List Td}{r:List (List Td)}(h:pgE t=0):fmE (t::r)=fmE r:=by rw[fmE,if_neg (by simp[h])]
theorem k4t{t:List Td}{r:List (List Td)}(h:pgE t≠0):fmE (t::r)=pgE t:=by rw[fmE,if_pos h]
inductive k0m (s:ByteArray) (wd:Int):ByteArray->Int->Int->Prop where
 | range (h:wd<10\/100<wd):k0m s wd ⟨#[]⟩ 0 1
 | bad {ps k f} (h:¬(wd<10\/100<wd)) (hp:q8o s ps k f) (hf:f≠0):k0m s wd ⟨#[]⟩ k f
 | full {ps} (h:¬(wd<10\/100<wd)) (hp:q8o s ps 0 0) (hf:fmE ps≠0):k0m s wd ⟨#[]⟩ 0 (fmE ps)
 | ok {ps} (h:¬(wd<10\/100<wd)) (hp:q8o s ps 0 0) (hf:fmE ps=0):k0m s wd (wbS (k1j wd.toNat ps)) 0 0
theorem z8g{s t:ByteArray}{wd:Int}{ps:List (List Td)}(hs:q8o s ps 0 0)(ht:q8o t ps 0 0){a b:ByteArray}{k k' f f':Int}(ha:k0m s wd a k f)(hb:k0m t wd b k' f'):a=b/\k=k'/\f=f':=by
 cases ha with
 | range h=>cases hb with
  | range=>exact⟨rfl,rfl,rfl⟩
  | bad h'=>exact absurd h h'
  | full h'=>exact absurd h h'
  | ok h'=>exact absurd h h'
 | bad h hp hf=>exact absurd (q1r hp hs).2.2 hf
 | full h hp hf=>cases hb with
  | range h'=>exact absurd h' h
  | bad h' hp' hf'=>exact absurd (q1r hp' ht).2.2 hf'
  | full h' hp' hf'=>
   obtain⟨rfl,_⟩:=q1r hp hs;obtain⟨rfl,_⟩:=q1r hp' ht;exact⟨rfl,rfl,rfl⟩
  | ok h' hp' hf'=>
   obtain⟨rfl,_⟩:=q1r hp hs;obtain⟨rfl,_⟩:=q1r hp' ht;exact absurd hf' hf
 | ok h hp hf=>cases hb with
  | range h'=>exact absurd h' h
  | bad h' hp' hf'=>exact absurd (q1r hp' ht).2.2 hf'
  | full h' hp' hf'=>
   obtain⟨rfl,_⟩:=q1r hp hs;obtain⟨rfl,_⟩:=q1r hp' ht;exact absurd hf hf'
  | ok h' hp' hf'=>
   obtain⟨rfl,_⟩:=q1r hp hs;obtain⟨rfl,_⟩:=q1r hp' ht;exact⟨rfl,rfl,rfl⟩
theorem v3m{s:ByteArray}{wd:Int}{a b:ByteArray}{k k' f f':Int}(ha:k0m s wd a k f)(hb:k0m s wd b k' f'):a=b/\k=k'/\f=f':=by
 have A:∀{ps:List (List Td)},q8o s ps 0 0->a=b/\k=k'/\f=f':=fun hp=>z8g hp hp ha hb
 cases ha with
 | range h=>cases hb with
  | range=>exact⟨rfl,rfl,rfl⟩
  | bad h'=>exact absurd h h'
  | full h' hp' _=>exact A hp'
  | ok h' hp' _=>exact A hp'
 | bad h hp hf=>cases hb with
  | range h'=>exact absurd h' h
  | bad h' hp' hf'=>
   obtain⟨_,rfl,rfl⟩:=q1r hp hp';exact⟨rfl,rfl,rfl⟩
  | full h' hp' _=>exact A hp'
  | ok h' hp' _=>exact A hp'
 | full h hp hf=>exact A hp
 | ok h hp hf=>exact A hp
theorem z2x{s:ByteArray}{ps:List (List Td)}{k:Int}(h:q8o s ps k 0):k=0/\(q0t ps).2=0/\ps.length<=20/\∀t∈ps,q0b t=0:=by
 generalize A:(0:Int)=z at h;cases h with
 | lex h1=>exact absurd A.symm h1
 | bad=>cases A
 | full _ _ h1=>exact absurd A.symm h1
 | ok h1 h2 h3=>exact⟨rfl,h3,(q6j h3).1,z1t _ _ (q6j h3).2⟩
theorem k7v(wd:Nat):∀(n:Nat)(ws:List ByteArray),ws.length<=n->Few ws->∀l∈q2y wd ws,l.size<=1260
 | 0,ws,h,hF,l,hl=>by
  have:ws=[]:=List.eq_nil_of_length_eq_zero (by omega)
  subst this;rw[q5n]at hl;cases hl
 | n+1,ws,h,hF,l,hl=>by
  by_cases h0:ws=[]
  ·subst h0;rw[q5n]at hl;cases hl
  ·have hp:=q8u wd h0;rw[q5m wd h0]at hl;rcases List.mem_cons.1 hl with rfl|hl
   ·rw[k8a];exact(hF.take _).ln
   ·exact k7v wd n (ws.drop (agF wd ws)) (by simp only[List.length_drop];omega) (hF.drop _) l hl
abbrev ntF(l:ByteArray):List UInt8:=35::32::(btL l++[10])
theorem j5a{f:ByteArray->List UInt8}{b:Nat}:∀(ls:List ByteArray),(∀l∈ls,(f l).length<=b)->(ls.flatMap f).length<=ls.length*b
 | [],_=>by simp
 | l::r,h=>by
  have h1:=j5a r fun x hx=>h x (by simp[hx])
  have h2:=h l (by simp);rw[List.flatMap_cons,List.length_append,List.length_cons,Nat.add_mul];omega
theorem k8k{tx:ByteArray}(h:q1x tx=0):Few ((q0e (btL tx)).map wbS):=v7o h
theorem j7y{tx:ByteArray}(h:q1x tx=0)(wd:Nat):(ntL wd tx).length<=100000:=by
 have A:=k8k h;rw[ntL]
 split
 ·simp
 ·have B:=q9t (wd-2) _ ((q0e (btL tx)).map wbS) Zl
  have C:=j5a (f:=ntF) (b:=1300) (q2y (wd-2) ((q0e (btL tx)).map wbS)) fun l hl=>by
   have:=k7v (wd-2) _ _ Zl A l hl
   simp only[ntF,List.length_cons,List.length_append,List.length_nil,q0c];omega
  have D:=A.1
  show((q2y (wd-2) ((q0e (btL tx)).map wbS)).flatMap ntF).length<=100000
  have E:(q2y (wd-2) ((q0e (btL tx)).map wbS)).length*1300<=60*1300:=Nat.mul_le_mul_right _ (by omega);omega
theorem v8a{t:List Td}(h:q7f t=0){ws:List Int}{r:List UInt8}(hs:(q0j t).show ws=.ok r):r.length<=2000000:=by
 obtain⟨C,D,H,I⟩:=k1x h;unfold Tr.show at hs
 split at hs
 ·cases B:(q0j t).lay 0 ws with
  | error e=>rw[B]at hs;cases hs
  | ok p=>
   obtain⟨E,A⟩:=p;rw[B]at hs;have G:=q6e _ 0 ws E A (q7h C D).w B (by omega);cases A with
   | nil=>
    cases hs;omega
   | cons a b=>cases hs
 ·cases hs
theorem y1a{t:List Td}(h:q7f t=0)(wd:Nat):(dcL wd t).length<=2000001:=by
 obtain⟨u,_,e,A,_⟩:=z9n (t:=t) wd
 have:=v8a h A
 rw[e,List.length_append];simp only[List.length_cons,List.length_nil];omega
theorem k2u{t:List Td}(h:q0b t=0)(h9:opT t=9)(wd:Nat):q6y wd t=ntL wd (txT t):=by
 obtain⟨x,rfl,A,_⟩:=z4k h h9;rw[q6y,if_pos A];rfl
theorem z9k{t:List Td}(h:q0b t=0)(h9:opT t≠9)(wd:Nat):q6y wd t=dcL wd t:=by
 cases t with
 | nil=>exact absurd h (by decide)
 | cons x r=>exact if_neg (show ¬x.op=9 from h9)
theorem j8i{t:List Td}(h:q0b t=0)(hp:pgE t=0)(wd:Nat):(q6y wd t).length<=2000001:=by
 by_cases A:opT t=9
 ·rw[k2u h A];obtain⟨x,rfl,_,B,_⟩:=z4k h A
  have:=j7y B wd
  show(ntL wd x.tx).length<=2000001
  omega
 ·rw[z9k h A];exact y1a (by rw[<-j8q h A];exact hp) wd
set_option maxRecDepth 100000
set_option maxHeartbeats 2000000
theorem j9s:∀W:List Wd,(∀w∈W,w.length<=20)->szW W<=21*W.length
 | [],_=>Nat.le_refl _
 | x::r,h=>by
  have h1:=j9s r fun w hw=>h w (by simp[hw])
  have h2:=h x (by simp);rw[q1v,List.length_cons];omega
theorem k8l{tx:ByteArray}(h:q1x tx=0):Lib.fields (btL tx)=q0e (btL tx)/\(btL tx).length<=2000/\∀b∈btL tx,b.toNat<128:=by
 obtain⟨I,E⟩:=z1s h;by_cases B:btL tx=[]
 ·rw[B];exact⟨rfl,by simp,fun b A=>by cases A⟩
 ·have H:q0e (btL tx)=q4h (btL tx):=by rw[q0e,if_neg B]
  rw[H]at I E⊢;have G:=z3z (btL tx)
  have C:∀b∈btL tx,prB b=true:=by
   intro b A;rw[<-G]at A;refine z8q (p:=prB) rfl (q4h (btL tx)) (fun w D b A=>?_) b A;have J:=(E w D).2.2 b A;simp only[q5g,Bool.and_eq_true,decide_eq_true_eq]at J;simp only[prB,Bool.and_eq_true,decide_eq_true_eq];omega
  refine⟨?_,?_,fun b A=>?_⟩
  ·rw[z1h fun b A hs=>y7l (C b A) hs,List.filter_eq_self];intro w D
   have:=(E w D).1
   cases w with
   | nil=>exact absurd rfl this
   | cons=>rfl
  ·have K:=y2b (q4h (btL tx));have L:=j9s (q4h (btL tx)) fun w D=>(E w D).2.1
   rw[G]at K;omega
  ·have:=C b A
   simp only[prB,Bool.and_eq_true,decide_eq_true_eq]at this;omega
theorem k5v{tx:ByteArray}(h:q1x tx=0)(w:World)(ht:z1a w):Calls prog 103 #[.string tx] w fun e w'=>(∃g,e=.returned (.slice (some ⟨g,0,none⟩) (q0e (btL tx)).length (q0e (btL tx)).length)/\Wds w' (some ⟨g,0,none⟩) ((q0e (btL tx)).map wbS))/\Below w w w':=by
 obtain⟨B,C,D⟩:=k8l h;rw[<-B];rw[q0c]at C;refine(fields_sh tx w (by omega) (fun j c hj=>D c (List.mem_of_getElem? hj)) ht.spc).mono ?_;rintro e w'⟨rfl,rfl⟩;refine⟨⟨w.heap.size,rfl,?_⟩,q2m w _⟩;intro i E;have A:i<(Lib.fields (btL tx)).length:=by simpa using E
 refine⟨w.heap.size,0,rfl,by rw[World.size_alloc];omega,?_⟩;rw[Nat.zero_add];have G:=heap_alloc_new w (.cells ((Lib.fields (btL tx)).map fun l=>Value.string ⟨l.toArray⟩).toArray 9);rw[Lib.cell_of_heap G]
 show((Lib.fields (btL tx)).map fun l=>Value.string ⟨l.toArray⟩).toArray[i]?=_
 rw[List.getElem?_toArray,List.getElem?_map,show(Lib.fields (btL tx))[i]?=some (Lib.fields (btL tx))[i]from List.getElem?_eq_getElem A];simp[wbS]
theorem z9p{t:List Td}{a:Option Addr}{w:World}(h:q0b t=0)(hN:Tds w a t):0<t.length/\∃b o,a=some ⟨b,o,none⟩/\b<w.heap.size/\w.cell? ⟨b,o,none⟩=some (.int .i64 (opT t))/\w.cell? ⟨b,o+1,none⟩=some (.string (txT t)):=by
 have A:=k0d h;obtain⟨b,o,e,D,B,C,_⟩:=hN 0 A;refine⟨A,b,o,e,D,?_,?_⟩
 ·rw[k6e A];simpa using B
 ·cases t with
  | nil=>simp at A
  | cons x r=>simpa[txT]using C
theorem z4f{b o cap n:Nat}{op:Int}{w:World}(hn:0<n)(h:w.cell? ⟨b,o,none⟩=some (.int .i64 op)):Calls prog 46 #[.slice (some ⟨b,o,none⟩) n cap] w fun e w'=>e=.returned (.bool (op==9))/\w=w':=by
 have A:(0:Int)<(n:Int):=by omega
 go_in;go_wp2;go_ret;exact⟨rfl,rfl⟩
theorem z6h(t:List Td)(a:Option Addr)(cap:Nat)(w:World)(ht:z7n w)(hc:t.length<=cap)(hN:Tds w a t)(M:k6z t):Calls prog 18 #[.slice a t.length cap] w fun e w'=>z3a t e w'/\Below w w w':=by
 have O:Hid (Calls prog 29 #[.slice a t.length cap] w fun e w'=>e=.returned (q1m (q0b t))/\Below w w w'):=q6q t a cap w hc hN M;have S:Hid (Tds w a t):=hN;have d:Hid (z7n w):=ht;clear hN M ht;by_cases D:q0b t=0
 ·obtain⟨L,b,o,rfl,g,V,f⟩:=z9p D S.o;have P:Hid (∀W:World,Below w w W->Calls prog 46 #[.slice (some ⟨b,o,none⟩) t.length cap] W fun e w'=>e=.returned (.bool (opT t==9))/\W=w'):=fun W h=>z4f L (((q1o h).1 _ _ g).trans V)
  rw[D]at O;clear V f;by_cases I:opT t=9
  ·obtain⟨K,C,_,_⟩:=z8s D I;have G:Hid (∀W,z3a t (.returned (.tuple #[.slice none 0 0,q1m 2])) W):=fun W=>⟨none,0,by rw[K,C];rfl,by rw[C];exact fun i hi=>by simp at hi,by rw[C];exact Nat.le_refl _⟩
   rw[show(opT t==9)=true by simp[I]]at P;clear D I K C;go_in;go_wp2_with fail;refine O.o.mono ?_;rintro e N⟨rfl,H⟩;rw[q0n];have B:Hid (Below w w N):=H;clear H;go_wp2_with fail;refine(P.o _ B.o).mono ?_;rintro e j⟨rfl,rfl⟩;go_wp2;go_ret2;exact⟨G.o _,B.o⟩
  ·have E:Hid (∀W:World,Below w w W->Calls prog 47 #[.slice (some ⟨b,o,none⟩) t.length cap] W fun e w'=>(∃A c,e=.returned (.tuple #[.slice A (q4v t).length c,q1m (q7f t)])/\q2e w' A (q4v t)/\(q4v t).length<=c)/\Below W W w'):=fun W h=>j6k t _ cap W (d.o.W h) D I hc (S.o.W h)
   have G:Hid (∀A c W,q2e W A (q4v t)->(q4v t).length<=c->z3a t (.returned (.tuple #[.slice A (q4v t).length c,q1m (q7f t)])) W):=fun A c W h h2=>⟨A,c,rfl,h,h2⟩
   rw[show(opT t==9)=false by simp[I]]at P;generalize q4v t=xs at E G;generalize q1m (q7f t)=er at E G;clear D I;go_in;go_wp2_with fail;refine O.o.mono ?_;rintro e N⟨rfl,H⟩;rw[q0n];have B:Hid (Below w w N):=H;clear H;go_wp2_with fail;refine(P.o _ B.o).mono ?_;rintro e j⟨rfl,rfl⟩;go_wp2_with fail;refine(E.o _ B.o).mono ?_;rintro e Z⟨⟨A,c,rfl,X,Y⟩,U⟩;have Q:Hid (Below w w Z):=q0d B.o Zl U;have J:=hid (G.o A c Z X Y);clear X Y U;generalize xs.length=nx at J⊢;go_wp2;go_ret2;exact⟨J.o,Q.o⟩
 ·obtain⟨K,C,_,_⟩:=j5v D;have R:Hid (q1m (q0b t)=.iface 23 (.int .i64 (q0b t))):=q0k D;have G:Hid (∀W,z3a t (.returned (.tuple #[.slice none 0 0,q1m (q0b t)])) W):=fun W=>⟨none,0,by rw[K,C];rfl,by rw[C];exact fun i hi=>by simp at hi,by rw[C];exact Nat.le_refl _⟩
  clear K C D;go_in;go_wp2_with fail;refine O.o.mono ?_;rintro e N⟨rfl,H⟩;rw[R.o];go_wp2;go_ret2;exact⟨by have:=G.o N;rw[R.o]at this;exact this,H⟩
theorem j7x{t:List Td}(h:q0b t=0)(h9:opT t=9):q1x (txT t)=0:=by
 rcases q3h h with⟨x,rfl,_,_,A⟩|⟨x,F,rfl,_,_,_,C⟩
 ·exact A
 ·exfalso;have e:opT (x::F.N)=x.op:=rfl;rcases C with⟨B,_⟩|⟨B,_⟩<;>omega
theorem k5u(t:List Td)(a:Option Addr)(cap:Nat)(w:World)(ht:z1a w)(hc:t.length<=cap)(hN:Tds w a t)(R:k6z t):Calls prog 68 #[.slice a t.length cap] w fun e w'=>z7l t e w'/\Below w w w':=by
 have S:Hid (Calls prog 29 #[.slice a t.length cap] w fun e w'=>e=.returned (q1m (q0b t))/\Below w w w'):=q6q t a cap w hc hN R;have n:Hid (Tds w a t):=hN;have p:Hid (z1a w):=ht;clear hN R ht;by_cases D:q0b t=0
 ·obtain⟨Q,b,o,rfl,l,j,V⟩:=z9p D n.o;have U:Hid (∀W:World,Below w w W->Calls prog 46 #[.slice (some ⟨b,o,none⟩) t.length cap] W fun e w'=>e=.returned (.bool (opT t==9))/\W=w'):=fun W h=>z4f Q (((q1o h).1 _ _ l).trans j)
  have H:Hid (∀W:World,Below w w W->W.cell? ⟨b,o+1,none⟩=some (.string (txT t))):=fun W h=>((q1o h).1 _ _ l).trans V
  rw[D]at S;have q:(0:Int)<(t.length:Int):=by omega
  clear j V;by_cases J:opT t=9
  ·obtain⟨_,_,G,B⟩:=z8s D J;have K:=j7x D J;have Y:(txT t).size<=2000:=by rw[<-q0c];exact(k8l K).2.1
   have O:Hid (∀W:World,Calls prog 78 #[.string (txT t)] W fun e w'=>e=.returned (.string (txT t))/\Below W W w'):=fun W=>q8d _ W (by omega)
   have I:Hid (∀W:World,Below w w W->Calls prog 103 #[.string (txT t)] W fun e w'=>(∃g,e=.returned (.slice (some ⟨g,0,none⟩) (q0e (btL (txT t))).length (q0e (btL (txT t))).length)/\Wds w' (some ⟨g,0,none⟩) ((q0e (btL (txT t))).map wbS))/\Below W W w'):=fun W h=>k5v K W (p.o.W h)
   have L:Hid (∀A c W,Wds W A ((q0e (btL (txT t))).map wbS)->(q0e (btL (txT t))).length<=c->z7l t (.returned (.tuple #[.slice A (q0e (btL (txT t))).length c,q1m 0])) W):=fun A c W h h2=>⟨A,c,by rw[G,B,List.length_map],by rw[B];exact h,by rw[B,List.length_map];exact h2⟩
   rw[show(opT t==9)=true by simp[J]]at U;generalize q0e (btL (txT t))=ws at I L;generalize txT t=tx at I H O;clear D J G B Y K;go_in;go_wp2_with fail;refine S.o.mono ?_;rintro e M⟨rfl,E⟩;rw[q0n];have V:=H.o M E;have C:Hid (Below w w M):=E;clear E;go_wp2_with fail;refine(U.o _ C.o).mono ?_;rintro e r⟨rfl,rfl⟩;go_wp2_with fail;refine(O.o _).mono ?_;rintro e s⟨rfl,d⟩;have N:Hid (Below w w s):=q0d C.o Zl d;clear d;go_wp2_with fail;refine(I.o _ N.o).mono ?_;rintro e m⟨⟨g,rfl,k⟩,f⟩;have X:Hid (Below w w m):=q0d N.o Zl f;have P:=hid (L.o _ ws.length m k Zl);clear k f V;generalize ws.length=nw at P⊢;go_wp2;go_ret2;exact⟨P.o,X.o⟩
  ·have L:Hid (∀W,z7l t (.returned (.tuple #[.slice none 0 0,q1m 2])) W):=fun W=>by
    have G:k3w t=2:=by rw[k3w,if_neg (by simp[D]),if_neg J]
    have B:j0t t=[]:=by rw[j0t,if_neg (by rw[G];decide)]
    exact⟨none,0,by rw[G,B];rfl,by rw[B];exact fun i hi=>by simp at hi,by rw[B];exact Nat.le_refl _⟩
   rw[show(opT t==9)=false by simp[J]]at U;clear D J H;go_in;go_wp2_with fail;refine S.o.mono ?_;rintro e M⟨rfl,E⟩;rw[q0n];have C:Hid (Below w w M):=E;clear E;go_wp2_with fail;refine(U.o _ C.o).mono ?_;rintro e r⟨rfl,rfl⟩;go_wp2;go_ret2;exact⟨L.o _,C.o⟩
 ·obtain⟨_,_,G,B⟩:=j5v D;have Z:Hid (q1m (q0b t)=.iface 23 (.int .i64 (q0b t))):=q0k D;have L:Hid (∀W,z7l t (.returned (.tuple #[.slice none 0 0,q1m (q0b t)])) W):=fun W=>⟨none,0,by rw[G,B];rfl,by rw[B];exact fun i hi=>by simp at hi,by rw[B];exact Nat.le_refl _⟩
  clear G B D;go_in;go_wp2_with fail;refine S.o.mono ?_;rintro e M⟨rfl,E⟩;rw[Z.o];go_wp2;go_ret2;exact⟨by have:=L.o M;rw[Z.o]at this;exact this,E⟩
end Go.Proofs.YtfdppahhbpfnoaaGreatDoor
namespace Go.Proofs.YtfdppahhbpfnoaaGreatDoor
open Go Go.ChangeShapes Go.WideShapes Go.RowKit
theorem k8c:laidOutB prog=true:=by kernel_rfl
theorem j3m:prog.cellsOf 47=3:=by kernel_rfl
theorem y0v:prog.cellsOf 3=1:=by kernel_rfl
theorem y0w:prog.cellsOf 9=1:=by kernel_rfl
theorem j2m(b o n:Nat):(⟨b,o,none⟩:Addr).add n=⟨b,o+n,none⟩:=by
 unfold Addr.add
 split
 ·rename_i h;subst h;rfl
 ·rfl
theorem v9j{α:Type}{l:List α}(h:l.length=3):∃a b c,l=[a,b,c]:=by
 match l,h with
 | [a,b,c],_=>exact⟨a,b,c,rfl⟩
theorem k0x{H:Type}{d:DataW H}{l:List (DataW H)}(h:d∈l):Rows.uptoBulk d<=Rows.uptoBulkAll l:=by
 induction l with
 | nil=>cases h
 | cons x r ih=>
  simp only[Rows.uptoBulkAll];cases List.mem_cons.1 h with
  | inl e=>subst e;omega
  | inr e=>have:=ih e;omega
theorem j0a{H:Type}{d:DataW H}{l s:List (DataW H)}(h:d∈l):Rows.uptoBulk d<=Rows.uptoBulk (.slice l s):=by
 have:=k0x h
 simp only[Rows.uptoBulk];omega
section
variable {H:Type} {enc:TypeId × Value→H} {W:World}
theorem z0u{P:Program}{e:TypeId}:∀{l:List (DataW H)}{d:DataW H},d∈l->∀n∈d.weights P e,n∈DataW.weightsAll P e l
 | d'::r,d,hd,n,hn=>by
  simp only[DataW.weightsAll,List.mem_append];rcases List.mem_cons.1 hd with rfl|h
  ·exact Or.inl hn
  ·exact Or.inr (z0u h n hn)
theorem k6g{M:Nat}{a0:Option Addr}{l0 c0:Nat}{d:DataW H}{p:List MemPlace}(hf:DataW.trod enc prog W 0 (fun _=>true) true M 22 [.slice a0 l0 c0]=some (d,p)):
  ∃ds:List Td,l0=ds.length/\ds.length<=c0/\Tds W a0 ds/\∀x∈ds,x.tx.size<=Rows.uptoBulk d/\x.tx.size∈d.weights prog 22:=by
 rcases Deep.open_slice Tryz.underlying22 hf with⟨N,_⟩|⟨a,Ac,u,m,n,D,Pl,N,_,r,_,hm,hd,P⟩
 ·simp only[List.cons.injEq,and_true,Value.slice.injEq]at N;obtain⟨rfl,rfl,rfl⟩:=N;exact⟨[],rfl,Nat.le_refl _,fun i G=>by simp at G,fun x P=>by cases P⟩
 ·simp only[List.cons.injEq,and_true,Value.slice.injEq]at N;obtain⟨rfl,rfl,rfl⟩:=N;have Aa:l0<=m:=by rw[hm];simp only[if_true];exact r
  have L:∀i,i<l0->∃x:Td,W.cell? ((a.add (i*3)).add 0)=some (.int .i64 x.op)/\W.cell? ((a.add (i*3)).add 1)=some (.string x.tx)/\W.cell? ((a.add (i*3)).add 2)=some (.int .i64 x.n)/\x.tx.size<=Rows.uptoBulk (D i)/\x.tx.size∈(D i).weights prog 47:=by
   intro i G;obtain⟨v,l,w⟩:=P i (by omega);rw[j3m]at l;obtain⟨_,I,A⟩:=World.cells?_some l;obtain⟨xs,k,_,X,_,Q,J⟩:=DataW.trod_struct Tryz.underlying47 w;have B:=J 0 _ rfl;have C:=J 1 _ rfl;have E:=J 2 _ rfl;obtain⟨y0,y1,y2,rfl⟩:=v9j Q;obtain⟨v0,v1,v2,rfl⟩:=v9j I;clear Q I;simp[y0v,y0w]at B C E;obtain⟨z0,f,_,_⟩:=DataW.trod_int Tryz.underlying3 B;obtain⟨Y,g,S,_⟩:=DataW.trod_string Tryz.underlying9 C;obtain⟨z2,h,_,_⟩:=DataW.trod_int Tryz.underlying3 E;simp only[List.cons.injEq,and_true]at f g h;subst f g h;refine⟨⟨z0,Y,z2⟩,A 0 (by omega),A 1 (by omega),A 2 (by omega),?_⟩;have z:D i=.agg ([y0,y1,y2].map (·.1)):=(Prod.mk.inj X).1;rw[z,S];have e:Y.data.toList.length=Y.size:=by rw[Array.length_toList];rfl
   refine⟨?_,?_⟩
   ·simp only[List.map_cons,List.map_nil,Rows.uptoBulk,Rows.uptoBulkAll];omega
   ·simp only[DataW.weights,Tryz.underlying47];refine DataW.weights_mem_each (j:=1) (t:=9) rfl rfl _ ?_;rw[<-e];exact List.mem_singleton.2 rfl
  have Ab:Inhabited Td:=⟨⟨0,⟨#[]⟩,0⟩⟩;obtain⟨q,V⟩:=Deep.choose_lt L;refine⟨(List.range l0).map q,by simp,by simpa using r,?_,?_⟩
  ·intro i G;have K:i<l0:=by simpa using G
   obtain⟨c0,Z,c,_,_⟩:=V i K;obtain⟨R,_,_,_,_⟩:=V 0 (by omega)
   have s:a.spot=none:=by
    have:=World.cell?_spot R
    simpa[Addr.add]using this
   obtain⟨b,o,sp⟩:=a;simp only at s;subst s;simp only[j2m,Nat.add_zero]at c0 Z c
   have hb:b<W.heap.size:=by
    rcases Nat.lt_or_ge b W.heap.size with U|U
    ·exact U
    ·simp[World.cell?,Array.getElem?_eq_none U]at c0
   refine⟨b,o,rfl,hb,?_,?_,?_⟩
   ·simpa using c0
   ·simpa using Z
   ·simpa using c
  ·intro x P;obtain⟨i,G,rfl⟩:=List.mem_map.1 P;have K:=List.mem_range.1 G;obtain⟨_,_,_,h4,y⟩:=V i K;have O:d=_:=(Prod.mk.inj hd).1
   have h5:Rows.uptoBulk (D i)<=Rows.uptoBulk d:=by
    rw[O];exact j0a (List.mem_map.2 ⟨i,G,rfl⟩)
   refine⟨by omega,?_⟩;rw[O];simp only[DataW.weights,Tryz.underlying22];exact List.mem_cons_of_mem _ (List.mem_append_left _ (z0u (List.mem_map.2 ⟨i,G,rfl⟩) _ y))
theorem k6f{A:Nat}{a0:Option Addr}{l0 c0:Nat}{d:DataW H}{p:List MemPlace}(hf:DataW.trod enc prog W 0 (fun _=>true) true A 22 [.slice a0 l0 c0]=some (d,p)):
  ∃ds:List Td,l0=ds.length/\ds.length<=c0/\Tds W a0 ds/\∀x∈ds,x.tx.size<=Rows.uptoBulk d:=by
 obtain⟨ds,B,C,D,E⟩:=k6g hf;exact⟨ds,B,C,D,fun x hx=>(E x hx).1⟩
theorem j1d{a0:Option Addr}{l0 c0:Nat}{d:DataW H}{p:List MemPlace}(h:DataW.Trod enc prog W 0 (fun _=>true) true 22 (.slice a0 l0 c0) d p):
  ∃ds:List Td,l0=ds.length/\ds.length<=c0/\Tds W a0 ds/\∀x∈ds,x.tx.size<=Rows.uptoBulk d:=by
 obtain⟨A,B⟩:=h;exact k6f B
end
theorem v2r:prog.cellsOf 3=1:=by kernel_rfl
theorem v1u(b o n:Nat):(⟨b,o,none⟩:Addr).add n=⟨b,o+n,none⟩:=by
 unfold Addr.add
 split
 ·rename_i h;subst h;rfl
 ·rfl
section
variable {H:Type} {enc:TypeId × Value→H} {W:World}
theorem j8l{a0:Option Addr}{l0 c0:Nat}{d:DataW H}{p:List MemPlace}(h:DataW.Trod enc prog W 0 (fun _=>true) true 45 (.slice a0 l0 c0) d p):
  ∃ws:List Int,l0=ws.length/\ws.length<=c0/\c0<=maxLen/\q7w W a0 ws:=by
 obtain⟨E,N⟩:=h;have N:DataW.trod enc prog W 0 (fun _=>true) true E 45 [.slice a0 l0 c0]=some (d,p):=N;rcases Deep.open_slice Tryz.underlying45 N with⟨G,_⟩|⟨a,j,X,m,n,D,k,G,_,S,M,f,_,g⟩
 ·simp only[List.cons.injEq,and_true,Value.slice.injEq]at G;obtain⟨rfl,rfl,rfl⟩:=G;exact⟨[],rfl,Nat.le_refl _,Nat.zero_le _,fun i J=>by simp at J⟩
 ·simp only[List.cons.injEq,and_true,Value.slice.injEq]at G;obtain⟨rfl,rfl,rfl⟩:=G;have e:l0<=m:=by rw[f];simp only[if_true];exact S
  have C:∀i,i<l0->∃x:Int,W.cell? (a.add i)=some (.int .i64 x):=by
   intro i J;obtain⟨B,Q,Y⟩:=g i (by omega);rw[v2r]at Q;obtain⟨_,I,A⟩:=World.cells?_some Q
   obtain⟨z,rfl⟩:∃z,B=[z]:=by
    match B,I with
    | [z],_=>exact⟨z,rfl⟩
   obtain⟨y,P,_,_⟩:=DataW.trod_int Tryz.underlying3 Y;simp only[List.cons.injEq,and_true]at P;subst P;have R:=A 0 (by omega);have Z:(a.add (i*1)).add 0=a.add i:=by rw[Nat.mul_one];simp[Addr.add]
   rw[Z]at R;exact⟨y,R⟩
  obtain⟨q,U⟩:=Deep.choose_lt C;refine⟨(List.range l0).map q,by simp,by simpa using S,M,?_⟩;intro i J;have O:i<l0:=by simpa using J
  have c0:=U i O;have K:=U 0 (by omega)
  have V:a.spot=none:=by
   have:=World.cell?_spot K
   simpa[Addr.add]using this
  obtain⟨b,o,l⟩:=a;simp only at V;subst V;simp only[v1u]at c0
  have c:b<W.heap.size:=by
   rcases Nat.lt_or_ge b W.heap.size with L|L
   ·exact L
   ·simp[World.cell?,Array.getElem?_eq_none L]at c0
  exact⟨b,o,rfl,c,by simpa using c0⟩
end
end Go.Proofs.YtfdppahhbpfnoaaGreatDoor
namespace Go.Proofs.YtfdppahhbpfnoaaGreatDoor
open Go Go.RowKit
abbrev y8z:Prop:=∀(t:List Td)(a:Option Addr)(cap:Nat)(wd:Int)(w:World),t.length<=cap->Tds w a t->k6z t->z1a w->
 Calls prog 9 #[.slice a t.length cap,.int .i64 wd] w fun e w'=>e=.returned (.tuple #[.string (j8g t wd),q1m (z2e t wd)])/\Below w w w'
def z3b(s:ByteArray)(wd:Int)(w:World)(e:Ending)(w':World):Prop:=∃T k f,e=.returned (.tuple #[.string T,.int .i64 k,q1m f])/\k0m s wd T k f/\Below w w w'
abbrev g1j:Prop:=∀(s:ByteArray)(wd:Int)(w:World),z1a w->Calls prog 13 #[.string s,.int .i64 wd] w fun e w'=>z3b s wd w e w'
theorem z9l{t:List Td}{wd:Int}(h:z2e t wd≠0):j8g t wd=⟨#[]⟩:=by rw[j8g,if_neg h]
theorem z9m{t:List Td}{n:Nat}(h:z2e t (n:Int)=0):j8g t (n:Int)=wbS (q6y n t):=by rw[j8g,if_pos h];rfl
theorem j9h{t:List Td}{a:Option Addr}{cap:Nat}{w:World}(hc:t.length<=cap)(hN:Tds w a t):Prg (w.alloc (.cells #[.slice a t.length cap] 22)) (some ⟨w,0,none⟩) [t]:=by
 intro i B;have A:i=0:=by simp at B;exact B
 subst A;refine⟨w.heap.size,0,a,cap,rfl,by rw[World.size_alloc];omega,?_,hc,hN.alloc _⟩
 have C:(w.alloc (.cells #[.slice a t.length cap] 22)).heap[w.heap.size]?=some (.cells #[.slice a t.length cap] 22):=by
  show(w.heap.push _)[w.heap.size]?=_
  simp
 simp only[World.cell?,Option.isSome_none,Bool.false_eq_true,if_false,C,Nat.zero_add];rfl
theorem v6h{x:Td}(h:q0m x=0):x.tx.size<=1300:=by
 unfold q0m at h
 split at h
 ·cases h
 ·split at h
  ·cases h
  ·split at h
   ·cases h
   ·rename_i h3
    split at h
    ·exact z9i h
    ·rename_i h4
     split at h
     ·cases h
     ·rename_i h5;cases B:q2k x.op with
      | false=>
       have:¬0<x.tx.size:=fun h6=>h3 (.inr ⟨B,h6⟩)
       omega
      | true=>
       cases A:q0o x.tx with
       | false=>exact absurd ⟨B,A⟩ h5
       | true=>
        have:=q1q A
        rw[q0c]at this;omega
theorem j8y{ps:List (List Td)}(h:(q0t ps).2=0):∀t∈ps,∀x∈t,x.tx.size<=1300:=by
 intro t B x C;have A:=z1t ps 0 (q6j h).2 t B;exact v6h ((q2j A).2.1 x C)
end Go.Proofs.YtfdppahhbpfnoaaGreatDoor
