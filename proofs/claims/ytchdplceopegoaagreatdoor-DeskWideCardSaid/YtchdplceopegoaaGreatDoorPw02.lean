/- Texts as one: SynT, SynL, SynS, DocP. -/
/- Texts as one: FlatP, WayP, LayP, LayQ, TreF. -/
import Derived.Test.YtchdplceopegoaaGreatDoorPw00
namespace Go.Proofs.YtchdplceopegoaaGreatDoor
open Go
def v6t (w:Wd):Prop:=w=[40]∨w=[91]∨k1b w=true∨nmW w=true
theorem q6v {w:Wd} (h:nmW w=true):∃ c z,w=c::z∧q3a c=true∧w≠[108,101,116]∧w.length≤8∧∀ b∈w,q3a b=true:=by
 unfold nmW q1c at h
 simp only [Bool.and_eq_true,List.all_eq_true,decide_eq_true_eq] at h
 obtain ⟨⟨⟨h1,h2⟩,h3⟩,h4⟩:=h
 cases w with
 | nil=>simp [wbS,ByteArray.size] at h1
 | cons c z=>
  refine ⟨c,z,rfl,h4 c (by show c∈(c::z);simp),h3,?_,h4⟩
  have e:(wbS (c::z)).size=(c::z).length:=by rw [←q0b];rfl
  rw [e] at h2;exact h2
theorem k7h {w:Wd} (h:v6t w):w≠[41]∧w≠[93]∧w≠[44]∧w≠[108,101,116]∧w.headD 0≠35:=by
 rcases h with rfl | rfl | h | h
 ·decide
 ·decide
 ·have:∀ c:UInt8,q3w c=true→c≠41∧c≠93∧c≠44∧c≠108∧c≠35:=fun c hc=>by
   refine ⟨?_,?_,?_,?_,?_⟩<;>(rintro rfl;revert hc;decide)
  cases w with
  | nil=>exact absurd h (by decide)
  | cons c z=>
   obtain ⟨h1,h2,h3,h4,h5⟩:=this c h
   refine ⟨?_,?_,?_,?_,h5⟩<;>(intro e;rw [List.cons.injEq] at e;simp_all)
 ·obtain ⟨c,z,rfl,hc,hl,_,_⟩:=q6v h
  have:c≠41∧c≠93∧c≠44∧c≠35:=by
   refine ⟨?_,?_,?_,?_⟩<;>(rintro rfl;revert hc;decide)
  refine ⟨?_,?_,?_,hl,this.2.2.2⟩<;>(intro e;rw [List.cons.injEq] at e;simp_all)
structure z0q (t:Tn):Prop where
 b:∃ w z,t.tk=w::z∧v6t w
 s:∀ rest:List Wd,rest.head?≠some [40]→PR .single (brk 2 t++rest) (.ok 0 t.ns rest)
 l1:∀ (rest:List Wd) (r:Rs),rest.head?≠some [40]→PR (.loop 1 t.ns) rest r→PR (.level 1) (brk 1 t++rest) r
 l0:∀ (rest:List Wd) (r:Rs),rest.head?≠some [40]→rest.head?≠some [42]→PR (.loop 0 t.ns) rest r→PR (.level 0) (brk 0 t++rest) r
theorem z0z (t:Tn):brk 0 t=t.tk:=by simp [brk]
theorem k0s {t:Tn} (h:z0q t) {rest:List Wd} (h1:rest.head?≠some [40]) (h2:rest.head?≠some [42]) (h3:rest.head?≠some [43]):PR (.level 0) (t.tk++rest) (.ok 0 t.ns rest):=by
 have:=h.l0 rest (.ok 0 t.ns rest) h1 h2 (.lopE h3)
 rwa [z0z] at this
theorem v4a {t:Tn} (h:z0q t) {rest:List Wd} (h1:rest.head?≠some [40]) (h2:rest.head?≠some [42]):PR (.level 1) (brk 1 t++rest) (.ok 0 t.ns rest):=
 h.l1 rest (.ok 0 t.ns rest) h1 (.lopE h2)
theorem q4f {t:Tn} (hp:prc t.x=2) (hb:∃ w z,t.tk=w::z∧v6t w) (h:∀ rest:List Wd,rest.head?≠some [40]→PR .single (t.tk++rest) (.ok 0 t.ns rest)):z0q t:=by
 have b1:brk 1 t=t.tk:=by rw [brk,if_neg (by omega)]
 have b2:brk 2 t=t.tk:=by rw [brk,if_neg (by omega)]
 have h1:∀ (rest:List Wd) (r:Rs),rest.head?≠some [40]→PR (.loop 1 t.ns) rest r→PR (.level 1) (t.tk++rest) r:=
  fun rest r hr hl=>.levO (by omega) (.lev2 (h rest hr)) hl
 refine ⟨hb,by rw [b2];exact h,by rw [b1];exact h1,fun rest r hr hs hl=>?_⟩
 rw [z0z]
 exact .levO (by omega) (h1 rest _ hr (.lopE hs)) hl
theorem k7v {t:Tn} (h:∃ w z,t.tk=w::z∧v6t w) (l:Nat) (r:List Wd):∃ w z,brk l t++r=w::z∧v6t w:=by
 by_cases hp:prc t.x<l
 ·rw [brk,if_pos hp]
  exact ⟨[40],_,rfl,.inl rfl⟩
 ·rw [brk,if_neg hp]
  obtain ⟨w,z,e,hw⟩:=h
  exact ⟨w,z++r,by rw [e];rfl,hw⟩
theorem z8x {t:Tn} {l:Nat} (hp:prc t.x<l) (hl:∀ rest:List Wd,rest.head?≠some [40]→rest.head?≠some [42]→rest.head?≠some [43]→PR (.level 0) (t.tk++rest) (.ok 0 t.ns rest)) (rest:List Wd):PR .single (brk l t++rest) (.ok 0 t.ns rest):=by
 rw [brk,if_pos hp,List.cons_append,List.append_assoc]
 exact .sPC (hl ([41]::rest) (by simp) (by simp) (by simp))
theorem j2k {x:Td} {a b:Tn} (hx:x=sgT 1) (ha:z0q a) (hb:z0q b):z0q (q0r x [a,b]):=by
 have ho:x.op=6:=by rw [hx];rfl
 have hp:prc (q0r x [a,b]).x=1:=by simp [q0r,prc,ho]
 have hk:(q0r x [a,b]).tk=brk 1 a++[42]::brk 2 b:=by simp [q0r,q9e,two2,ho]
 have hn:(q0r x [a,b]).ns=sgT 1::(a.ns++b.ns):=by simp [q0r,hx]
 have h1:∀ (rest:List Wd) (r:Rs),rest.head?≠some [40]→PR (.loop 1 (q0r x [a,b]).ns) rest r→PR (.level 1) ((q0r x [a,b]).tk++rest) r:=by
  intro rest r hr hl
  rw [hk,List.append_assoc]
  refine ha.l1 _ _ (by simp) ?_
  rw [hn] at hl
  exact .lopO (k:=1) (.lev2 (hb.s rest hr)) hl
 have h0:∀ (rest:List Wd) (r:Rs),rest.head?≠some [40]→rest.head?≠some [42]→PR (.loop 0 (q0r x [a,b]).ns) rest r→PR (.level 0) ((q0r x [a,b]).tk++rest) r:=
  fun rest r hr hs hl=>.levO (by omega) (h1 rest _ hr (.lopE hs)) hl
 refine ⟨by rw [hk];exact k7v ha.b _ _,fun rest _=>z8x (by omega) (fun rest h40 h42 h43=>h0 rest _ h40 h42 (.lopE h43)) rest,fun rest r hr hl=>?_,fun rest r hr hs hl=>?_⟩
 ·rw [brk,if_neg (by omega)];exact h1 rest r hr hl
 ·rw [z0z];exact h0 rest r hr hs hl
theorem j2l {x:Td} {a b:Tn} (hx:x=sgT 0) (ha:z0q a) (hb:z0q b):z0q (q0r x [a,b]):=by
 have ho:x.op=5:=by rw [hx];rfl
 have hp:prc (q0r x [a,b]).x=0:=by simp [q0r,prc,ho]
 have hk:(q0r x [a,b]).tk=brk 0 a++[43]::brk 1 b:=by simp [q0r,q9e,two2,ho]
 have hn:(q0r x [a,b]).ns=sgT 0::(a.ns++b.ns):=by simp [q0r,hx]
 have h0:∀ (rest:List Wd) (r:Rs),rest.head?≠some [40]→rest.head?≠some [42]→PR (.loop 0 (q0r x [a,b]).ns) rest r→PR (.level 0) ((q0r x [a,b]).tk++rest) r:=by
  intro rest r hr hs hl
  rw [hk,List.append_assoc]
  refine ha.l0 _ _ (by simp) (by simp) ?_
  rw [hn] at hl
  exact .lopO (k:=0) (v4a hb hr hs) hl
 have hs:∀ l,0<l→∀ rest:List Wd,PR .single (brk l (q0r x [a,b])++rest) (.ok 0 (q0r x [a,b]).ns rest):=
  fun l hl rest=>z8x (by omega) (fun rest h40 h42 h43=>h0 rest _ h40 h42 (.lopE h43)) rest
 refine ⟨by rw [hk];exact k7v ha.b _ _,fun rest _=>hs 2 (by omega) rest,fun rest r _ hl=>.levO (by omega) (.lev2 (hs 1 (by omega) rest)) hl,fun rest r hr hs hl=>?_⟩
 rw [z0z];exact h0 rest r hr hs hl
def cmt:List Tn→List Wd
 | []=>[]
 | t::r=>[44]::cmk (t::r)
theorem z4z (t:Tn) (r:List Tn):cmk (t::r)=t.tk++cmt r:=by
 cases r with
 | nil=>simp [cmk,cmt]
 | cons u r=>simp [cmk,cmt]
theorem k2h {e:Wd} (he:e=[41]∨e=[93]) (r:List Tn) (rest:List Wd):(cmt r++e::rest).head?≠some [40]∧(cmt r++e::rest).head?≠some [42]∧(cmt r++e::rest).head?≠some [43]:=by
 cases r with
 | nil=>rcases he with rfl | rfl<;>simp [cmt]
 | cons t r=>simp [cmt]
theorem z7b {e:Wd} (he:e=[41]∨e=[93]):∀ (ks:List Tn),(∀ t∈ks,z0q t)→∀ (n:Nat) (acc:List Td) (rest:List Wd),
  PR (.args e (n+1) acc) (cmt ks++e::rest) (.ok (n+1+ks.length) (acc++ks.flatMap (·.ns)) rest)
 | [],_,n,acc,rest=>by simpa [cmt] using PR.aEnd
 | t::r,h,n,acc,rest=>by
  obtain ⟨h1,h2,h3⟩:=k2h he r rest
  have ih:=z7b he r (fun u hu=>h u (by simp [hu])) (n+1) (acc++t.ns) rest
  have hl:=k0s (h t (by simp)) h1 h2 h3
  have e1:cmt (t::r)++e::rest=[44]::(t.tk++(cmt r++e::rest)):=by rw [cmt,z4z];simp
  have e2:n+1+(t::r).length=n+1+1+r.length:=by simp;omega
  have e3:acc++(t::r).flatMap (·.ns)=acc++t.ns++r.flatMap (·.ns):=by simp
  rw [e1,e2,e3]
  exact .aO (by rcases he with rfl | rfl<;>decide) hl ih
theorem k2a {e:Wd} (he:e=[41]∨e=[93]) (ks:List Tn) (h:∀ t∈ks,z0q t) (rest:List Wd) :
  PR (.args e 0 []) (cmk ks++e::rest) (.ok ks.length (ks.flatMap (·.ns)) rest):=by
 cases ks with
 | nil=>simpa [cmk] using PR.aEnd
 | cons t r=>
  obtain ⟨h1,h2,h3⟩:=k2h he r rest
  have ih:=z7b he r (fun u hu=>h u (by simp [hu])) 0 ([]++t.ns) rest
  have hl:=k0s (h t (by simp)) h1 h2 h3
  obtain ⟨w,z,e0,hw⟩:=(h t (by simp)).b
  have hne:=k7h hw
  have e1:cmk (t::r)++e::rest=t.tk++(cmt r++e::rest):=by rw [z4z];simp
  have e2:(t::r).length=0+1+r.length:=by simp;omega
  have e3:(t::r).flatMap (·.ns)=[]++t.ns++r.flatMap (·.ns):=by simp
  rw [e1,e2,e3]
  refine .aO0 ?_ hl ih
  rw [e0,List.cons_append,List.head?_cons]
  intro e4
  rcases he with rfl | rfl
  ·exact hne.1 (Option.some.inj e4)
  ·exact hne.2.1 (Option.some.inj e4)
theorem z6o {x:Td} {op:Int} {tx:ByteArray} {n:Int} (h1:x.op=op) (h2:x.tx=tx) (h3:x.n=n):x=⟨op,tx,n⟩:=by
 cases x;simp_all
theorem v6h {α:Type} {l:List α} (h:l.length=2):∃ a b,l=[a,b]:=by
 match l,h with
 | [a,b],_=>exact ⟨a,b,rfl⟩
theorem z2k:∀ F:Fo,F.ok→F.exs→∀ t∈F.trs,z0q t
 | .nil,_,_,t,ht=>by cases ht
 | .cons x k n,hok,hex,t,ht=>by
  have hexk:k.exs:=fun y hy=>hex y (by simp [Fo.nodes,hy])
  have hexn:n.exs:=fun y hy=>hex y (by simp [Fo.nodes,hy])
  have ihk:=z2k k hok.2.1 hexk
  rw [Fo.trs] at ht
  rcases List.mem_cons.1 ht with rfl | ht
  ·have hlen:k.trs.length=kdT x:=by rw [z0e];exact hok.1
   rcases q3c (hex x (by simp [Fo.nodes])) with ⟨ho,htx,hn0,hn1,hk⟩ | ⟨ho,hnm,hn0,hk⟩ | ⟨ho,hnm,hn0,hn1,hk⟩ | ⟨ho,htx,hn0,hn1,hk⟩ | ⟨ho,htx,hn0,hk⟩ | ⟨ho,htx,hn0,hk⟩
   ·have hks:k.trs=[]:=List.eq_nil_of_length_eq_zero (by omega)
    have hnum:k1b (q4m x.n.toNat)=true:=by
     have h1:=z5c x.n.toNat
     cases hd:q4m x.n.toNat with
     | nil=>exact absurd hd (k0e _)
     | cons c z=>exact h1 c (by rw [hd];simp)
    have htk:(q0r x k.trs).tk=[q4m x.n.toNat]:=by simp [q0r,q9e,ho]
    have hns:(q0r x k.trs).ns=[y0l (q4m x.n.toNat)]:=by
     rw [q0r,hks]
     simp only [List.flatMap_nil,List.cons.injEq,and_true]
     exact z6o ho htx (by rw [j7p];omega)
    refine q4f (by simp [q0r,prc,ho]) ⟨_,_,htk,.inr (.inr (.inl hnum))⟩ fun rest _=>?_
    rw [htk,hns]
    exact .sNum hnum
   ·have hks:k.trs=[]:=List.eq_nil_of_length_eq_zero (by omega)
    have hnw:nmW (btL x.tx)=true:=hnm
    have htk:(q0r x k.trs).tk=[btL x.tx]:=by simp [q0r,q9e,ho]
    have hns:(q0r x k.trs).ns=[nmT (btL x.tx)]:=by
     rw [q0r,hks]
     simp only [List.flatMap_nil,List.cons.injEq,and_true]
     exact z6o ho rfl hn0
    refine q4f (by simp [q0r,prc,ho]) ⟨_,_,htk,.inr (.inr (.inr hnw))⟩ fun rest hr=>?_
    rw [htk,hns]
    exact .sName hnw hr
   ·have hnw:nmW (btL x.tx)=true:=hnm
    have htk:(q0r x k.trs).tk=btL x.tx::[40]::(cmk k.trs++[[41]]):=by simp [q0r,q9e,ho]
    have hns:(q0r x k.trs).ns=clT (btL x.tx) k.trs.length::k.trs.flatMap (·.ns):=by
     rw [q0r]
     simp only [List.cons.injEq,and_true]
     exact z6o ho rfl (by omega)
    refine q4f (by simp [q0r,prc,ho]) ⟨_,_,htk,.inr (.inr (.inr hnw))⟩ fun rest hr=>?_
    rw [htk,hns]
    have:=k2a (.inl rfl) k.trs ihk rest
    refine .sCO hnw ?_
    simpa using this
   ·have htk:(q0r x k.trs).tk=[91]::(cmk k.trs++[[93]]):=by simp [q0r,q9e,ho]
    have hns:(q0r x k.trs).ns=lsT k.trs.length::k.trs.flatMap (·.ns):=by
     rw [q0r]
     simp only [List.cons.injEq,and_true]
     exact z6o ho htx (by omega)
    refine q4f (by simp [q0r,prc,ho]) ⟨_,_,htk,.inr (.inl rfl)⟩ fun rest hr=>?_
    rw [htk,hns]
    have:=k2a (.inr rfl) k.trs ihk rest
    refine .sLO ?_
    simpa using this
   ·obtain ⟨a,b,hab⟩:=v6h (hlen.trans hk)
    rw [hab] at ihk ⊢
    exact j2l (z6o ho htx hn0) (ihk a (by simp)) (ihk b (by simp))
   ·obtain ⟨a,b,hab⟩:=v6h (hlen.trans hk)
    rw [hab] at ihk ⊢
    exact j2k (z6o ho htx hn0) (ihk a (by simp)) (ihk b (by simp))
  ·exact z2k n hok.2.2 hexn t ht
theorem k2d (l:Nat) (t:Tn):(brx l t).length≤t.tx.length+2:=by
 unfold brx
 split
 ·simp
 ·omega
theorem v0d:∀ ks:List Tn,(∀ t∈ks,t.tx.length+4≤16*t.ns.length)→(cmx ks).length≤16*(ks.flatMap (·.ns)).length
 | [],_=>by simp [cmx]
 | [t],h=>by
  have:=h t (by simp)
  simp [cmx];omega
 | t::u::r,h=>by
  have h1:=h t (by simp)
  have h2:=v0d (u::r) (fun x hx=>h x (by simp [hx]))
  rw [cmx,List.flatMap_cons,List.length_append,List.length_append]
  simp only [List.length_cons]
  omega
theorem q2c {s:ByteArray} (h:q1c s=true):(btL s).length≤8:=by
 unfold q1c at h
 simp only [Bool.and_eq_true,decide_eq_true_eq] at h
 rw [q0b]
 exact h.1.1.2
theorem j3t:∀ F:Fo,F.ok→F.exs→∀ t∈F.trs,t.tx.length+4≤16*t.ns.length
 | .nil,_,_,t,ht=>by cases ht
 | .cons x k n,hok,hex,t,ht=>by
  have hexk:k.exs:=fun y hy=>hex y (by simp [Fo.nodes,hy])
  have hexn:n.exs:=fun y hy=>hex y (by simp [Fo.nodes,hy])
  have ihk:=j3t k hok.2.1 hexk
  rw [Fo.trs] at ht
  rcases List.mem_cons.1 ht with rfl | ht
  ·have hlen:k.trs.length=kdT x:=by rw [z0e];exact hok.1
   have hc:=v0d k.trs ihk
   rcases q3c (hex x (by simp [Fo.nodes])) with ⟨ho,htx,hn0,hn1,hk⟩ | ⟨ho,hnm,hn0,hk⟩ | ⟨ho,hnm,hn0,hn1,hk⟩ | ⟨ho,htx,hn0,hn1,hk⟩ | ⟨ho,htx,hn0,hk⟩ | ⟨ho,htx,hn0,hk⟩
   ·have:=q8d 5 x.n.toNat (by omega)
    simp [q0r,q2r,ho];omega
   ·have:=q2c hnm
    simp only [q0r,q2r,ho]
    simp at this ⊢;omega
   ·have:=q2c hnm
    simp only [q0r,q2r,ho]
    simp at this hc ⊢;omega
   ·simp only [q0r,q2r,ho]
    simp at hc ⊢;omega
   ·obtain ⟨a,b,hab⟩:=v6h (hlen.trans hk)
    rw [hab] at ihk ⊢
    have h1:=ihk a (by simp)
    have h2:=ihk b (by simp)
    have h3:=k2d 0 a
    have h4:=k2d 1 b
    simp [q0r,q2r,ho,two2];omega
   ·obtain ⟨a,b,hab⟩:=v6h (hlen.trans hk)
    rw [hab] at ihk ⊢
    have h1:=ihk a (by simp)
    have h2:=ihk b (by simp)
    have h3:=k2d 1 a
    have h4:=k2d 2 b
    simp [q0r,q2r,ho,two2];omega
  ·exact j3t n hok.2.2 hexn t ht
def Fo.tk:Nat→Fo→Fo
 | 0,_=>.nil
 | _+1,.nil=>.nil
 | k+1,.cons x a n=>.cons x a (Fo.tk k n)
def Fo.dp:Nat→Fo→Fo
 | 0,f=>f
 | _+1,.nil=>.nil
 | k+1,.cons _ _ n=>Fo.dp k n
theorem k0n:∀ f g:Fo,Fo.tk f.len (f.app g)=f
 | .nil,g=>by cases g<;>rfl
 | .cons x k n,g=>by simp only [Fo.len,Fo.app,Fo.tk,k0n n g]
theorem k0l:∀ f g:Fo,Fo.dp f.len (f.app g)=g
 | .nil,g=>by cases g<;>rfl
 | .cons x k n,g=>by simp only [Fo.len,Fo.app,Fo.dp,k0l n g]
theorem q9s:∀ f:Fo,f.app .nil=f
 | .nil=>rfl
 | .cons x k n=>by simp only [Fo.app,q9s n]
def k7p:List Td→Fo
 | []=>.nil
 | x::r=>.cons x (Fo.tk (kdT x) (k7p r)) (Fo.dp (kdT x) (k7p r))
theorem z4w:∀ (F:Fo),F.ok→∀ r,k7p (F.nodes++r)=F.app (k7p r)
 | .nil,_,r=>rfl
 | .cons x k n,h,r=>by
  have e1:=z4w n h.2.2 r
  have e2:=z4w k h.2.1 (n.nodes++r)
  rw [Fo.nodes,List.cons_append,List.append_assoc,k7p,e2,e1,←h.1,k0n,k0l]
  rfl
theorem k4l (F:Fo) (h:F.ok):k7p F.nodes=F:=by
 have:=z4w F h []
 rw [List.append_nil] at this
 rw [this]
 exact q9s F
theorem q5l {ds:List Td} (h:q0c ds=0):(∃ x,ds=[x]∧x.op=9∧x.n=0∧q3k x.tx=0)∨
  (∃ (x:Td) (F:Fo),ds=x::F.nodes∧F.ok∧F.exs∧F.len=1∧((x.op=7∧q1c x.tx=true∧x.n=0)∨(x.op=8∧x.tx=⟨#[]⟩∧x.n=0))):=by
 obtain ⟨_,hn,he,ht⟩:=q2i h
 cases ds with
 | nil=>rw [z1d [] 0 0 (by simp)] at he;cases he
 | cons x r=>
  have hx:=hn x (by simp)
  simp only [j3k,Bool.and_eq_true,decide_eq_true_eq,List.all_eq_true] at ht
  rw [z0s,List.drop_zero,q4o,Option.map_map,Option.map_eq_some_iff] at he
  obtain ⟨j,hj,hj2⟩:=he
  simp only [Function.comp_apply,List.length_cons] at hj2
  have hjl:j=r.length:=by omega
  rw [Nat.add_zero,hjl] at hj
  obtain ⟨F,f1,f2,f3⟩:=v3c r.length r (kdT x) r.length (Nat.le_refl _) hj
  rw [List.take_length] at f3
  have hex:F.exs:=fun y hy=>by
   rw [f3] at hy
   exact ⟨hn y (by simp [hy]),ht.2 y hy⟩
  have hem:∀ s:ByteArray,¬ 0<s.size→s=⟨#[]⟩:=fun s hs=>by
   apply ByteArray.ext
   apply Array.toList_inj.1
   exact List.eq_nil_of_length_eq_zero (by have:=q0b s;simp only [btL] at this;omega)
  unfold q0l at hx
  split at hx
  ·cases hx
  ·rename_i h1
   split at hx
   ·cases hx
   ·split at hx
    ·cases hx
    ·rename_i h3
     have ho:x.op=7∨x.op=8∨x.op=9:=by omega
     rcases ho with ho | ho | ho
     ·have hk1:kdT x=1:=by unfold kdT;rw [ho];rfl
      rw [if_neg (by omega)] at hx
      split at hx
      ·cases hx
      ·rename_i h4
       refine .inr ⟨x,F,by rw [f3],f1,hex,by rw [f2,hk1],.inl ⟨ho,?_,by omega⟩⟩
       cases hnm:q1c x.tx with
       | true=>rfl
       | false=>exact absurd ⟨by rw [ho];rfl,hnm⟩ h4
     ·have hk1:kdT x=1:=by unfold kdT;rw [ho];rfl
      exact .inr ⟨x,F,by rw [f3],f1,hex,by rw [f2,hk1],.inr ⟨ho,hem _ (fun hh=>h3 (.inr ⟨by rw [ho];rfl,hh⟩)),by omega⟩⟩
     ·have hk0:kdT x=0:=by unfold kdT;rw [ho];rfl
      rw [if_pos ho] at hx
      have hF:F = .nil:=by
       cases F with
       | nil=>rfl
       | cons y k n=>rw [hk0] at f2;simp [Fo.len] at f2
      rw [hF] at f3
      exact .inl ⟨x,by rw [←f3];rfl,ho,by omega,hx⟩
def hdT (ks:List Tn):List UInt8:=match ks with
 | t::_=>t.tx
 | []=>[]
def hdK (ks:List Tn):List Wd:=match ks with
 | t::_=>t.tk
 | []=>[]
def stX (x:Td) (ks:List Tn):List UInt8:=
 if x.op=7 then [108,101,116,32]++btL x.tx++[32,61,32]++hdT ks++[59] else if x.op=8 then hdT ks++[59] else if x.tx.size=0 then [35] else [35,32]++btL x.tx
def stK (x:Td) (ks:List Tn):List Wd:=
 if x.op=7 then [108,101,116]::btL x.tx::[61]::(hdK ks++[[59]]) else if x.op=8 then hdK ks++[[59]] else [if x.tx.size=0 then [35] else [35,32]++btL x.tx]
def q2y (ds:List Td):List UInt8:=match k7p ds with
 | .nil=>[]
 | .cons x k _=>stX x k.trs
def z6w (ds:List Td):List Wd:=match k7p ds with
 | .nil=>[]
 | .cons x k _=>stK x k.trs
theorem v1h {x:Td} {F:Fo} (h:F.ok) (hl:F.len=kdT x):k7p (x::F.nodes) = .cons x F .nil:=by
 have h1:=k0n F .nil
 have h2:=k0l F .nil
 rw [q9s] at h1 h2
 rw [k7p,k4l F h,←hl,h1,h2]
theorem z2n {x:Td} {F:Fo} (h:F.ok) (hl:F.len=kdT x):q2y (x::F.nodes)=stX x F.trs∧z6w (x::F.nodes)=stK x F.trs:=by
 rw [q2y,z6w,v1h h hl]
 exact ⟨rfl,rfl⟩
def q2a (ps:List (List Td)):List UInt8:=ps.flatMap fun t=>q2y t++[10]
theorem z4f (t:List Td) (r:List (List Td)):q2a (t::r)=q2y t++[10]++q2a r:=by simp [q2a]
theorem k5r (r:List (List Td)) (t:List Td):q2a (r++[t])=q2a r++(q2y t++[10]):=by simp [q2a]
end Go.Proofs.YtchdplceopegoaaGreatDoor
namespace Go.Proofs.YtchdplceopegoaaGreatDoor
structure Nd where
 op:Int
 tx:ByteArray
 n:Int
def pts (op:Int):Nat:=if op=6∨op=9 then 2 else if op=7∨op=8 then 1 else 0
theorem v1b (op:Int):pts op≤2:=by unfold pts;split<;>(try split)<;>omega
def cnt:List Nd→Nat→Option Nat
 | _,0=>some 0
 | [],_+1=>none
 | x::r,m+1=>(cnt r (pts x.op+m)).map (· + 1)
theorem q6p (ds:List Nd):cnt ds 0=some 0:=by cases ds<;>rfl
theorem q9m (m:Nat):cnt [] (m+1)=none:=rfl
theorem q3o (x:Nd) (r:List Nd) (m:Nat):cnt (x::r) (m+1)=(cnt r (pts x.op+m)).map (· + 1):=rfl
theorem k8i:∀ (ds:List Nd) (m k:Nat),cnt ds m=some k→m≤k∧k≤ds.length
 | ds,0,k,h=>by rw [q6p] at h;cases h;simp
 | [],m+1,k,h=>by rw [q9m] at h;cases h
 | x::r,m+1,k,h=>by
  rw [q3o,Option.map_eq_some_iff] at h
  obtain ⟨j,h1,rfl⟩:=h
  have:=k8i r _ j h1
  simp
  omega
theorem k8h:∀ (ds:List Nd) (a b:Nat),cnt ds (a+b)=(cnt ds a).bind fun k=>(cnt (ds.drop k) b).map (k + ·)
 | ds,0,b=>by
  rw [q6p]
  simp
 | [],a+1,b=>by rw [show a+1+b=(a+b)+1 by omega,q9m,q9m];rfl
 | x::r,a+1,b=>by
  rw [show a+1+b=(a+b)+1 by omega,q3o,q3o,show pts x.op+(a+b)=(pts x.op+a)+b by omega,k8h r _ b]
  cases cnt r (pts x.op+a) with
  | none=>rfl
  | some k=>
   simp only [Option.bind_some,Option.map_some,List.drop_succ_cons]
   cases cnt (r.drop k) b with
   | none=>rfl
   | some j=>simp;omega
theorem k8j:∀ (ds:List Nd) (m k i:Nat),cnt ds m=some k→i<k→∃ m',cnt (ds.drop i) (m'+1)=some (k - i)
 | ds,0,k,i,h,hi=>by rw [q6p] at h;cases h;omega
 | [],m+1,k,i,h,hi=>by rw [q9m] at h;cases h
 | x::r,m+1,k,i,h,hi=>by
  cases i with
  | zero=>exact ⟨m,h⟩
  | succ i=>
   rw [q3o,Option.map_eq_some_iff] at h
   obtain ⟨j,h1,rfl⟩:=h
   obtain ⟨m',h2⟩:=k8j r _ j i h1 (by omega)
   exact ⟨m',by rw [List.drop_succ_cons,h2];congr 1;omega⟩
def q1k (ds:List Nd) (i m:Nat):Option Nat:=(cnt (ds.drop i) m).map (i + ·)
theorem k4w (ds:List Nd) (i:Nat):q1k ds i 0=some i:=by simp [q1k,q6p]
theorem k8z (ds:List Nd) (i m:Nat) (h:ds.length≤i):q1k ds i (m+1)=none:=by
 rw [q1k,List.drop_eq_nil_of_le h,q9m];rfl
theorem k4u (ds:List Nd) (i m:Nat) (h:i<ds.length):q1k ds i (m+1)=q1k ds (i+1) (pts ds[i].op+m):=by
 rw [q1k,List.drop_eq_getElem_cons h,q3o,q1k]
 cases cnt (ds.drop (i+1)) (pts ds[i].op+m) with
 | none=>rfl
 | some k=>simp;omega
theorem j6b {ds:List Nd} {i m j:Nat} (h:q1k ds i m=some j):i+m≤j∧(m=0∨j≤ds.length):=by
 rw [q1k,Option.map_eq_some_iff] at h
 obtain ⟨k,h1,rfl⟩:=h
 have h2:=k8i _ _ _ h1
 rw [List.length_drop] at h2
 omega
theorem k8y {ds:List Nd} {i:Nat} (h:q1k ds 0 1=some ds.length) (hi:i<ds.length):∃ j,q1k ds i 1=some j∧i<j∧j≤ds.length:=by
 rw [q1k,Option.map_eq_some_iff] at h
 obtain ⟨k,h1,h2⟩:=h
 have hk:k=ds.length:=by omega
 subst hk
 obtain ⟨m',h3⟩:=k8j _ _ _ i h1 hi
 rw [List.drop_zero,Nat.add_comm m' 1,k8h] at h3
 cases h4:cnt (ds.drop i) 1 with
 | none=>rw [h4] at h3;cases h3
 | some j=>
  have h5:q1k ds i 1=some (i+j):=by rw [q1k,h4];rfl
  have h6:=j6b h5
  exact ⟨i+j,h5,by omega,by omega⟩
def q4l (b:UInt8):Bool:=decide (32≤b.toNat) && decide (b.toNat≤126)
def isW (s:ByteArray):Bool:=decide (1≤s.size) && decide (s.size≤20) && s.data.toList.all q4l
def q0p (x:Nd):Int:=
 if x.op<1∨9<x.op then 1
 else if (x.op≠1∧x.tx.size≠0)∨(x.op≠7∧x.n≠0) then 2
 else if x.op=1∧isW x.tx=false then 5
 else if x.op=7∧(x.n<0∨8<x.n) then 1 else 0
def q7d:List Nd→Int
 | []=>0
 | x::r=>if q0p x=0 then q7d r else q0p x
def q2k (ds:List Nd):Int:=
 if 400<ds.length then 3 else if q7d ds=0 then (if q1k ds 0 1=some ds.length then 0 else 2) else q7d ds
theorem q9q:∀ (ds:List Nd),(∀ x∈ds,q0p x=0)→q7d ds=0
 | [],_=>rfl
 | x::r,h=>by rw [q7d,if_pos (h x (by simp)),q9q r fun y hy=>h y (by simp [hy])]
theorem z1z:∀ (ds:List Nd),q7d ds=0→∀ x∈ds,q0p x=0
 | [],_=>by simp
 | x::r,h=>by
  rw [q7d] at h
  split at h
  ·rename_i h0
   intro y hy
   rcases List.mem_cons.1 hy with rfl | hy
   ·exact h0
   ·exact z1z r h y hy
  ·rename_i h0
   exact absurd h h0
theorem z7r:∀ (ds:List Nd) (k:Nat) (h:k<ds.length),(∀ x∈ds.take k,q0p x=0)→q0p ds[k]≠0→q7d ds=q0p ds[k]
 | x::r,0,_,_,h=>by
  have h':q0p x≠0:=h
  rw [q7d,if_neg h'];rfl
 | x::r,k+1,hk,ha,h=>by
  rw [q7d,if_pos (ha x (by simp)),z7r r k (by simpa using hk) (fun y hy=>ha y (by simp [hy])) h]
  rfl
theorem q4q {ds:List Nd} (h:q2k ds=0):ds.length≤400∧(∀ x∈ds,q0p x=0)∧q1k ds 0 1=some ds.length:=by
 unfold q2k at h
 split at h
 ·cases h
 ·rename_i h1
  split at h
  ·rename_i h2
   split at h
   ·rename_i h3
    exact ⟨by omega,z1z ds h2,h3⟩
   ·cases h
  ·rename_i h2
   exact absurd h h2
theorem v2y {ds:List Nd} (h1:ds.length≤400) (h2:∀ x∈ds,q0p x=0) (h3:q1k ds 0 1=some ds.length):q2k ds=0:=by
 rw [q2k,if_neg (by omega),if_pos (q9q ds h2),if_pos h3]
inductive Tr where
 | leaf (x:Nd)
 | one (x:Nd) (a:Tr)
 | two (x:Nd) (a b:Tr)
def Tr.nodes:Tr→List Nd
 | .leaf x=>[x]
 | .one x a=>x::a.nodes
 | .two x a b=>x::(a.nodes++b.nodes)
def Tr.Wf:Tr→Prop
 | .leaf x=>q0p x=0∧pts x.op=0
 | .one x a=>q0p x=0∧pts x.op=1∧a.Wf
 | .two x a b=>q0p x=0∧pts x.op=2∧a.Wf∧b.Wf
theorem v8x:∀ (ds:List Nd) (m k:Nat),(∀ x∈ds,q0p x=0)→cnt ds m=some k→∃ ts:List Tr,ts.length=m∧(∀ t∈ts,t.Wf)∧ds.take k=(ts.map Tr.nodes).flatten
 | ds,0,k,_,h=>by rw [q6p] at h;cases h;exact ⟨[],rfl,by simp,by simp⟩
 | [],m+1,k,_,h=>by rw [q9m] at h;cases h
 | x::r,m+1,k,hn,h=>by
  rw [q3o,Option.map_eq_some_iff] at h
  obtain ⟨j,h1,rfl⟩:=h
  obtain ⟨ts,e1,e2,e3⟩:=v8x r _ j (fun y hy=>hn y (by simp [hy])) h1
  have hx:=hn x (by simp)
  have h012:pts x.op=0∨pts x.op=1∨pts x.op=2:=by have:=v1b x.op;omega
  rcases h012 with h0 | h0 | h0
  ·exact ⟨.leaf x::ts,by simp [e1,h0],by intro t ht;rcases List.mem_cons.1 ht with rfl | ht;exact ⟨hx,h0⟩;exact e2 t ht,by simp [Tr.nodes,e3]⟩
  ·match ts,e1,e2,e3 with
   | [],e1,_,_=>simp at e1;omega
   | a::ts,e1,e2,e3=>
    refine ⟨.one x a::ts,by simp at e1 ⊢;omega,?_,by simp [Tr.nodes,e3]⟩
    intro t ht
    rcases List.mem_cons.1 ht with rfl | ht
    ·exact ⟨hx,h0,e2 a (by simp)⟩
    ·exact e2 t (by simp [ht])
  ·match ts,e1,e2,e3 with
   | [],e1,_,_=>simp at e1;omega
   | [a],e1,_,_=>simp at e1;omega
   | a::b::ts,e1,e2,e3=>
    refine ⟨.two x a b::ts,by simp at e1 ⊢;omega,?_,by simp [Tr.nodes,e3]⟩
    intro t ht
    rcases List.mem_cons.1 ht with rfl | ht
    ·exact ⟨hx,h0,e2 a (by simp),e2 b (by simp)⟩
    ·exact e2 t (by simp [ht])
theorem z1a:∀ (t:Tr) (r:List Nd) (m:Nat),t.Wf→cnt (t.nodes++r) (m+1)=(cnt r m).map (t.nodes.length + ·)
 | .leaf x,r,m,h=>by
  simp only [Tr.nodes,List.cons_append,List.nil_append,q3o,h.2,Nat.zero_add,List.length_cons,List.length_nil]
  cases cnt r m<;>simp [Nat.add_comm]
 | .one x a,r,m,h=>by
  simp only [Tr.nodes,List.cons_append,q3o,h.2.1,Nat.add_comm 1 m,z1a a r m h.2.2,List.length_cons]
  cases cnt r m<;>simp;omega
 | .two x a b,r,m,h=>by
  simp only [Tr.nodes,List.cons_append,List.append_assoc,q3o,h.2.1,show 2+m=(m+1)+1 by omega,z1a a (b.nodes++r) (m+1) h.2.2.1,z1a b r m h.2.2.2,List.length_cons,List.length_append]
  cases cnt r m<;>simp;omega
theorem Tr.pos:∀ t:Tr,0<t.nodes.length
 | .leaf _=>by simp [Tr.nodes]
 | .one _ _=>by simp [Tr.nodes]
 | .two _ _ _=>by simp [Tr.nodes]
theorem k4v {ds:List Nd} {i:Nat} {t:Tr} {r:List Nd} (h:t.Wf) (hd:ds.drop i=t.nodes++r):q1k ds i 1=some (i+t.nodes.length):=by
 rw [q1k,hd,z1a t r 0 h,q6p];rfl
theorem j3m {ds:List Nd} {i j:Nat} (hn:∀ x∈ds,q0p x=0) (h:q1k ds i 1=some j):∃ t:Tr,t.Wf∧ds.drop i=t.nodes++ds.drop j∧j=i+t.nodes.length:=by
 rw [q1k,Option.map_eq_some_iff] at h
 obtain ⟨k,h1,rfl⟩:=h
 obtain ⟨ts,e1,e2,e3⟩:=v8x _ _ _ (fun x hx=>hn x (List.mem_of_mem_drop hx)) h1
 match ts,e1,e2,e3 with
 | [t],_,e2,e3=>
  have e4:(ds.drop i).take k=t.nodes:=by simpa using e3
  have e5:=k8i _ _ _ h1
  refine ⟨t,e2 t (by simp),?_,?_⟩
  ·rw [←e4,←List.drop_drop,List.take_append_drop]
  ·rw [←e4,List.length_take];omega
theorem z5g {ds:List Nd} (h:q2k ds=0):∃ t:Tr,t.Wf∧ds=t.nodes:=by
 obtain ⟨_,h2,h3⟩:=q4q h
 obtain ⟨t,ht,e1,e2⟩:=j3m h2 h3
 refine ⟨t,ht,?_⟩
 rw [List.drop_zero,List.drop_length,List.append_nil] at e1
 exact e1
theorem q8x {t:Tr} (h:t.Wf) (hl:t.nodes.length≤400):q2k t.nodes=0:=by
 refine v2y hl ?_ ?_
 ·clear hl
  induction t with
  | leaf x=>intro y hy;simp [Tr.nodes] at hy;subst hy;exact h.1
  | one x a ih=>
   intro y hy
   rcases List.mem_cons.1 hy with rfl | hy
   ·exact h.1
   ·exact ih h.2.2 y hy
  | two x a b ia ib=>
   intro y hy
   rcases List.mem_cons.1 hy with rfl | hy
   ·exact h.1
   ·rcases List.mem_append.1 hy with hy | hy
    ·exact ia h.2.2.1 y hy
    ·exact ib h.2.2.2 y hy
 ·have:=k4v (ds:=t.nodes) (i:=0) (r:=[]) h (by simp)
  simpa using this
theorem q1r {x:Nd} (h:q0p x=0):1≤x.op∧x.op≤9∧(x.op=1∨x.tx.size=0)∧(x.op=7∨x.n=0)∧(x.op=1→isW x.tx=true)∧(x.op=7→0≤x.n∧x.n≤8):=by
 unfold q0p at h
 split at h
 ·cases h
 split at h
 ·cases h
 split at h
 ·cases h
 split at h
 ·cases h
 rename_i h1 h2 h3 h4
 refine ⟨by omega,by omega,by omega,by omega,?_,by omega⟩
 intro h5
 cases h6:isW x.tx with
 | true=>rfl
 | false=>exact absurd ⟨h5,h6⟩ h3
theorem q3r {s:ByteArray} (h:isW s=true):1≤s.size∧s.size≤20:=by
 simp [isW] at h
 omega
theorem q0w (s:ByteArray):s.data.toList.length=s.size:=(Lib.size_eq s).symm
theorem q4i {x:Nd} (h:q0p x=0) (hp:pts x.op=0):x.op=1∨x.op=2∨x.op=3∨x.op=4∨x.op=5:=by
 have:=q1r h
 unfold pts at hp
 split at hp
 ·cases hp
 split at hp
 ·cases hp
 omega
theorem z0m {x:Nd} (hp:pts x.op=1):x.op=7∨x.op=8:=by
 unfold pts at hp
 split at hp
 ·cases hp
 split at hp
 ·omega
 ·cases hp
theorem q9a {x:Nd} (hp:pts x.op=2):x.op=6∨x.op=9:=by
 unfold pts at hp
 split at hp
 ·omega
 split at hp<;>cases hp
theorem z7g {a b:ByteArray} (h:a.data.toList=b.data.toList):a=b:=by
 cases a;cases b
 simp only [ByteArray.mk.injEq]
 exact Array.toList_inj.1 h
theorem z8y {a:ByteArray} (h:a.size=0):a=⟨#[]⟩:=z7g (by
 have:=q0w a
 rw [h] at this
 rw [List.eq_nil_of_length_eq_zero this])
end Go.Proofs.YtchdplceopegoaaGreatDoor
namespace Go.Proofs.YtchdplceopegoaaGreatDoor
def Tr.flat:Tr→Option (List UInt8)
 | .leaf x=>if x.op=1 then some x.tx.data.toList else if x.op=2 then some [32] else if x.op=4 then none else some []
 | .one _ a=>a.flat
 | .two x a b=>if x.op=6 then (match a.flat,b.flat with | some s,some t=>some (s++t) | _,_=>none) else a.flat
def Tr.line (t:Tr):ByteArray:=⟨(t.flat.getD []).toArray⟩
def Tr.isFlat (t:Tr):Bool:=t.flat.isSome
theorem z8d (t:Tr):t.line.data.toList=t.flat.getD []:=by simp [Tr.line]
theorem z8e (t:Tr):t.line.size=(t.flat.getD []).length:=by rw [←q0w,z8d]
theorem z2d:∀ t:Tr,t.Wf→(t.flat.getD []).length≤20*t.nodes.length
 | .leaf x,h=>by
  obtain ⟨_,_,_,_,h5,_⟩:=q1r h.1
  simp only [Tr.flat,Tr.nodes]
  split
  ·rename_i h1
   have:=q3r (h5 h1)
   have e:=q0w x.tx
   simp only [Option.getD_some,List.length_cons,List.length_nil]
   omega
  ·repeat' split
   all_goals simp
 | .one x a,h=>by
  have:=z2d a h.2.2
  simp only [Tr.flat,Tr.nodes,List.length_cons]
  omega
 | .two x a b,h=>by
  have h1:=z2d a h.2.2.1
  have h2:=z2d b h.2.2.2
  simp only [Tr.flat,Tr.nodes,List.length_cons,List.length_append]
  split
  ·cases ha:a.flat with
   | none=>simp
   | some s=>
    cases hb:b.flat with
    | none=>simp
    | some t=>
     rw [ha] at h1
     rw [hb] at h2
     simp only [Option.getD_some] at h1 h2 ⊢
     rw [List.length_append]
     omega
  ·omega
theorem q5y:∀ (t:Tr) (s:List UInt8),t.Wf→t.flat=some s→∀ b∈s,b≠10
 | .leaf x,s,h,e=>by
  obtain ⟨_,_,_,_,h5,_⟩:=q1r h.1
  simp only [Tr.flat] at e
  split at e
  ·rename_i h1
   cases e
   have hw:=h5 h1
   simp only [isW,Bool.and_eq_true,List.all_eq_true] at hw
   intro b hb hc
   have:=hw.2 b hb
   subst hc
   simp [q4l] at this
  ·split at e
   ·cases e;simp
   ·split at e
    ·cases e
    ·cases e;simp
 | .one x a,s,h,e=>q5y a s h.2.2 e
 | .two x a b,s,h,e=>by
  simp only [Tr.flat] at e
  split at e
  ·cases ha:a.flat with
   | none=>rw [ha] at e;cases e
   | some u=>
    cases hb:b.flat with
    | none=>rw [ha,hb] at e;cases e
    | some v=>
     rw [ha,hb] at e
     cases e
     intro c hc
     rcases List.mem_append.1 hc with hc | hc
     ·exact q5y a u h.2.2.1 ha c hc
     ·exact q5y b v h.2.2.2 hb c hc
  ·exact q5y a s h.2.2.1 e
def Tr.lay:Tr→Nat→List Int→Except Int (List UInt8 × List Int)
 | .leaf x,deep,ws=>if x.op=1 then .ok (x.tx.data.toList,ws) else if x.op=5 then .ok ([],ws) else .ok (10::List.replicate deep 32,ws)
 | .one x a,deep,ws=>
  if x.op=7 then a.lay (deep+x.n.toNat) ws
  else match ws with
   | []=>.error 2
   | c::ws=>if c=1 then a.lay deep ws else match a.flat with
    | none=>.error 4
    | some s=>.ok (s,ws)
 | .two x a b,deep,ws=>
  if x.op=6 then match a.lay deep ws with
   | .error e=>.error e
   | .ok (s,ws1)=>match b.lay deep ws1 with
    | .error e=>.error e
    | .ok (t,ws2)=>.ok (s++t,ws2)
  else match ws with
   | []=>.error 2
   | c::ws=>if c=0 then a.lay deep ws else b.lay deep ws
def Tr.ways:Tr→List (List Int)
 | .leaf _=>[[]]
 | .one x a=>if x.op=7 then a.ways else (if a.isFlat=true then [[0]] else [])++a.ways.map (1::·)
 | .two x a b=>if x.op=6 then a.ways.flatMap fun u=>b.ways.map (u++·) else a.ways.map (0::·)++b.ways.map (1::·)
def q1x (ws:List Int):Prop:=∀ c∈ws,c=0∨c=1
theorem z2x:∀ t:Tr,t.ways≠[]
 | .leaf _=>by simp [Tr.ways]
 | .one x a=>by
  simp only [Tr.ways]
  split
  ·exact z2x a
  ·have:=z2x a
   simp [this]
 | .two x a b=>by
  have h1:=z2x a
  have h2:=z2x b
  simp only [Tr.ways]
  split
  ·obtain ⟨u,us,e⟩:=List.exists_cons_of_ne_nil h1
   rw [e]
   simp [h2]
  ·simp [h1]
theorem q6i:∀ (t:Tr) (u:List Int),u∈t.ways→q1x u
 | .leaf _,u,h=>by simp [Tr.ways] at h;subst h;simp [q1x]
 | .one x a,u,h=>by
  simp only [Tr.ways] at h
  split at h
  ·exact q6i a u h
  ·rcases List.mem_append.1 h with h | h
   ·split at h
    ·simp at h;subst h;simp [q1x]
    ·simp at h
   ·obtain ⟨v,hv,rfl⟩:=List.mem_map.1 h
    have:=q6i a v hv
    intro c hc
    rcases List.mem_cons.1 hc with rfl | hc
    ·exact .inr rfl
    ·exact this c hc
 | .two x a b,u,h=>by
  simp only [Tr.ways] at h
  split at h
  ·obtain ⟨p,hp,hpq⟩:=List.mem_flatMap.1 h
   obtain ⟨q,hq,rfl⟩:=List.mem_map.1 hpq
   have h1:=q6i a p hp
   have h2:=q6i b q hq
   intro c hc
   rcases List.mem_append.1 hc with hc | hc
   ·exact h1 c hc
   ·exact h2 c hc
  ·rcases List.mem_append.1 h with h | h
   ·obtain ⟨v,hv,rfl⟩:=List.mem_map.1 h
    have:=q6i a v hv
    intro c hc
    rcases List.mem_cons.1 hc with rfl | hc
    ·exact .inl rfl
    ·exact this c hc
   ·obtain ⟨v,hv,rfl⟩:=List.mem_map.1 h
    have:=q6i b v hv
    intro c hc
    rcases List.mem_cons.1 hc with rfl | hc
    ·exact .inr rfl
    ·exact this c hc
theorem q5o:∀ (t:Tr) (deep:Nat) (u r:List Int),u∈t.ways→∃ s,t.lay deep (u++r) = .ok (s,r)
 | .leaf x,deep,u,r,h=>by
  simp [Tr.ways] at h
  subst h
  simp only [Tr.lay,List.nil_append]
  split
  ·exact ⟨_,rfl⟩
  ·split
   ·exact ⟨_,rfl⟩
   ·exact ⟨_,rfl⟩
 | .one x a,deep,u,r,h=>by
  simp only [Tr.ways] at h
  simp only [Tr.lay]
  split at h
  ·rename_i h7
   rw [if_pos h7]
   exact q5o a _ u r h
  ·rename_i h7
   rw [if_neg h7]
   rcases List.mem_append.1 h with h | h
   ·split at h
    ·rename_i hf
     simp at h
     subst h
     simp only [List.cons_append,List.nil_append]
     rw [if_neg (by decide)]
     rw [Tr.isFlat] at hf
     cases hfl:a.flat with
     | none=>rw [hfl] at hf;cases hf
     | some s=>exact ⟨s,rfl⟩
    ·simp at h
   ·obtain ⟨v,hv,rfl⟩:=List.mem_map.1 h
    simp only [List.cons_append,if_pos]
    exact q5o a deep v r hv
 | .two x a b,deep,u,r,h=>by
  simp only [Tr.ways] at h
  simp only [Tr.lay]
  split at h
  ·rename_i h6
   rw [if_pos h6]
   obtain ⟨p,hp,hpq⟩:=List.mem_flatMap.1 h
   obtain ⟨q,hq,rfl⟩:=List.mem_map.1 hpq
   obtain ⟨s1,e1⟩:=q5o a deep p (q++r) hp
   obtain ⟨s2,e2⟩:=q5o b deep q r hq
   rw [List.append_assoc,e1]
   simp only [e2]
   exact ⟨_,rfl⟩
  ·rename_i h6
   rw [if_neg h6]
   rcases List.mem_append.1 h with h | h
   ·obtain ⟨v,hv,rfl⟩:=List.mem_map.1 h
    simp only [List.cons_append,if_pos]
    exact q5o a deep v r hv
   ·obtain ⟨v,hv,rfl⟩:=List.mem_map.1 h
    simp only [List.cons_append]
    rw [if_neg (by decide)]
    exact q5o b deep v r hv
theorem q4d:∀ (t:Tr) (deep:Nat) (ws r:List Int) (s:List UInt8),q1x ws→t.lay deep ws = .ok (s,r)→∃ u∈t.ways,ws=u++r
 | .leaf x,deep,ws,r,s,_,h=>by
  refine ⟨[],by simp [Tr.ways],?_⟩
  simp only [Tr.lay] at h
  split at h
  ·cases h;rfl
  ·split at h
   ·cases h;rfl
   ·cases h;rfl
 | .one x a,deep,ws,r,s,h0,h=>by
  simp only [Tr.lay] at h
  simp only [Tr.ways]
  split at h
  ·rename_i h7
   rw [if_pos h7]
   exact q4d a _ ws r s h0 h
  ·rename_i h7
   rw [if_neg h7]
   match ws,h0,h with
   | [],_,h=>cases h
   | c::ws,h0,h=>
    simp only at h
    split at h
    ·rename_i h1
     subst h1
     obtain ⟨u,hu,e⟩:=q4d a deep ws r s (fun d hd=>h0 d (by simp [hd])) h
     exact ⟨1::u,List.mem_append.2 (.inr (List.mem_map.2 ⟨u,hu,rfl⟩)),by rw [e];rfl⟩
    ·rename_i h1
     have hc:c=0:=by have:=h0 c (by simp);omega
     subst hc
     cases hf:a.flat with
     | none=>rw [hf] at h;cases h
     | some v=>
      rw [hf] at h
      cases h
      refine ⟨[0],List.mem_append.2 (.inl ?_),rfl⟩
      rw [if_pos (by rw [Tr.isFlat,hf];rfl)]
      simp
 | .two x a b,deep,ws,r,s,h0,h=>by
  simp only [Tr.lay] at h
  simp only [Tr.ways]
  split at h
  ·rename_i h6
   rw [if_pos h6]
   cases ha:a.lay deep ws with
   | error e=>rw [ha] at h;cases h
   | ok p=>
    obtain ⟨s1,ws1⟩:=p
    rw [ha] at h
    simp only at h
    cases hb:b.lay deep ws1 with
    | error e=>rw [hb] at h;cases h
    | ok q=>
     obtain ⟨s2,ws2⟩:=q
     rw [hb] at h
     cases h
     obtain ⟨u,hu,e1⟩:=q4d a deep ws ws1 s1 h0 ha
     obtain ⟨v,hv,e2⟩:=q4d b deep ws1 r s2 (fun d hd=>h0 d (by rw [e1];simp [hd])) hb
     exact ⟨u++v,List.mem_flatMap.2 ⟨u,hu,List.mem_map.2 ⟨v,hv,rfl⟩⟩,by rw [e1,e2,List.append_assoc]⟩
  ·rename_i h6
   rw [if_neg h6]
   match ws,h0,h with
   | [],_,h=>cases h
   | c::ws,h0,h=>
    simp only at h
    split at h
    ·rename_i h1
     subst h1
     obtain ⟨u,hu,e⟩:=q4d a deep ws r s (fun d hd=>h0 d (by simp [hd])) h
     exact ⟨0::u,List.mem_append.2 (.inl (List.mem_map.2 ⟨u,hu,rfl⟩)),by rw [e];rfl⟩
    ·rename_i h1
     have hc:c=1:=by have:=h0 c (by simp);omega
     subst hc
     obtain ⟨u,hu,e⟩:=q4d b deep ws r s (fun d hd=>h0 d (by simp [hd])) h
     exact ⟨1::u,List.mem_append.2 (.inr (List.mem_map.2 ⟨u,hu,rfl⟩)),by rw [e];rfl⟩
def Tr.show (t:Tr) (ws:List Int):Except Int (List UInt8):=
 if ws.all (fun c=>c == 0 || c == 1)=true then match t.lay 0 ws with
  | .error e=>.error e
  | .ok (s,[])=>.ok s
  | .ok (_,_::_)=>.error 2
 else .error 1
theorem k7d {ws:List Int}:ws.all (fun c=>c == 0 || c == 1)=true↔q1x ws:=by
 simp [q1x]
theorem j2q (t:Tr) (ws:List Int):(∃ s,t.show ws = .ok s)↔ws∈t.ways:=by
 constructor
 ·rintro ⟨s,h⟩
  unfold Tr.show at h
  split at h
  ·rename_i h0
   cases hl:t.lay 0 ws with
   | error e=>rw [hl] at h;cases h
   | ok p=>
    obtain ⟨u,r⟩:=p
    rw [hl] at h
    cases r with
    | cons c r=>cases h
    | nil=>
     obtain ⟨v,hv,e⟩:=q4d t 0 ws [] u (k7d.1 h0) hl
     rw [List.append_nil] at e
     rw [e];exact hv
  ·cases h
 ·intro h
  obtain ⟨s,hs⟩:=q5o t 0 ws [] h
  rw [List.append_nil] at hs
  refine ⟨s,?_⟩
  unfold Tr.show
  rw [if_pos (k7d.2 (q6i t ws h)),hs]
def q2e:List Int→List Int→Prop
 | a::al,b::bs=>if a=b then q2e al bs else a<b
 | _,_=>False
theorem z1p:∀ (u v r s:List Int),q2e u v→q2e (u++r) (v++s)
 | a::al,b::bs,r,s,h=>by
  simp only [List.cons_append,q2e] at h ⊢
  split
  ·rename_i e;rw [if_pos e] at h;exact z1p al bs r s h
  ·rename_i e;rw [if_neg e] at h;exact h
theorem z3l:∀ (u r s:List Int),q2e r s→q2e (u++r) (u++s)
 | [],r,s,h=>h
 | a::u,r,s,h=>by simp only [List.cons_append,q2e,if_pos];exact z3l u r s h
theorem q8o {α β:Type} {R:β→β→Prop} (f:α→List β):∀ l:List α,(∀ x∈l,(f x).Pairwise R)→l.Pairwise (fun x y=>∀ p∈f x,∀ q∈f y,R p q)→(l.flatMap f).Pairwise R
 | [],_,_=>List.Pairwise.nil
 | x::l,h1,h2=>by
  rw [List.flatMap_cons]
  rw [List.pairwise_cons] at h2
  refine List.pairwise_append.2 ⟨h1 x (by simp),q8o f l (fun y hy=>h1 y (by simp [hy])) h2.2,?_⟩
  intro p hp q hq
  obtain ⟨y,hy,hq⟩:=List.mem_flatMap.1 hq
  exact h2.1 y hy p hp q hq
theorem q9c:∀ t:Tr,t.ways.Pairwise q2e
 | .leaf _=>by simp [Tr.ways]
 | .one x a=>by
  simp only [Tr.ways]
  have ih:=q9c a
  split
  ·exact ih
  ·refine List.pairwise_append.2 ⟨?_,?_,?_⟩
   ·split<;>simp
   ·exact List.pairwise_map.2 (ih.imp fun h=>by simp only [q2e,if_pos];exact h)
   ·intro p hp q hq
    split at hp
    ·simp at hp
     subst hp
     obtain ⟨v,_,rfl⟩:=List.mem_map.1 hq
     simp [q2e]
    ·simp at hp
 | .two x a b=>by
  simp only [Tr.ways]
  have ia:=q9c a
  have ib:=q9c b
  split
  ·refine q8o _ _ ?_ ?_
   ·intro u _
    exact List.pairwise_map.2 (ib.imp fun h=>z3l u _ _ h)
   ·refine ia.imp ?_
    intro u v h p hp q hq
    obtain ⟨r,_,rfl⟩:=List.mem_map.1 hp
    obtain ⟨s,_,rfl⟩:=List.mem_map.1 hq
    exact z1p u v r s h
  ·refine List.pairwise_append.2 ⟨?_,?_,?_⟩
   ·exact List.pairwise_map.2 (ia.imp fun h=>by simp only [q2e,if_pos];exact h)
   ·exact List.pairwise_map.2 (ib.imp fun h=>by simp only [q2e,if_pos];exact h)
   ·intro p hp q hq
    obtain ⟨u,_,rfl⟩:=List.mem_map.1 hp
    obtain ⟨v,_,rfl⟩:=List.mem_map.1 hq
    simp [q2e]
theorem j4g {x:Nd} (h:q0p x=0) (h1:x.op=1):∀ b∈x.tx.data.toList,b≠10:=by
 obtain ⟨_,_,_,_,h5,_⟩:=q1r h
 have hw:=h5 h1
 simp only [isW,Bool.and_eq_true,List.all_eq_true] at hw
 intro b hb hc
 have:=hw.2 b hb
 subst hc
 simp [q4l] at this
end Go.Proofs.YtchdplceopegoaaGreatDoor
namespace Go.Proofs.YtchdplceopegoaaGreatDoor
open Go
abbrev wdD (s:List UInt8):Tr:=.leaf ⟨1,wbS s,0⟩
abbrev blD:Tr:=.leaf ⟨2,⟨#[]⟩,0⟩
abbrev sfD:Tr:=.leaf ⟨3,⟨#[]⟩,0⟩
abbrev twD (a b:Tr):Tr:=.two ⟨6,⟨#[]⟩,0⟩ a b
abbrev dpD (a:Tr):Tr:=.one ⟨7,⟨#[]⟩,2⟩ a
abbrev grD (a:Tr):Tr:=.one ⟨8,⟨#[]⟩,0⟩ a
def inD (l:Nat) (x:Td) (d:Tr):Tr:=if prc x<l then twD (wdD [40]) (twD d (wdD [41])) else d
def kdD:List (Td × Tr)→Tr
 | []=>wdD []
 | p::r=>match r with
  | []=>p.2
  | _::_=>twD (twD p.2 (wdD [44])) (twD blD (kdD r))
def tw2 (f:Td→Tr→Td→Tr→Tr):List (Td × Tr)→Tr
 | [a,b]=>f a.1 a.2 b.1 b.2
 | _=>wdD []
def q2p (op cl:List UInt8) (ks:List (Td × Tr)):Tr:=if ks.length=0 then wdD (op++cl) else grD (twD (wdD op) (twD (dpD (twD sfD (kdD ks))) (twD sfD (wdD cl))))
def q0m (x:Td) (ks:List (Td × Tr)):Tr:=
 if x.op=1 then wdD (q4m x.n.toNat)
 else if x.op=2 then wdD (btL x.tx)
 else if x.op=3 then q2p (btL x.tx++[40]) [41] ks
 else if x.op=4 then q2p [91] [93] ks
 else if x.op=5 then tw2 (fun x a y b=>grD (twD (inD 0 x a) (dpD (twD blD (twD (wdD [43,32]) (inD 1 y b)))))) ks
 else tw2 (fun x a y b=>grD (twD (inD 1 x a) (dpD (twD blD (twD (wdD [42,32]) (inD 2 y b)))))) ks
def Fo.dcs:Fo→List (Td × Tr)
 | .nil=>[]
 | .cons x k n=>(x,q0m x k.dcs)::n.dcs
theorem q9n:∀ F:Fo,F.dcs.length=F.len
 | .nil=>rfl
 | .cons _ _ n=>by simp [Fo.dcs,Fo.len,q9n n]
def stD (x:Td) (d:Tr):Tr:=
 if x.op=7 then grD (twD (wdD ([108,101,116,32]++btL x.tx++[32,61])) (dpD (twD blD (twD d (wdD [59]))))) else twD d (wdD [59])
theorem z2b (s:List UInt8):(wdD s).flat=some s:=rfl
theorem q5d {a b:Tr} {s t:List UInt8} (ha:a.flat=some s) (hb:b.flat=some t):(twD a b).flat=some (s++t):=by
 simp only [Tr.flat,if_true,ha,hb]
theorem j6e (a:Tr):(dpD a).flat=a.flat:=rfl
theorem j6f (a:Tr):(grD a).flat=a.flat:=rfl
theorem j6d:blD.flat=some [32]:=rfl
theorem v7k:sfD.flat=some []:=rfl
def Mt (p:Td × Tr) (t:Tn):Prop:=p.1=t.x∧p.2.flat=some t.tx
theorem j6g {p:Td × Tr} {t:Tn} (h:Mt p t) (l:Nat):(inD l p.1 p.2).flat=some (brx l t):=by
 unfold inD brx
 rw [h.1]
 split
 ·rw [q5d (z2b _) (q5d h.2 (z2b _))];rfl
 ·exact h.2
inductive Mts:List (Td × Tr)→List Tn→Prop where
 | nil:Mts [] []
 | cons {p t ps ts}:Mt p t→Mts ps ts→Mts (p::ps) (t::ts)
theorem v7j:∀ {ps:List (Td × Tr)} {ts:List Tn},Mts ps ts→ps≠[]→(kdD ps).flat=some (cmx ts)
 | _,_,.cons h .nil,_=>by simp only [kdD,cmx,List.append_nil];exact h.2
 | _,_,.cons (ps:=p::ps) (ts:=t::ts) h (.cons h2 h3),_=>by
  have ih:=v7j (Mts.cons h2 h3) (by simp)
  show (twD (twD _ (wdD [44])) (twD blD (kdD (p::ps)))).flat=_
  rw [q5d (q5d h.2 (z2b _)) (q5d j6d ih)]
  simp [cmx]
theorem k9j {ps:List (Td × Tr)} {ts:List Tn} (h:Mts ps ts) (op cl:List UInt8):(q2p op cl ps).flat=some (op++cmx ts++cl):=by
 unfold q2p
 split
 ·rename_i h0
  cases h with
  | nil=>rw [z2b];simp [cmx]
  | cons=>simp at h0
 ·rename_i h0
  have hne:ps≠[]:=fun e=>h0 (by rw [e];rfl)
  rw [j6f,q5d (z2b _) (q5d (by rw [j6e];exact q5d v7k (v7j h hne)) (q5d v7k (z2b _)))]
  simp
theorem y1g {x:Td} {ps:List (Td × Tr)} {ts:List Tn} (h:Mts ps ts) (hx:exN x) (hk:ps.length=kdT x):(q0m x ps).flat=some (q2r x ts):=by
 have two:kdT x=2→∃ a b c d,ps=[a,b]∧ts=[c,d]∧Mt a c∧Mt b d:=fun e=>by
  rw [e] at hk
  cases h with
  | nil=>simp at hk
  | cons h1 h2=>cases h2 with
   | nil=>simp at hk
   | cons h3 h4=>cases h4 with
    | nil=>exact ⟨_,_,_,_,rfl,rfl,h1,h3⟩
    | cons=>simp at hk
 rcases q3c hx with ⟨ho,_⟩ | ⟨ho,_⟩ | ⟨ho,_⟩ | ⟨ho,_⟩ | ⟨ho,_,_,h2⟩ | ⟨ho,_,_,h2⟩
 ·rw [show q0m x ps=wdD (q4m x.n.toNat) by simp [q0m,ho],show q2r x ts=q4m x.n.toNat by simp [q2r,ho]];rfl
 ·rw [show q0m x ps=wdD (btL x.tx) by simp [q0m,ho],show q2r x ts=btL x.tx by simp [q2r,ho]];rfl
 ·rw [show q0m x ps=q2p (btL x.tx++[40]) [41] ps by simp [q0m,ho],show q2r x ts=btL x.tx++40::(cmx ts++[41]) by simp [q2r,ho],k9j h];simp
 ·rw [show q0m x ps=q2p [91] [93] ps by simp [q0m,ho],show q2r x ts=91::(cmx ts++[93]) by simp [q2r,ho],k9j h];simp
 ·obtain ⟨a,b,c,d,rfl,rfl,h3,h4⟩:=two h2
  rw [show q0m x [a,b]=grD (twD (inD 0 a.1 a.2) (dpD (twD blD (twD (wdD [43,32]) (inD 1 b.1 b.2))))) by simp [q0m,tw2,ho],show q2r x [c,d]=brx 0 c++32::43::32::brx 1 d by simp [q2r,two2,ho]]
  rw [j6f,q5d (j6g h3 0) (by rw [j6e];exact q5d j6d (q5d (z2b _) (j6g h4 1)))]
  rfl
 ·obtain ⟨a,b,c,d,rfl,rfl,h3,h4⟩:=two h2
  rw [show q0m x [a,b]=grD (twD (inD 1 a.1 a.2) (dpD (twD blD (twD (wdD [42,32]) (inD 2 b.1 b.2))))) by simp [q0m,tw2,ho],show q2r x [c,d]=brx 1 c++32::42::32::brx 2 d by simp [q2r,two2,ho]]
  rw [j6f,q5d (j6g h3 1) (by rw [j6e];exact q5d j6d (q5d (z2b _) (j6g h4 2)))]
  rfl
theorem z5b:∀ F:Fo,F.ok→F.exs→Mts F.dcs F.trs
 | .nil,_,_=>.nil
 | .cons x k n,hok,hex=>by
  have h1:=z5b k hok.2.1 fun y hy=>hex y (by simp [Fo.nodes,hy])
  have h2:=z5b n hok.2.2 fun y hy=>hex y (by simp [Fo.nodes,hy])
  exact .cons ⟨rfl,y1g h1 (hex x (by simp [Fo.nodes])) (by rw [q9n];exact hok.1)⟩ h2
def dnB (c:UInt8):Bool:=c != 32 && c != 10
def Tr.noE:Tr→Prop
 | .leaf x=>x.op≠4
 | .one _ a=>a.noE
 | .two x a b=>x.op=6∧a.noE∧b.noE
theorem q6b:∀ (t:Tr) (s:List UInt8),t.noE→t.Wf→t.flat=some s→∀ (deep:Nat) (ws ws':List Int) (r:List UInt8),t.lay deep ws = .ok (r,ws')→r.filter dnB=s.filter dnB
 | .leaf x,s,hn,hw,hf,deep,ws,ws',r,h=>by
  simp only [Tr.flat] at hf
  simp only [Tr.lay] at h
  have hrep:(10::List.replicate deep (32:UInt8)).filter dnB=[]:=by
   rw [List.filter_eq_nil_iff]
   intro c hc
   rcases List.mem_cons.1 hc with rfl | hc
   ·decide
   ·rw [List.eq_of_mem_replicate hc];decide
  split at hf
  ·rename_i h1
   rw [if_pos h1] at h
   cases hf;cases h;rfl
  ·rename_i h1
   rw [if_neg h1] at h
   split at hf
   ·rename_i h2
    rw [if_neg (by omega)] at h
    cases hf;cases h
    rw [hrep];rfl
   ·split at hf
    ·cases hf
    ·cases hf
     split at h
     ·cases h;rfl
     ·cases h
      rw [hrep];rfl
 | .one x a,s,hn,hw,hf,deep,ws,ws',r,h=>by
  have hf':a.flat=some s:=hf
  simp only [Tr.lay] at h
  split at h
  ·exact q6b a s hn hw.2.2 hf' _ _ _ _ h
  ·cases ws with
   | nil=>cases h
   | cons c ws=>
    simp only at h
    split at h
    ·exact q6b a s hn hw.2.2 hf' _ _ _ _ h
    ·rw [hf'] at h
     cases h;rfl
 | .two x a b,s,hn,hw,hf,deep,ws,ws',r,h=>by
  obtain ⟨h6,ha,hb⟩:=hn
  simp only [Tr.flat,if_pos h6] at hf
  simp only [Tr.lay,if_pos h6] at h
  cases ea:a.flat with
  | none=>rw [ea] at hf;cases hf
  | some s1=>
   cases eb:b.flat with
   | none=>rw [ea,eb] at hf;cases hf
   | some s2=>
    rw [ea,eb] at hf
    cases hf
    cases la:a.lay deep ws with
    | error e=>rw [la] at h;cases h
    | ok p=>
     obtain ⟨r1,ws1⟩:=p
     rw [la] at h
     simp only at h
     cases lb:b.lay deep ws1 with
     | error e=>rw [lb] at h;cases h
     | ok p2=>
      obtain ⟨r2,ws2⟩:=p2
      rw [lb] at h
      cases h
      rw [List.filter_append,List.filter_append,q6b a s1 ha hw.2.2.1 ea _ _ _ _ la,q6b b s2 hb hw.2.2.2 eb _ _ _ _ lb]
theorem j7a {c:UInt8} (h:q3a c=true):q4l c=true:=by
 simp only [q3a,Bool.and_eq_true,decide_eq_true_eq] at h
 simp only [q4l,Bool.and_eq_true,decide_eq_true_eq]
 omega
theorem j6c {c:UInt8} (h:q3w c=true):q4l c=true:=by
 simp only [q3w,Bool.and_eq_true,decide_eq_true_eq] at h
 simp only [q4l,Bool.and_eq_true,decide_eq_true_eq]
 omega
theorem z0v {s:List UInt8} (h1:1≤s.length) (h2:s.length≤20) (h3:∀ c∈s,q4l c=true):(wdD s).Wf:=by
 have e:(wbS s).size=s.length:=by rw [←q0b];rfl
 have hw:isW (wbS s)=true:=by
  simp only [isW,Bool.and_eq_true,decide_eq_true_eq,List.all_eq_true]
  exact ⟨⟨by omega,by omega⟩,h3⟩
 refine ⟨?_,rfl⟩
 simp only [q0p,hw]
 rfl
theorem j9f:blD.Wf:=⟨rfl,rfl⟩
theorem v9u:sfD.Wf:=⟨rfl,rfl⟩
theorem q5p {a b:Tr} (ha:a.Wf) (hb:b.Wf):(twD a b).Wf:=⟨rfl,rfl,ha,hb⟩
theorem j9g {a:Tr} (ha:a.Wf):(dpD a).Wf:=⟨rfl,rfl,ha⟩
theorem j9h {a:Tr} (ha:a.Wf):(grD a).Wf:=⟨rfl,rfl,ha⟩
theorem j9i {l:Nat} {x:Td} {d:Tr} (h:d.Wf):(inD l x d).Wf:=by
 unfold inD
 split
 ·exact q5p (z0v (by decide) (by decide) (by decide)) (q5p h (z0v (by decide) (by decide) (by decide)))
 ·exact h
theorem v9t:∀ ps:List (Td × Tr),(∀ p∈ps,p.2.Wf)→ps≠[]→(kdD ps).Wf
 | [p],h,_=>h p (by simp)
 | p::q::r,h,_=>q5p (q5p (h p (by simp)) (z0v (by decide) (by decide) (by decide))) (q5p j9f (v9t (q::r) (fun z hz=>h z (by simp at hz ⊢;right;exact hz)) (by simp)))
theorem j4c {op cl:List UInt8} {ps:List (Td × Tr)} (h:∀ p∈ps,p.2.Wf) (h1:1≤op.length) (h2:op.length+cl.length≤20) (h3:∀ c∈op,q4l c=true) (h4:1≤cl.length) (h5:∀ c∈cl,q4l c=true):(q2p op cl ps).Wf:=by
 unfold q2p
 split
 ·refine z0v (by simp;omega) (by simp;omega) fun c hc=>?_
  rcases List.mem_append.1 hc with hc | hc
  ·exact h3 c hc
  ·exact h5 c hc
 ·rename_i h0
  exact j9h (q5p (z0v h1 (by omega) h3) (q5p (j9g (q5p v9u (v9t ps h fun e=>h0 (by rw [e];rfl)))) (q5p v9u (z0v h4 (by omega) h5))))
theorem z2h {s:ByteArray} (h:q1c s=true):1≤(btL s).length∧(btL s).length≤8∧∀ c∈btL s,q4l c=true:=by
 have h8:=q2c h
 simp only [q1c,Bool.and_eq_true,decide_eq_true_eq,List.all_eq_true] at h
 exact ⟨by rw [q0b];exact h.1.1.1,h8,fun c hc=>j7a (h.2 c hc)⟩
theorem y2e {x:Td} {ps:List (Td × Tr)} (h:∀ p∈ps,p.2.Wf) (hx:exN x) (hk:ps.length=kdT x):(q0m x ps).Wf:=by
 have two:kdT x=2→∃ a b,ps=[a,b]∧a.2.Wf∧b.2.Wf:=fun e=>by
  rw [e] at hk
  match ps,hk with
  | [a,b],_=>exact ⟨a,b,rfl,h a (by simp),h b (by simp)⟩
 rcases q3c hx with ⟨ho,_,h0,h9,_⟩ | ⟨ho,hn,_⟩ | ⟨ho,hn,_⟩ | ⟨ho,_⟩ | ⟨ho,_,_,h2⟩ | ⟨ho,_,_,h2⟩
 ·rw [show q0m x ps=wdD (q4m x.n.toNat) by simp [q0m,ho]]
  have h1:=q8d 5 x.n.toNat (by omega)
  have h2:=List.length_pos_iff.2 (k0e x.n.toNat)
  exact z0v (by omega) (by omega) fun c hc=>j6c (z5c _ c hc)
 ·obtain ⟨n1,n2,n3⟩:=z2h hn
  rw [show q0m x ps=wdD (btL x.tx) by simp [q0m,ho]]
  exact z0v n1 (by omega) n3
 ·obtain ⟨n1,n2,n3⟩:=z2h hn
  rw [show q0m x ps=q2p (btL x.tx++[40]) [41] ps by simp [q0m,ho]]
  refine j4c h (by simp) (by rw [List.length_append];simp only [List.length_cons,List.length_nil];omega) (fun c hc=>?_) (by decide) (by decide)
  rcases List.mem_append.1 hc with hc | hc
  ·exact n3 c hc
  ·simp at hc;subst hc;decide
 ·rw [show q0m x ps=q2p [91] [93] ps by simp [q0m,ho]]
  exact j4c h (by decide) (by decide) (by decide) (by decide) (by decide)
 ·obtain ⟨a,b,rfl,h3,h4⟩:=two h2
  rw [show q0m x [a,b]=grD (twD (inD 0 a.1 a.2) (dpD (twD blD (twD (wdD [43,32]) (inD 1 b.1 b.2))))) by simp [q0m,tw2,ho]]
  exact j9h (q5p (j9i h3) (j9g (q5p j9f (q5p (z0v (by decide) (by decide) (by decide)) (j9i h4)))))
 ·obtain ⟨a,b,rfl,h3,h4⟩:=two h2
  rw [show q0m x [a,b]=grD (twD (inD 1 a.1 a.2) (dpD (twD blD (twD (wdD [42,32]) (inD 2 b.1 b.2))))) by simp [q0m,tw2,ho]]
  exact j9h (q5p (j9i h3) (j9g (q5p j9f (q5p (z0v (by decide) (by decide) (by decide)) (j9i h4)))))
theorem k8q:∀ F:Fo,F.ok→F.exs→∀ p∈F.dcs,p.2.Wf
 | .nil,_,_,p,hp=>by cases hp
 | .cons x k n,hok,hex,p,hp=>by
  have h1:=k8q k hok.2.1 fun y hy=>hex y (by simp [Fo.nodes,hy])
  have h2:=k8q n hok.2.2 fun y hy=>hex y (by simp [Fo.nodes,hy])
  rcases List.mem_cons.1 hp with rfl | hp
  ·exact y2e h1 (hex x (by simp [Fo.nodes])) (by rw [q9n];exact hok.1)
  ·exact h2 p hp
theorem j7i {l:Nat} {x:Td} {d:Tr} (h:d.noE):(inD l x d).noE:=by
 unfold inD
 split
 ·exact ⟨rfl,by show (1:Int)≠4;decide,rfl,h,by show (1:Int)≠4;decide⟩
 ·exact h
theorem v8f:∀ ps:List (Td × Tr),(∀ p∈ps,p.2.noE)→(kdD ps).noE
 | [],_=>by show (1:Int)≠4;decide
 | [p],h=>h p (by simp)
 | p::q::r,h=>⟨rfl,⟨rfl,h p (by simp),by show (1:Int)≠4;decide⟩,rfl,by show (2:Int)≠4;decide,v8f (q::r) (fun z hz=>h z (by simp at hz ⊢;right;exact hz))⟩
theorem j1g {op cl:List UInt8} {ps:List (Td × Tr)} (h:∀ p∈ps,p.2.noE):(q2p op cl ps).noE:=by
 unfold q2p
 split
 ·show (1:Int)≠4;decide
 ·exact ⟨rfl,by show (1:Int)≠4;decide,rfl,⟨rfl,by show (3:Int)≠4;decide,v8f ps h⟩,rfl,by show (3:Int)≠4;decide,by show (1:Int)≠4;decide⟩
theorem v0u {f:Td→Tr→Td→Tr→Tr} {ps:List (Td × Tr)} (h:∀ p∈ps,p.2.noE) (hf:∀ x a y b,a.noE→b.noE→(f x a y b).noE):(tw2 f ps).noE:=by
 unfold tw2
 split
 ·exact hf _ _ _ _ (h _ (by simp)) (h _ (by simp))
 ·show (1:Int)≠4;decide
theorem y1r {x:Td} {ps:List (Td × Tr)} (h:∀ p∈ps,p.2.noE):(q0m x ps).noE:=by
 have h1:(1:Int)≠4:=by decide
 have h2:(2:Int)≠4:=by decide
 unfold q0m
 split
 ·exact h1
 ·split
  ·exact h1
  ·split
   ·exact j1g h
   ·split
    ·exact j1g h
    ·split
     ·exact v0u h fun x a y b ha hb=>⟨rfl,j7i ha,rfl,h2,rfl,h1,j7i hb⟩
     ·exact v0u h fun x a y b ha hb=>⟨rfl,j7i ha,rfl,h2,rfl,h1,j7i hb⟩
theorem k0d:∀ F:Fo,∀ p∈F.dcs,p.2.noE
 | .nil,p,hp=>by cases hp
 | .cons x k n,p,hp=>by
  rcases List.mem_cons.1 hp with rfl | hp
  ·exact y1r (k0d k)
  ·exact k0d n p hp
def z3h (ps:List (Td × Tr)):Nat:=(ps.map fun p=>p.2.nodes.length+5).sum
theorem q3f (p:Td × Tr) (r:List (Td × Tr)):z3h (p::r)=p.2.nodes.length+5+z3h r:=by simp [z3h]
theorem j7k (l:Nat) (x:Td) (d:Tr):(inD l x d).nodes.length≤d.nodes.length+4:=by
 unfold inD
 split
 ·simp only [Tr.nodes,List.length_cons,List.length_append,List.length_nil];omega
 ·omega
theorem j7l:∀ ps:List (Td × Tr),(kdD ps).nodes.length≤z3h ps+1
 | []=>by simp [kdD,z3h,Tr.nodes]
 | [p]=>by simp only [kdD,q3f];omega
 | p::q::r=>by
  have ih:=j7l (q::r)
  show (twD (twD p.2 (wdD [44])) (twD blD (kdD (q::r)))).nodes.length≤_
  rw [q3f]
  simp only [Tr.nodes,List.length_cons,List.length_append,List.length_nil]
  omega
theorem y1s {x:Td} {ps:List (Td × Tr)}:(q0m x ps).nodes.length≤15+z3h ps:=by
 have hm:∀ op cl:List UInt8,(q2p op cl ps).nodes.length≤15+z3h ps:=fun op cl=>by
  have hk:=j7l ps
  unfold q2p
  split
  ·simp only [Tr.nodes,List.length_cons,List.length_nil];omega
  ·simp only [Tr.nodes,List.length_cons,List.length_append,List.length_nil]
   omega
 have ht:∀ f:Td→Tr→Td→Tr→Tr,(∀ x a y b,(f x a y b).nodes.length≤15+a.nodes.length+b.nodes.length)→(tw2 f ps).nodes.length≤15+z3h ps:=fun f hf=>by
  unfold tw2
  split
  ·rename_i a b
   have:=hf a.1 a.2 b.1 b.2
   rw [q3f,q3f]
   omega
  ·simp only [Tr.nodes,List.length_cons,List.length_nil];omega
 have hs:∀ (l m:Nat) (sg:List UInt8) (x:Td) (a:Tr) (y:Td) (b:Tr),(grD (twD (inD l x a) (dpD (twD blD (twD (wdD sg) (inD m y b)))))).nodes.length≤15+a.nodes.length+b.nodes.length:=fun l m sg x a y b=>by
  have h1:=j7k l x a
  have h2:=j7k m y b
  simp only [Tr.nodes,List.length_cons,List.length_append,List.length_nil]
  omega
 unfold q0m
 split
 ·simp only [Tr.nodes,List.length_cons,List.length_nil];omega
 ·split
  ·simp only [Tr.nodes,List.length_cons,List.length_nil];omega
  ·split
   ·exact hm _ _
   ·split
    ·exact hm _ _
    ·split
     ·exact ht _ (hs 0 1 [43,32])
     ·exact ht _ (hs 1 2 [42,32])
theorem z7j:∀ F:Fo,z3h F.dcs≤20*F.nodes.length
 | .nil=>by simp [Fo.dcs,z3h]
 | .cons x k n=>by
  have h1:=z7j k
  have h2:=z7j n
  have h3:=y1s (x:=x) (ps:=k.dcs)
  rw [Fo.dcs,q3f,Fo.nodes]
  simp only [List.length_cons,List.length_append]
  omega
def opT (t:List Td):Int:=match t with
 | []=>0
 | x::_=>x.op
theorem k1f {t:List Td} (h:0<t.length):opT t=t[0].op:=by
 cases t with
 | nil=>simp at h
 | cons x r=>rfl
def q4t (prev:Int) (k:Nat):List (List Td)→Nat × Int
 | []=>(0,0)
 | t::r=>if q0c t≠0 then (k,q0c t) else if opT t=9∧prev=9 then (k,2) else q4t (opT t) (k+1) r
def q0q (ps:List (List Td)):Nat × Int:=if 20<ps.length then (0,3) else q4t 0 0 ps
theorem z6p {t:List Td} (h:q0c t=0):0<t.length:=by
 rcases Nat.eq_zero_or_pos t.length with h0 | h0
 ·have:t=[]:=List.eq_nil_of_length_eq_zero h0
  subst this
  have:=(q2i h).2.2.1
  rw [z1d [] 0 0 (by simp)] at this
  cases this
 ·exact h0
def q5v (ps:List (List Td)) (k:Nat):Int:=if k=0 then 0 else opT (ps.getD (k - 1) [])
theorem z4e {ps:List (List Td)} {k:Nat} (h:k<ps.length):q5v ps (k+1)=opT ps[k]:=by
 simp [q5v,h]
theorem j2i {ps:List (List Td)} {k:Nat} {prev:Int} (h:k<ps.length) (he:q0c ps[k]≠0):q4t prev k (ps.drop k)=(k,q0c ps[k]):=by
 rw [List.drop_eq_getElem_cons h,q4t,if_pos he]
theorem j2j {ps:List (List Td)} {k:Nat} {prev:Int} (h:k<ps.length) (he:q0c ps[k]=0) (h2:opT ps[k]=9∧prev=9):q4t prev k (ps.drop k)=(k,2):=by
 rw [List.drop_eq_getElem_cons h,q4t,if_neg (by simp [he]),if_pos h2]
theorem k5t {ps:List (List Td)} {k:Nat} {prev:Int} (h:k<ps.length) (he:q0c ps[k]=0) (h2:¬ (opT ps[k]=9∧prev=9)):q4t prev k (ps.drop k)=q4t (q5v ps (k+1)) (k+1) (ps.drop (k+1)):=by
 rw [List.drop_eq_getElem_cons h,q4t,if_neg (by simp [he]),if_neg h2,z4e h]
end Go.Proofs.YtchdplceopegoaaGreatDoor
