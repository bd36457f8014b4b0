/- Texts as one: SynT, SynL, SynS, DocP. -/
import Derived.Test.YtchdplceopegoaaGreatDoorPw01
namespace Go.Proofs.YtchdplceopegoaaGreatDoor
open Go
def v6t (w:Wd):Prop:=w=[40]∨w=[91]∨k1b w=true∨nmW w=true
theorem q6v {w:Wd} (h:nmW w=true):∃ c z,w=c::z∧q3a c=true∧w≠[108,101,116]∧w.length≤8∧∀ b∈w,q3a b=true:=by
 unfold nmW q1c at h
 simp only [Bool.and_eq_true,List.all_eq_true,decide_eq_true_eq] at h
 obtain ⟨⟨⟨h1,h2⟩,h3⟩,h4⟩:=h
 cases w with
 | nil=>simp [wbS,ByteArray.size] at h1
 | cons c z=>
  refine ⟨c,z,rfl,h4 c (by show c∈(c::z);simp),h3,?_,h4⟩
  have e:(wbS (c::z)).size=(c::z).length:=by rw [←q0b];rfl
  rw [e] at h2;exact h2
theorem k7h {w:Wd} (h:v6t w):w≠[41]∧w≠[93]∧w≠[44]∧w≠[108,101,116]∧w.headD 0≠35:=by
 rcases h with rfl | rfl | h | h
 ·decide
 ·decide
 ·have:∀ c:UInt8,q3w c=true→c≠41∧c≠93∧c≠44∧c≠108∧c≠35:=fun c hc=>by
   refine ⟨?_,?_,?_,?_,?_⟩<;>(rintro rfl;revert hc;decide)
  cases w with
  | nil=>exact absurd h (by decide)
  | cons c z=>
   obtain ⟨h1,h2,h3,h4,h5⟩:=this c h
   refine ⟨?_,?_,?_,?_,h5⟩<;>(intro e;rw [List.cons.injEq] at e;simp_all)
 ·obtain ⟨c,z,rfl,hc,hl,_,_⟩:=q6v h
  have:c≠41∧c≠93∧c≠44∧c≠35:=by
   refine ⟨?_,?_,?_,?_⟩<;>(rintro rfl;revert hc;decide)
  refine ⟨?_,?_,?_,hl,this.2.2.2⟩<;>(intro e;rw [List.cons.injEq] at e;simp_all)
structure z0q (t:Tn):Prop where
 b:∃ w z,t.tk=w::z∧v6t w
 s:∀ rest:List Wd,rest.head?≠some [40]→PR .single (brk 2 t++rest) (.ok 0 t.ns rest)
 l1:∀ (rest:List Wd) (r:Rs),rest.head?≠some [40]→PR (.loop 1 t.ns) rest r→PR (.level 1) (brk 1 t++rest) r
 l0:∀ (rest:List Wd) (r:Rs),rest.head?≠some [40]→rest.head?≠some [42]→PR (.loop 0 t.ns) rest r→PR (.level 0) (brk 0 t++rest) r
theorem z0z (t:Tn):brk 0 t=t.tk:=by simp [brk]
theorem k0s {t:Tn} (h:z0q t) {rest:List Wd} (h1:rest.head?≠some [40]) (h2:rest.head?≠some [42]) (h3:rest.head?≠some [43]):PR (.level 0) (t.tk++rest) (.ok 0 t.ns rest):=by
 have:=h.l0 rest (.ok 0 t.ns rest) h1 h2 (.lopE h3)
 rwa [z0z] at this
theorem v4a {t:Tn} (h:z0q t) {rest:List Wd} (h1:rest.head?≠some [40]) (h2:rest.head?≠some [42]):PR (.level 1) (brk 1 t++rest) (.ok 0 t.ns rest):=
 h.l1 rest (.ok 0 t.ns rest) h1 (.lopE h2)
theorem q4f {t:Tn} (hp:prc t.x=2) (hb:∃ w z,t.tk=w::z∧v6t w) (h:∀ rest:List Wd,rest.head?≠some [40]→PR .single (t.tk++rest) (.ok 0 t.ns rest)):z0q t:=by
 have b1:brk 1 t=t.tk:=by rw [brk,if_neg (by omega)]
 have b2:brk 2 t=t.tk:=by rw [brk,if_neg (by omega)]
 have h1:∀ (rest:List Wd) (r:Rs),rest.head?≠some [40]→PR (.loop 1 t.ns) rest r→PR (.level 1) (t.tk++rest) r:=
  fun rest r hr hl=>.levO (by omega) (.lev2 (h rest hr)) hl
 refine ⟨hb,by rw [b2];exact h,by rw [b1];exact h1,fun rest r hr hs hl=>?_⟩
 rw [z0z]
 exact .levO (by omega) (h1 rest _ hr (.lopE hs)) hl
theorem k7v {t:Tn} (h:∃ w z,t.tk=w::z∧v6t w) (l:Nat) (r:List Wd):∃ w z,brk l t++r=w::z∧v6t w:=by
 by_cases hp:prc t.x<l
 ·rw [brk,if_pos hp]
  exact ⟨[40],_,rfl,.inl rfl⟩
 ·rw [brk,if_neg hp]
  obtain ⟨w,z,e,hw⟩:=h
  exact ⟨w,z++r,by rw [e];rfl,hw⟩
theorem z8x {t:Tn} {l:Nat} (hp:prc t.x<l) (hl:∀ rest:List Wd,rest.head?≠some [40]→rest.head?≠some [42]→rest.head?≠some [43]→PR (.level 0) (t.tk++rest) (.ok 0 t.ns rest)) (rest:List Wd):PR .single (brk l t++rest) (.ok 0 t.ns rest):=by
 rw [brk,if_pos hp,List.cons_append,List.append_assoc]
 exact .sPC (hl ([41]::rest) (by simp) (by simp) (by simp))
theorem j2k {x:Td} {a b:Tn} (hx:x=sgT 1) (ha:z0q a) (hb:z0q b):z0q (q0r x [a,b]):=by
 have ho:x.op=6:=by rw [hx];rfl
 have hp:prc (q0r x [a,b]).x=1:=by simp [q0r,prc,ho]
 have hk:(q0r x [a,b]).tk=brk 1 a++[42]::brk 2 b:=by simp [q0r,q9e,two2,ho]
 have hn:(q0r x [a,b]).ns=sgT 1::(a.ns++b.ns):=by simp [q0r,hx]
 have h1:∀ (rest:List Wd) (r:Rs),rest.head?≠some [40]→PR (.loop 1 (q0r x [a,b]).ns) rest r→PR (.level 1) ((q0r x [a,b]).tk++rest) r:=by
  intro rest r hr hl
  rw [hk,List.append_assoc]
  refine ha.l1 _ _ (by simp) ?_
  rw [hn] at hl
  exact .lopO (k:=1) (.lev2 (hb.s rest hr)) hl
 have h0:∀ (rest:List Wd) (r:Rs),rest.head?≠some [40]→rest.head?≠some [42]→PR (.loop 0 (q0r x [a,b]).ns) rest r→PR (.level 0) ((q0r x [a,b]).tk++rest) r:=
  fun rest r hr hs hl=>.levO (by omega) (h1 rest _ hr (.lopE hs)) hl
 refine ⟨by rw [hk];exact k7v ha.b _ _,fun rest _=>z8x (by omega) (fun rest h40 h42 h43=>h0 rest _ h40 h42 (.lopE h43)) rest,fun rest r hr hl=>?_,fun rest r hr hs hl=>?_⟩
 ·rw [brk,if_neg (by omega)];exact h1 rest r hr hl
 ·rw [z0z];exact h0 rest r hr hs hl
theorem j2l {x:Td} {a b:Tn} (hx:x=sgT 0) (ha:z0q a) (hb:z0q b):z0q (q0r x [a,b]):=by
 have ho:x.op=5:=by rw [hx];rfl
 have hp:prc (q0r x [a,b]).x=0:=by simp [q0r,prc,ho]
 have hk:(q0r x [a,b]).tk=brk 0 a++[43]::brk 1 b:=by simp [q0r,q9e,two2,ho]
 have hn:(q0r x [a,b]).ns=sgT 0::(a.ns++b.ns):=by simp [q0r,hx]
 have h0:∀ (rest:List Wd) (r:Rs),rest.head?≠some [40]→rest.head?≠some [42]→PR (.loop 0 (q0r x [a,b]).ns) rest r→PR (.level 0) ((q0r x [a,b]).tk++rest) r:=by
  intro rest r hr hs hl
  rw [hk,List.append_assoc]
  refine ha.l0 _ _ (by simp) (by simp) ?_
  rw [hn] at hl
  exact .lopO (k:=0) (v4a hb hr hs) hl
 have hs:∀ l,0<l→∀ rest:List Wd,PR .single (brk l (q0r x [a,b])++rest) (.ok 0 (q0r x [a,b]).ns rest):=
  fun l hl rest=>z8x (by omega) (fun rest h40 h42 h43=>h0 rest _ h40 h42 (.lopE h43)) rest
 refine ⟨by rw [hk];exact k7v ha.b _ _,fun rest _=>hs 2 (by omega) rest,fun rest r _ hl=>.levO (by omega) (.lev2 (hs 1 (by omega) rest)) hl,fun rest r hr hs hl=>?_⟩
 rw [z0z];exact h0 rest r hr hs hl
def cmt:List Tn→List Wd
 | []=>[]
 | t::r=>[44]::cmk (t::r)
theorem z4z (t:Tn) (r:List Tn):cmk (t::r)=t.tk++cmt r:=by
 cases r with
 | nil=>simp [cmk,cmt]
 | cons u r=>simp [cmk,cmt]
theorem k2h {e:Wd} (he:e=[41]∨e=[93]) (r:List Tn) (rest:List Wd):(cmt r++e::rest).head?≠some [40]∧(cmt r++e::rest).head?≠some [42]∧(cmt r++e::rest).head?≠some [43]:=by
 cases r with
 | nil=>rcases he with rfl | rfl<;>simp [cmt]
 | cons t r=>simp [cmt]
theorem z7b {e:Wd} (he:e=[41]∨e=[93]):∀ (ks:List Tn),(∀ t∈ks,z0q t)→∀ (n:Nat) (acc:List Td) (rest:List Wd),
  PR (.args e (n+1) acc) (cmt ks++e::rest) (.ok (n+1+ks.length) (acc++ks.flatMap (·.ns)) rest)
 | [],_,n,acc,rest=>by simpa [cmt] using PR.aEnd
 | t::r,h,n,acc,rest=>by
  obtain ⟨h1,h2,h3⟩:=k2h he r rest
  have ih:=z7b he r (fun u hu=>h u (by simp [hu])) (n+1) (acc++t.ns) rest
  have hl:=k0s (h t (by simp)) h1 h2 h3
  have e1:cmt (t::r)++e::rest=[44]::(t.tk++(cmt r++e::rest)):=by rw [cmt,z4z];simp
  have e2:n+1+(t::r).length=n+1+1+r.length:=by simp;omega
  have e3:acc++(t::r).flatMap (·.ns)=acc++t.ns++r.flatMap (·.ns):=by simp
  rw [e1,e2,e3]
  exact .aO (by rcases he with rfl | rfl<;>decide) hl ih
theorem k2a {e:Wd} (he:e=[41]∨e=[93]) (ks:List Tn) (h:∀ t∈ks,z0q t) (rest:List Wd) :
  PR (.args e 0 []) (cmk ks++e::rest) (.ok ks.length (ks.flatMap (·.ns)) rest):=by
 cases ks with
 | nil=>simpa [cmk] using PR.aEnd
 | cons t r=>
  obtain ⟨h1,h2,h3⟩:=k2h he r rest
  have ih:=z7b he r (fun u hu=>h u (by simp [hu])) 0 ([]++t.ns) rest
  have hl:=k0s (h t (by simp)) h1 h2 h3
  obtain ⟨w,z,e0,hw⟩:=(h t (by simp)).b
  have hne:=k7h hw
  have e1:cmk (t::r)++e::rest=t.tk++(cmt r++e::rest):=by rw [z4z];simp
  have e2:(t::r).length=0+1+r.length:=by simp;omega
  have e3:(t::r).flatMap (·.ns)=[]++t.ns++r.flatMap (·.ns):=by simp
  rw [e1,e2,e3]
  refine .aO0 ?_ hl ih
  rw [e0,List.cons_append,List.head?_cons]
  intro e4
  rcases he with rfl | rfl
  ·exact hne.1 (Option.some.inj e4)
  ·exact hne.2.1 (Option.some.inj e4)
theorem z6o {x:Td} {op:Int} {tx:ByteArray} {n:Int} (h1:x.op=op) (h2:x.tx=tx) (h3:x.n=n):x=⟨op,tx,n⟩:=by
 cases x;simp_all
theorem v6h {α:Type} {l:List α} (h:l.length=2):∃ a b,l=[a,b]:=by
 match l,h with
 | [a,b],_=>exact ⟨a,b,rfl⟩
theorem z2k:∀ F:Fo,F.ok→F.exs→∀ t∈F.trs,z0q t
 | .nil,_,_,t,ht=>by cases ht
 | .cons x k n,hok,hex,t,ht=>by
  have hexk:k.exs:=fun y hy=>hex y (by simp [Fo.nodes,hy])
  have hexn:n.exs:=fun y hy=>hex y (by simp [Fo.nodes,hy])
  have ihk:=z2k k hok.2.1 hexk
  rw [Fo.trs] at ht
  rcases List.mem_cons.1 ht with rfl | ht
  ·have hlen:k.trs.length=kdT x:=by rw [z0e];exact hok.1
   rcases q3c (hex x (by simp [Fo.nodes])) with ⟨ho,htx,hn0,hn1,hk⟩ | ⟨ho,hnm,hn0,hk⟩ | ⟨ho,hnm,hn0,hn1,hk⟩ | ⟨ho,htx,hn0,hn1,hk⟩ | ⟨ho,htx,hn0,hk⟩ | ⟨ho,htx,hn0,hk⟩
   ·have hks:k.trs=[]:=List.eq_nil_of_length_eq_zero (by omega)
    have hnum:k1b (q4m x.n.toNat)=true:=by
     have h1:=z5c x.n.toNat
     cases hd:q4m x.n.toNat with
     | nil=>exact absurd hd (k0e _)
     | cons c z=>exact h1 c (by rw [hd];simp)
    have htk:(q0r x k.trs).tk=[q4m x.n.toNat]:=by simp [q0r,q9e,ho]
    have hns:(q0r x k.trs).ns=[y0l (q4m x.n.toNat)]:=by
     rw [q0r,hks]
     simp only [List.flatMap_nil,List.cons.injEq,and_true]
     exact z6o ho htx (by rw [j7p];omega)
    refine q4f (by simp [q0r,prc,ho]) ⟨_,_,htk,.inr (.inr (.inl hnum))⟩ fun rest _=>?_
    rw [htk,hns]
    exact .sNum hnum
   ·have hks:k.trs=[]:=List.eq_nil_of_length_eq_zero (by omega)
    have hnw:nmW (btL x.tx)=true:=hnm
    have htk:(q0r x k.trs).tk=[btL x.tx]:=by simp [q0r,q9e,ho]
    have hns:(q0r x k.trs).ns=[nmT (btL x.tx)]:=by
     rw [q0r,hks]
     simp only [List.flatMap_nil,List.cons.injEq,and_true]
     exact z6o ho rfl hn0
    refine q4f (by simp [q0r,prc,ho]) ⟨_,_,htk,.inr (.inr (.inr hnw))⟩ fun rest hr=>?_
    rw [htk,hns]
    exact .sName hnw hr
   ·have hnw:nmW (btL x.tx)=true:=hnm
    have htk:(q0r x k.trs).tk=btL x.tx::[40]::(cmk k.trs++[[41]]):=by simp [q0r,q9e,ho]
    have hns:(q0r x k.trs).ns=clT (btL x.tx) k.trs.length::k.trs.flatMap (·.ns):=by
     rw [q0r]
     simp only [List.cons.injEq,and_true]
     exact z6o ho rfl (by omega)
    refine q4f (by simp [q0r,prc,ho]) ⟨_,_,htk,.inr (.inr (.inr hnw))⟩ fun rest hr=>?_
    rw [htk,hns]
    have:=k2a (.inl rfl) k.trs ihk rest
    refine .sCO hnw ?_
    simpa using this
   ·have htk:(q0r x k.trs).tk=[91]::(cmk k.trs++[[93]]):=by simp [q0r,q9e,ho]
    have hns:(q0r x k.trs).ns=lsT k.trs.length::k.trs.flatMap (·.ns):=by
     rw [q0r]
     simp only [List.cons.injEq,and_true]
     exact z6o ho htx (by omega)
    refine q4f (by simp [q0r,prc,ho]) ⟨_,_,htk,.inr (.inl rfl)⟩ fun rest hr=>?_
    rw [htk,hns]
    have:=k2a (.inr rfl) k.trs ihk rest
    refine .sLO ?_
    simpa using this
   ·obtain ⟨a,b,hab⟩:=v6h (hlen.trans hk)
    rw [hab] at ihk ⊢
    exact j2l (z6o ho htx hn0) (ihk a (by simp)) (ihk b (by simp))
   ·obtain ⟨a,b,hab⟩:=v6h (hlen.trans hk)
    rw [hab] at ihk ⊢
    exact j2k (z6o ho htx hn0) (ihk a (by simp)) (ihk b (by simp))
  ·exact z2k n hok.2.2 hexn t ht
theorem k2d (l:Nat) (t:Tn):(brx l t).length≤t.tx.length+2:=by
 unfold brx
 split
 ·simp
 ·omega
theorem v0d:∀ ks:List Tn,(∀ t∈ks,t.tx.length+4≤16*t.ns.length)→(cmx ks).length≤16*(ks.flatMap (·.ns)).length
 | [],_=>by simp [cmx]
 | [t],h=>by
  have:=h t (by simp)
  simp [cmx];omega
 | t::u::r,h=>by
  have h1:=h t (by simp)
  have h2:=v0d (u::r) (fun x hx=>h x (by simp [hx]))
  rw [cmx,List.flatMap_cons,List.length_append,List.length_append]
  simp only [List.length_cons]
  omega
theorem q2c {s:ByteArray} (h:q1c s=true):(btL s).length≤8:=by
 unfold q1c at h
 simp only [Bool.and_eq_true,decide_eq_true_eq] at h
 rw [q0b]
 exact h.1.1.2
theorem j3t:∀ F:Fo,F.ok→F.exs→∀ t∈F.trs,t.tx.length+4≤16*t.ns.length
 | .nil,_,_,t,ht=>by cases ht
 | .cons x k n,hok,hex,t,ht=>by
  have hexk:k.exs:=fun y hy=>hex y (by simp [Fo.nodes,hy])
  have hexn:n.exs:=fun y hy=>hex y (by simp [Fo.nodes,hy])
  have ihk:=j3t k hok.2.1 hexk
  rw [Fo.trs] at ht
  rcases List.mem_cons.1 ht with rfl | ht
  ·have hlen:k.trs.length=kdT x:=by rw [z0e];exact hok.1
   have hc:=v0d k.trs ihk
   rcases q3c (hex x (by simp [Fo.nodes])) with ⟨ho,htx,hn0,hn1,hk⟩ | ⟨ho,hnm,hn0,hk⟩ | ⟨ho,hnm,hn0,hn1,hk⟩ | ⟨ho,htx,hn0,hn1,hk⟩ | ⟨ho,htx,hn0,hk⟩ | ⟨ho,htx,hn0,hk⟩
   ·have:=q8d 5 x.n.toNat (by omega)
    simp [q0r,q2r,ho];omega
   ·have:=q2c hnm
    simp only [q0r,q2r,ho]
    simp at this ⊢;omega
   ·have:=q2c hnm
    simp only [q0r,q2r,ho]
    simp at this hc ⊢;omega
   ·simp only [q0r,q2r,ho]
    simp at hc ⊢;omega
   ·obtain ⟨a,b,hab⟩:=v6h (hlen.trans hk)
    rw [hab] at ihk ⊢
    have h1:=ihk a (by simp)
    have h2:=ihk b (by simp)
    have h3:=k2d 0 a
    have h4:=k2d 1 b
    simp [q0r,q2r,ho,two2];omega
   ·obtain ⟨a,b,hab⟩:=v6h (hlen.trans hk)
    rw [hab] at ihk ⊢
    have h1:=ihk a (by simp)
    have h2:=ihk b (by simp)
    have h3:=k2d 1 a
    have h4:=k2d 2 b
    simp [q0r,q2r,ho,two2];omega
  ·exact j3t n hok.2.2 hexn t ht
def Fo.tk:Nat→Fo→Fo
 | 0,_=>.nil
 | _+1,.nil=>.nil
 | k+1,.cons x a n=>.cons x a (Fo.tk k n)
def Fo.dp:Nat→Fo→Fo
 | 0,f=>f
 | _+1,.nil=>.nil
 | k+1,.cons _ _ n=>Fo.dp k n
theorem k0n:∀ f g:Fo,Fo.tk f.len (f.app g)=f
 | .nil,g=>by cases g<;>rfl
 | .cons x k n,g=>by simp only [Fo.len,Fo.app,Fo.tk,k0n n g]
theorem k0l:∀ f g:Fo,Fo.dp f.len (f.app g)=g
 | .nil,g=>by cases g<;>rfl
 | .cons x k n,g=>by simp only [Fo.len,Fo.app,Fo.dp,k0l n g]
theorem q9s:∀ f:Fo,f.app .nil=f
 | .nil=>rfl
 | .cons x k n=>by simp only [Fo.app,q9s n]
def k7p:List Td→Fo
 | []=>.nil
 | x::r=>.cons x (Fo.tk (kdT x) (k7p r)) (Fo.dp (kdT x) (k7p r))
theorem z4w:∀ (F:Fo),F.ok→∀ r,k7p (F.nodes++r)=F.app (k7p r)
 | .nil,_,r=>rfl
 | .cons x k n,h,r=>by
  have e1:=z4w n h.2.2 r
  have e2:=z4w k h.2.1 (n.nodes++r)
  rw [Fo.nodes,List.cons_append,List.append_assoc,k7p,e2,e1,←h.1,k0n,k0l]
  rfl
theorem k4l (F:Fo) (h:F.ok):k7p F.nodes=F:=by
 have:=z4w F h []
 rw [List.append_nil] at this
 rw [this]
 exact q9s F
theorem q5l {ds:List Td} (h:q0c ds=0):(∃ x,ds=[x]∧x.op=9∧x.n=0∧q3k x.tx=0)∨
  (∃ (x:Td) (F:Fo),ds=x::F.nodes∧F.ok∧F.exs∧F.len=1∧((x.op=7∧q1c x.tx=true∧x.n=0)∨(x.op=8∧x.tx=⟨#[]⟩∧x.n=0))):=by
 obtain ⟨_,hn,he,ht⟩:=q2i h
 cases ds with
 | nil=>rw [z1d [] 0 0 (by simp)] at he;cases he
 | cons x r=>
  have hx:=hn x (by simp)
  simp only [j3k,Bool.and_eq_true,decide_eq_true_eq,List.all_eq_true] at ht
  rw [z0s,List.drop_zero,q4o,Option.map_map,Option.map_eq_some_iff] at he
  obtain ⟨j,hj,hj2⟩:=he
  simp only [Function.comp_apply,List.length_cons] at hj2
  have hjl:j=r.length:=by omega
  rw [Nat.add_zero,hjl] at hj
  obtain ⟨F,f1,f2,f3⟩:=v3c r.length r (kdT x) r.length (Nat.le_refl _) hj
  rw [List.take_length] at f3
  have hex:F.exs:=fun y hy=>by
   rw [f3] at hy
   exact ⟨hn y (by simp [hy]),ht.2 y hy⟩
  have hem:∀ s:ByteArray,¬ 0<s.size→s=⟨#[]⟩:=fun s hs=>by
   apply ByteArray.ext
   apply Array.toList_inj.1
   exact List.eq_nil_of_length_eq_zero (by have:=q0b s;simp only [btL] at this;omega)
  unfold q0l at hx
  split at hx
  ·cases hx
  ·rename_i h1
   split at hx
   ·cases hx
   ·split at hx
    ·cases hx
    ·rename_i h3
     have ho:x.op=7∨x.op=8∨x.op=9:=by omega
     rcases ho with ho | ho | ho
     ·have hk1:kdT x=1:=by unfold kdT;rw [ho];rfl
      rw [if_neg (by omega)] at hx
      split at hx
      ·cases hx
      ·rename_i h4
       refine .inr ⟨x,F,by rw [f3],f1,hex,by rw [f2,hk1],.inl ⟨ho,?_,by omega⟩⟩
       cases hnm:q1c x.tx with
       | true=>rfl
       | false=>exact absurd ⟨by rw [ho];rfl,hnm⟩ h4
     ·have hk1:kdT x=1:=by unfold kdT;rw [ho];rfl
      exact .inr ⟨x,F,by rw [f3],f1,hex,by rw [f2,hk1],.inr ⟨ho,hem _ (fun hh=>h3 (.inr ⟨by rw [ho];rfl,hh⟩)),by omega⟩⟩
     ·have hk0:kdT x=0:=by unfold kdT;rw [ho];rfl
      rw [if_pos ho] at hx
      have hF:F = .nil:=by
       cases F with
       | nil=>rfl
       | cons y k n=>rw [hk0] at f2;simp [Fo.len] at f2
      rw [hF] at f3
      exact .inl ⟨x,by rw [←f3];rfl,ho,by omega,hx⟩
def hdT (ks:List Tn):List UInt8:=match ks with
 | t::_=>t.tx
 | []=>[]
def hdK (ks:List Tn):List Wd:=match ks with
 | t::_=>t.tk
 | []=>[]
def stX (x:Td) (ks:List Tn):List UInt8:=
 if x.op=7 then [108,101,116,32]++btL x.tx++[32,61,32]++hdT ks++[59] else if x.op=8 then hdT ks++[59] else if x.tx.size=0 then [35] else [35,32]++btL x.tx
def stK (x:Td) (ks:List Tn):List Wd:=
 if x.op=7 then [108,101,116]::btL x.tx::[61]::(hdK ks++[[59]]) else if x.op=8 then hdK ks++[[59]] else [if x.tx.size=0 then [35] else [35,32]++btL x.tx]
def q2y (ds:List Td):List UInt8:=match k7p ds with
 | .nil=>[]
 | .cons x k _=>stX x k.trs
def z6w (ds:List Td):List Wd:=match k7p ds with
 | .nil=>[]
 | .cons x k _=>stK x k.trs
theorem v1h {x:Td} {F:Fo} (h:F.ok) (hl:F.len=kdT x):k7p (x::F.nodes) = .cons x F .nil:=by
 have h1:=k0n F .nil
 have h2:=k0l F .nil
 rw [q9s] at h1 h2
 rw [k7p,k4l F h,←hl,h1,h2]
theorem z2n {x:Td} {F:Fo} (h:F.ok) (hl:F.len=kdT x):q2y (x::F.nodes)=stX x F.trs∧z6w (x::F.nodes)=stK x F.trs:=by
 rw [q2y,z6w,v1h h hl]
 exact ⟨rfl,rfl⟩
def q2a (ps:List (List Td)):List UInt8:=ps.flatMap fun t=>q2y t++[10]
theorem z4f (t:List Td) (r:List (List Td)):q2a (t::r)=q2y t++[10]++q2a r:=by simp [q2a]
theorem k5r (r:List (List Td)) (t:List Td):q2a (r++[t])=q2a r++(q2y t++[10]):=by simp [q2a]
end Go.Proofs.YtchdplceopegoaaGreatDoor
namespace Go.Proofs.YtchdplceopegoaaGreatDoor
structure Nd where
 op:Int
 tx:ByteArray
 n:Int
def pts (op:Int):Nat:=if op=6∨op=9 then 2 else if op=7∨op=8 then 1 else 0
theorem v1b (op:Int):pts op≤2:=by unfold pts;split<;>(try split)<;>omega
def cnt:List Nd→Nat→Option Nat
 | _,0=>some 0
 | [],_+1=>none
 | x::r,m+1=>(cnt r (pts x.op+m)).map (· + 1)
theorem q6p (ds:List Nd):cnt ds 0=some 0:=by cases ds<;>rfl
theorem q9m (m:Nat):cnt [] (m+1)=none:=rfl
theorem q3o (x:Nd) (r:List Nd) (m:Nat):cnt (x::r) (m+1)=(cnt r (pts x.op+m)).map (· + 1):=rfl
theorem k8i:∀ (ds:List Nd) (m k:Nat),cnt ds m=some k→m≤k∧k≤ds.length
 | ds,0,k,h=>by rw [q6p] at h;cases h;simp
 | [],m+1,k,h=>by rw [q9m] at h;cases h
 | x::r,m+1,k,h=>by
  rw [q3o,Option.map_eq_some_iff] at h
  obtain ⟨j,h1,rfl⟩:=h
  have:=k8i r _ j h1
  simp
  omega
theorem k8h:∀ (ds:List Nd) (a b:Nat),cnt ds (a+b)=(cnt ds a).bind fun k=>(cnt (ds.drop k) b).map (k + ·)
 | ds,0,b=>by
  rw [q6p]
  simp
 | [],a+1,b=>by rw [show a+1+b=(a+b)+1 by omega,q9m,q9m];rfl
 | x::r,a+1,b=>by
  rw [show a+1+b=(a+b)+1 by omega,q3o,q3o,show pts x.op+(a+b)=(pts x.op+a)+b by omega,k8h r _ b]
  cases cnt r (pts x.op+a) with
  | none=>rfl
  | some k=>
   simp only [Option.bind_some,Option.map_some,List.drop_succ_cons]
   cases cnt (r.drop k) b with
   | none=>rfl
   | some j=>simp;omega
theorem k8j:∀ (ds:List Nd) (m k i:Nat),cnt ds m=some k→i<k→∃ m',cnt (ds.drop i) (m'+1)=some (k - i)
 | ds,0,k,i,h,hi=>by rw [q6p] at h;cases h;omega
 | [],m+1,k,i,h,hi=>by rw [q9m] at h;cases h
 | x::r,m+1,k,i,h,hi=>by
  cases i with
  | zero=>exact ⟨m,h⟩
  | succ i=>
   rw [q3o,Option.map_eq_some_iff] at h
   obtain ⟨j,h1,rfl⟩:=h
   obtain ⟨m',h2⟩:=k8j r _ j i h1 (by omega)
   exact ⟨m',by rw [List.drop_succ_cons,h2];congr 1;omega⟩
def q1k (ds:List Nd) (i m:Nat):Option Nat:=(cnt (ds.drop i) m).map (i + ·)
theorem k4w (ds:List Nd) (i:Nat):q1k ds i 0=some i:=by simp [q1k,q6p]
theorem k8z (ds:List Nd) (i m:Nat) (h:ds.length≤i):q1k ds i (m+1)=none:=by
 rw [q1k,List.drop_eq_nil_of_le h,q9m];rfl
theorem k4u (ds:List Nd) (i m:Nat) (h:i<ds.length):q1k ds i (m+1)=q1k ds (i+1) (pts ds[i].op+m):=by
 rw [q1k,List.drop_eq_getElem_cons h,q3o,q1k]
 cases cnt (ds.drop (i+1)) (pts ds[i].op+m) with
 | none=>rfl
 | some k=>simp;omega
theorem j6b {ds:List Nd} {i m j:Nat} (h:q1k ds i m=some j):i+m≤j∧(m=0∨j≤ds.length):=by
 rw [q1k,Option.map_eq_some_iff] at h
 obtain ⟨k,h1,rfl⟩:=h
 have h2:=k8i _ _ _ h1
 rw [List.length_drop] at h2
 omega
theorem k8y {ds:List Nd} {i:Nat} (h:q1k ds 0 1=some ds.length) (hi:i<ds.length):∃ j,q1k ds i 1=some j∧i<j∧j≤ds.length:=by
 rw [q1k,Option.map_eq_some_iff] at h
 obtain ⟨k,h1,h2⟩:=h
 have hk:k=ds.length:=by omega
 subst hk
 obtain ⟨m',h3⟩:=k8j _ _ _ i h1 hi
 rw [List.drop_zero,Nat.add_comm m' 1,k8h] at h3
 cases h4:cnt (ds.drop i) 1 with
 | none=>rw [h4] at h3;cases h3
 | some j=>
  have h5:q1k ds i 1=some (i+j):=by rw [q1k,h4];rfl
  have h6:=j6b h5
  exact ⟨i+j,h5,by omega,by omega⟩
def q4l (b:UInt8):Bool:=decide (32≤b.toNat) && decide (b.toNat≤126)
def isW (s:ByteArray):Bool:=decide (1≤s.size) && decide (s.size≤20) && s.data.toList.all q4l
def q0p (x:Nd):Int:=
 if x.op<1∨9<x.op then 1
 else if (x.op≠1∧x.tx.size≠0)∨(x.op≠7∧x.n≠0) then 2
 else if x.op=1∧isW x.tx=false then 5
 else if x.op=7∧(x.n<0∨8<x.n) then 1 else 0
def q7d:List Nd→Int
 | []=>0
 | x::r=>if q0p x=0 then q7d r else q0p x
def q2k (ds:List Nd):Int:=
 if 400<ds.length then 3 else if q7d ds=0 then (if q1k ds 0 1=some ds.length then 0 else 2) else q7d ds
theorem q9q:∀ (ds:List Nd),(∀ x∈ds,q0p x=0)→q7d ds=0
 | [],_=>rfl
 | x::r,h=>by rw [q7d,if_pos (h x (by simp)),q9q r fun y hy=>h y (by simp [hy])]
theorem z1z:∀ (ds:List Nd),q7d ds=0→∀ x∈ds,q0p x=0
 | [],_=>by simp
 | x::r,h=>by
  rw [q7d] at h
  split at h
  ·rename_i h0
   intro y hy
   rcases List.mem_cons.1 hy with rfl | hy
   ·exact h0
   ·exact z1z r h y hy
  ·rename_i h0
   exact absurd h h0
theorem z7r:∀ (ds:List Nd) (k:Nat) (h:k<ds.length),(∀ x∈ds.take k,q0p x=0)→q0p ds[k]≠0→q7d ds=q0p ds[k]
 | x::r,0,_,_,h=>by
  have h':q0p x≠0:=h
  rw [q7d,if_neg h'];rfl
 | x::r,k+1,hk,ha,h=>by
  rw [q7d,if_pos (ha x (by simp)),z7r r k (by simpa using hk) (fun y hy=>ha y (by simp [hy])) h]
  rfl
theorem q4q {ds:List Nd} (h:q2k ds=0):ds.length≤400∧(∀ x∈ds,q0p x=0)∧q1k ds 0 1=some ds.length:=by
 unfold q2k at h
 split at h
 ·cases h
 ·rename_i h1
  split at h
  ·rename_i h2
   split at h
   ·rename_i h3
    exact ⟨by omega,z1z ds h2,h3⟩
   ·cases h
  ·rename_i h2
   exact absurd h h2
theorem v2y {ds:List Nd} (h1:ds.length≤400) (h2:∀ x∈ds,q0p x=0) (h3:q1k ds 0 1=some ds.length):q2k ds=0:=by
 rw [q2k,if_neg (by omega),if_pos (q9q ds h2),if_pos h3]
inductive Tr where
 | leaf (x:Nd)
 | one (x:Nd) (a:Tr)
 | two (x:Nd) (a b:Tr)
def Tr.nodes:Tr→List Nd
 | .leaf x=>[x]
 | .one x a=>x::a.nodes
 | .two x a b=>x::(a.nodes++b.nodes)
def Tr.Wf:Tr→Prop
 | .leaf x=>q0p x=0∧pts x.op=0
 | .one x a=>q0p x=0∧pts x.op=1∧a.Wf
 | .two x a b=>q0p x=0∧pts x.op=2∧a.Wf∧b.Wf
theorem v8x:∀ (ds:List Nd) (m k:Nat),(∀ x∈ds,q0p x=0)→cnt ds m=some k→∃ ts:List Tr,ts.length=m∧(∀ t∈ts,t.Wf)∧ds.take k=(ts.map Tr.nodes).flatten
 | ds,0,k,_,h=>by rw [q6p] at h;cases h;exact ⟨[],rfl,by simp,by simp⟩
 | [],m+1,k,_,h=>by rw [q9m] at h;cases h
 | x::r,m+1,k,hn,h=>by
  rw [q3o,Option.map_eq_some_iff] at h
  obtain ⟨j,h1,rfl⟩:=h
  obtain ⟨ts,e1,e2,e3⟩:=v8x r _ j (fun y hy=>hn y (by simp [hy])) h1
  have hx:=hn x (by simp)
  have h012:pts x.op=0∨pts x.op=1∨pts x.op=2:=by have:=v1b x.op;omega
  rcases h012 with h0 | h0 | h0
  ·exact ⟨.leaf x::ts,by simp [e1,h0],by intro t ht;rcases List.mem_cons.1 ht with rfl | ht;exact ⟨hx,h0⟩;exact e2 t ht,by simp [Tr.nodes,e3]⟩
  ·match ts,e1,e2,e3 with
   | [],e1,_,_=>simp at e1;omega
   | a::ts,e1,e2,e3=>
    refine ⟨.one x a::ts,by simp at e1 ⊢;omega,?_,by simp [Tr.nodes,e3]⟩
    intro t ht
    rcases List.mem_cons.1 ht with rfl | ht
    ·exact ⟨hx,h0,e2 a (by simp)⟩
    ·exact e2 t (by simp [ht])
  ·match ts,e1,e2,e3 with
   | [],e1,_,_=>simp at e1;omega
   | [a],e1,_,_=>simp at e1;omega
   | a::b::ts,e1,e2,e3=>
    refine ⟨.two x a b::ts,by simp at e1 ⊢;omega,?_,by simp [Tr.nodes,e3]⟩
    intro t ht
    rcases List.mem_cons.1 ht with rfl | ht
    ·exact ⟨hx,h0,e2 a (by simp),e2 b (by simp)⟩
    ·exact e2 t (by simp [ht])
theorem z1a:∀ (t:Tr) (r:List Nd) (m:Nat),t.Wf→cnt (t.nodes++r) (m+1)=(cnt r m).map (t.nodes.length + ·)
 | .leaf x,r,m,h=>by
  simp only [Tr.nodes,List.cons_append,List.nil_append,q3o,h.2,Nat.zero_add,List.length_cons,List.length_nil]
  cases cnt r m<;>simp [Nat.add_comm]
 | .one x a,r,m,h=>by
  simp only [Tr.nodes,List.cons_append,q3o,h.2.1,Nat.add_comm 1 m,z1a a r m h.2.2,List.length_cons]
  cases cnt r m<;>simp;omega
 | .two x a b,r,m,h=>by
  simp only [Tr.nodes,List.cons_append,List.append_assoc,q3o,h.2.1,show 2+m=(m+1)+1 by omega,z1a a (b.nodes++r) (m+1) h.2.2.1,z1a b r m h.2.2.2,List.length_cons,List.length_append]
  cases cnt r m<;>simp;omega
theorem Tr.pos:∀ t:Tr,0<t.nodes.length
 | .leaf _=>by simp [Tr.nodes]
 | .one _ _=>by simp [Tr.nodes]
 | .two _ _ _=>by simp [Tr.nodes]
theorem k4v {ds:List Nd} {i:Nat} {t:Tr} {r:List Nd} (h:t.Wf) (hd:ds.drop i=t.nodes++r):q1k ds i 1=some (i+t.nodes.length):=by
 rw [q1k,hd,z1a t r 0 h,q6p];rfl
theorem j3m {ds:List Nd} {i j:Nat} (hn:∀ x∈ds,q0p x=0) (h:q1k ds i 1=some j):∃ t:Tr,t.Wf∧ds.drop i=t.nodes++ds.drop j∧j=i+t.nodes.length:=by
 rw [q1k,Option.map_eq_some_iff] at h
 obtain ⟨k,h1,rfl⟩:=h
 obtain ⟨ts,e1,e2,e3⟩:=v8x _ _ _ (fun x hx=>hn x (List.mem_of_mem_drop hx)) h1
 match ts,e1,e2,e3 with
 | [t],_,e2,e3=>
  have e4:(ds.drop i).take k=t.nodes:=by simpa using e3
  have e5:=k8i _ _ _ h1
  refine ⟨t,e2 t (by simp),?_,?_⟩
  ·rw [←e4,←List.drop_drop,List.take_append_drop]
  ·rw [←e4,List.length_take];omega
theorem z5g {ds:List Nd} (h:q2k ds=0):∃ t:Tr,t.Wf∧ds=t.nodes:=by
 obtain ⟨_,h2,h3⟩:=q4q h
 obtain ⟨t,ht,e1,e2⟩:=j3m h2 h3
 refine ⟨t,ht,?_⟩
 rw [List.drop_zero,List.drop_length,List.append_nil] at e1
 exact e1
theorem q8x {t:Tr} (h:t.Wf) (hl:t.nodes.length≤400):q2k t.nodes=0:=by
 refine v2y hl ?_ ?_
 ·clear hl
  induction t with
  | leaf x=>intro y hy;simp [Tr.nodes] at hy;subst hy;exact h.1
  | one x a ih=>
   intro y hy
   rcases List.mem_cons.1 hy with rfl | hy
   ·exact h.1
   ·exact ih h.2.2 y hy
  | two x a b ia ib=>
   intro y hy
   rcases List.mem_cons.1 hy with rfl | hy
   ·exact h.1
   ·rcases List.mem_append.1 hy with hy | hy
    ·exact ia h.2.2.1 y hy
    ·exact ib h.2.2.2 y hy
 ·have:=k4v (ds:=t.nodes) (i:=0) (r:=[]) h (by simp)
  simpa using this
theorem q1r {x:Nd} (h:q0p x=0):1≤x.op∧x.op≤9∧(x.op=1∨x.tx.size=0)∧(x.op=7∨x.n=0)∧(x.op=1→isW x.tx=true)∧(x.op=7→0≤x.n∧x.n≤8):=by
 unfold q0p at h
 split at h
 ·cases h
 split at h
 ·cases h
 split at h
 ·cases h
 split at h
 ·cases h
 rename_i h1 h2 h3 h4
 refine ⟨by omega,by omega,by omega,by omega,?_,by omega⟩
 intro h5
 cases h6:isW x.tx with
 | true=>rfl
 | false=>exact absurd ⟨h5,h6⟩ h3
theorem q3r {s:ByteArray} (h:isW s=true):1≤s.size∧s.size≤20:=by
 simp [isW] at h
 omega
theorem q0w (s:ByteArray):s.data.toList.length=s.size:=(Lib.size_eq s).symm
theorem q4i {x:Nd} (h:q0p x=0) (hp:pts x.op=0):x.op=1∨x.op=2∨x.op=3∨x.op=4∨x.op=5:=by
 have:=q1r h
 unfold pts at hp
 split at hp
 ·cases hp
 split at hp
 ·cases hp
 omega
theorem z0m {x:Nd} (hp:pts x.op=1):x.op=7∨x.op=8:=by
 unfold pts at hp
 split at hp
 ·cases hp
 split at hp
 ·omega
 ·cases hp
theorem q9a {x:Nd} (hp:pts x.op=2):x.op=6∨x.op=9:=by
 unfold pts at hp
 split at hp
 ·omega
 split at hp<;>cases hp
theorem z7g {a b:ByteArray} (h:a.data.toList=b.data.toList):a=b:=by
 cases a;cases b
 simp only [ByteArray.mk.injEq]
 exact Array.toList_inj.1 h
theorem z8y {a:ByteArray} (h:a.size=0):a=⟨#[]⟩:=z7g (by
 have:=q0w a
 rw [h] at this
 rw [List.eq_nil_of_length_eq_zero this])
end Go.Proofs.YtchdplceopegoaaGreatDoor
