import Derived.Test.YtchdplceopegoaaGreatDoorPi00
open Go.Proofs.Tryz
open List (all_eq_true append_assoc append_nil cons_append drop_zero length_append length_cons length_nil nil_append)
open Option (bind_some getD_some map_eq_some_iff map_some)
namespace Go.Proofs.YtchdplceopegoaaGreatDoor
open Go
def y7g(w:Wd):Prop:=w=[40]\/w=[91]\/z0d w=true\/nmW w=true
theorem q9a{w:Wd}(h:nmW w=true):∃c z,w=c::z/\q2a c=true/\w≠[108,101,116]/\w.length<=8/\∀b∈w,q2a b=true:=by
 unfold nmW q0o at h;simp only[Bool.and_eq_true,all_eq_true,decide_eq_true_eq]at h;obtain⟨⟨⟨C,A⟩,D⟩,B⟩:=h;cases w with
 | nil=>simp[wbS,ByteArray.size]at C
 | cons c z=>
  refine⟨c,z,rfl,B c (by show c∈(c::z);simp),D,?_,B⟩;have e:(wbS (c::z)).size=(c::z).length:=by rw[<-q0c];rfl
  rw[e]at A;exact A
theorem j4y{w:Wd}(h:y7g w):w≠[41]/\w≠[93]/\w≠[44]/\w≠[108,101,116]/\w.headD 0≠35:=by
 rcases h with rfl|rfl|h|h
 ·decide
 ·decide
 ·have:∀c:UInt8,q1x c=true->c≠41/\c≠93/\c≠44/\c≠108/\c≠35:=fun c A=>by
   refine⟨?_,?_,?_,?_,?_⟩<;>(rintro rfl;revert A;decide)
  cases w with
  | nil=>exact absurd h (by decide)
  | cons c z=>
   obtain⟨D,E,G,H,B⟩:=this c h;refine⟨?_,?_,?_,?_,B⟩<;>(intro e;rw[List.cons.injEq]at e;simp_all)
 ·obtain⟨c,z,rfl,A,C,_,_⟩:=q9a h
  have:c≠41/\c≠93/\c≠44/\c≠35:=by
   refine⟨?_,?_,?_,?_⟩<;>(rintro rfl;revert A;decide)
  refine⟨?_,?_,?_,C,this.2.2.2⟩<;>(intro e;rw[List.cons.injEq]at e;simp_all)
structure z3q(t:Tn):Prop where
 b:∃w z,t.tk=w::z/\y7g w
 s:∀rest:List Wd,rest.head?≠some [40]->PR .single (brk 2 t++rest) (.ok 0 t.ns rest)
 l1:∀(rest:List Wd)(r:Rs),rest.head?≠some [40]->PR (.loop 1 t.ns) rest r->PR (.level 1) (brk 1 t++rest) r
 l0:∀(rest:List Wd)(r:Rs),rest.head?≠some [40]->rest.head?≠some [42]->PR (.loop 0 t.ns) rest r->PR (.level 0) (brk 0 t++rest) r
theorem z3v(t:Tn):brk 0 t=t.tk:=by simp[brk]
theorem k6g{t:Tn}(h:z3q t){rest:List Wd}(h1:rest.head?≠some [40])(h2:rest.head?≠some [42])(h3:rest.head?≠some [43]):PR (.level 0) (t.tk++rest) (.ok 0 t.ns rest):=by
 have:=h.l0 rest (.ok 0 t.ns rest) h1 h2 (.lopE h3)
 rwa[z3v]at this
theorem y4n{t:Tn}(h:z3q t){rest:List Wd}(h1:rest.head?≠some [40])(h2:rest.head?≠some [42]):PR (.level 1) (brk 1 t++rest) (.ok 0 t.ns rest):=
 h.l1 rest (.ok 0 t.ns rest) h1 (.lopE h2)
theorem q5x{t:Tn}(hp:prc t.x=2)(hb:∃w z,t.tk=w::z/\y7g w)(h:∀rest:List Wd,rest.head?≠some [40]->PR .single (t.tk++rest) (.ok 0 t.ns rest)):z3q t:=by
 have B:brk 1 t=t.tk:=by rw[brk,if_neg (by omega)]
 have C:brk 2 t=t.tk:=by rw[brk,if_neg (by omega)]
 have A:∀(rest:List Wd)(r:Rs),rest.head?≠some [40]->PR (.loop 1 t.ns) rest r->PR (.level 1) (t.tk++rest) r:=
  fun rest r hr hl=>.levO (by omega) (.lev2 (h rest hr)) hl
 refine⟨hb,by rw[C];exact h,by rw[B];exact A,fun rest r hr hs hl=>?_⟩;rw[z3v];exact .levO (by omega) (A rest _ hr (.lopE hs)) hl
theorem j5m{t:Tn}(h:∃w z,t.tk=w::z/\y7g w)(l:Nat)(r:List Wd):∃w z,brk l t++r=w::z/\y7g w:=by
 by_cases A:prc t.x<l
 ·rw[brk,if_pos A];exact⟨[40],_,rfl,.inl rfl⟩
 ·rw[brk,if_neg A];obtain⟨w,z,e,B⟩:=h;exact⟨w,z++r,by rw[e];rfl,B⟩
theorem k4a{t:Tn}{l:Nat}(hp:prc t.x<l)(hl:∀rest:List Wd,rest.head?≠some [40]->rest.head?≠some [42]->rest.head?≠some [43]->PR (.level 0) (t.tk++rest) (.ok 0 t.ns rest))(rest:List Wd):PR .single (brk l t++rest) (.ok 0 t.ns rest):=by
 rw[brk,if_pos hp,cons_append,append_assoc];exact .sPC (hl ([41]::rest) (by simp) (by simp) (by simp))
theorem v1l{x:Td}{a b:Tn}(hx:x=sgT 1)(ha:z3q a)(hb:z3q b):z3q (q0k x [a,b]):=by
 have H:x.op=6:=by rw[hx];rfl
 have J:prc (q0k x [a,b]).x=1:=by simp[q0k,prc,H]
 have G:(q0k x [a,b]).tk=brk 1 a++[42]::brk 2 b:=by simp[q0k,j3o,two2,H]
 have I:(q0k x [a,b]).ns=sgT 1::(a.ns++b.ns):=by simp[q0k,hx]
 have E:∀(A:List Wd)(r:Rs),A.head?≠some [40]->PR (.loop 1 (q0k x [a,b]).ns) A r->PR (.level 1) ((q0k x [a,b]).tk++A) r:=by
  intro A r C B;rw[G,append_assoc];refine ha.l1 _ _ (by simp) ?_;rw[I]at B;exact .lopO (k:=1) (.lev2 (hb.s A C)) B
 have D:∀(A:List Wd)(r:Rs),A.head?≠some [40]->A.head?≠some [42]->PR (.loop 0 (q0k x [a,b]).ns) A r->PR (.level 0) ((q0k x [a,b]).tk++A) r:=
  fun A r C hs B=>.levO (by omega) (E A _ C (.lopE hs)) B
 refine⟨by rw[G];exact j5m ha.b _ _,fun A _=>k4a (by omega) (fun A h40 h42 h43=>D A _ h40 h42 (.lopE h43)) A,fun A r C B=>?_,fun A r C hs B=>?_⟩
 ·rw[brk,if_neg (by omega)];exact E A r C B
 ·rw[z3v];exact D A r C hs B
theorem v1m{x:Td}{a b:Tn}(hx:x=sgT 0)(ha:z3q a)(hb:z3q b):z3q (q0k x [a,b]):=by
 have H:x.op=5:=by rw[hx];rfl
 have J:prc (q0k x [a,b]).x=0:=by simp[q0k,prc,H]
 have G:(q0k x [a,b]).tk=brk 0 a++[43]::brk 1 b:=by simp[q0k,j3o,two2,H]
 have I:(q0k x [a,b]).ns=sgT 0::(a.ns++b.ns):=by simp[q0k,hx]
 have E:∀(A:List Wd)(r:Rs),A.head?≠some [40]->A.head?≠some [42]->PR (.loop 0 (q0k x [a,b]).ns) A r->PR (.level 0) ((q0k x [a,b]).tk++A) r:=by
  intro A r D C B;rw[G,append_assoc];refine ha.l0 _ _ (by simp) (by simp) ?_;rw[I]at B;exact .lopO (k:=0) (y4n hb D C) B
 have C:∀l,0<l->∀A:List Wd,PR .single (brk l (q0k x [a,b])++A) (.ok 0 (q0k x [a,b]).ns A):=
  fun l B A=>k4a (by omega) (fun A h40 h42 h43=>E A _ h40 h42 (.lopE h43)) A
 refine⟨by rw[G];exact j5m ha.b _ _,fun A _=>C 2 (by omega) A,fun A r _ B=>.levO (by omega) (.lev2 (C 1 (by omega) A)) B,fun A r D C B=>?_⟩;rw[z3v];exact E A r D C B
def cmt:List Tn->List Wd
 | []=>[]
 | t::r=>[44]::cmk (t::r)
theorem k8b(t:Tn)(r:List Tn):cmk (t::r)=t.tk++cmt r:=by
 cases r with
 | nil=>simp[cmk,cmt]
 | cons u r=>simp[cmk,cmt]
theorem k8c{e:Wd}(he:e=[41]\/e=[93])(r:List Tn)(rest:List Wd):(cmt r++e::rest).head?≠some [40]/\(cmt r++e::rest).head?≠some [42]/\(cmt r++e::rest).head?≠some [43]:=by
 cases r with
 | nil=>rcases he with rfl|rfl<;>simp[cmt]
 | cons t r=>simp[cmt]
theorem k1o{e:Wd}(he:e=[41]\/e=[93]):∀(ks:List Tn),(∀t∈ks,z3q t)->∀(n:Nat)(acc:List Td)(rest:List Wd),
  PR (.args e (n+1) acc) (cmt ks++e::rest) (.ok (n+1+ks.length) (acc++ks.flatMap (·.ns)) rest)
 | [],_,n,acc,rest=>by simpa[cmt]using PR.aEnd
 | t::r,h,n,acc,rest=>by
  obtain⟨h1,h2,h3⟩:=k8c he r rest;have ih:=k1o he r (fun u hu=>h u (by simp[hu])) (n+1) (acc++t.ns) rest;have hl:=k6g (h t (by simp)) h1 h2 h3;have e1:cmt (t::r)++e::rest=[44]::(t.tk++(cmt r++e::rest)):=by rw[cmt,k8b];simp
  have A:n+1+(t::r).length=n+1+1+r.length:=by simp;omega
  have B:acc++(t::r).flatMap (·.ns)=acc++t.ns++r.flatMap (·.ns):=by simp
  rw[e1,A,B];exact .aO (by rcases he with rfl|rfl<;>decide) hl ih
theorem k7u{e:Wd}(he:e=[41]\/e=[93])(ks:List Tn)(h:∀t∈ks,z3q t)(rest:List Wd):
  PR (.args e 0 []) (cmk ks++e::rest) (.ok ks.length (ks.flatMap (·.ns)) rest):=by
 cases ks with
 | nil=>simpa[cmk]using PR.aEnd
 | cons t r=>
  obtain⟨H,I,J⟩:=k8c he r rest;have M:=k1o he r (fun u hu=>h u (by simp[hu])) 0 ([]++t.ns) rest;have K:=k6g (h t (by simp)) H I J;obtain⟨w,z,C,L⟩:=(h t (by simp)).b;have A:=j4y L;have D:cmk (t::r)++e::rest=t.tk++(cmt r++e::rest):=by rw[k8b];simp
  have E:(t::r).length=0+1+r.length:=by simp;omega
  have G:(t::r).flatMap (·.ns)=[]++t.ns++r.flatMap (·.ns):=by simp
  rw[D,E,G];refine .aO0 ?_ K M;rw[C,cons_append,List.head?_cons];intro B;rcases he with rfl|rfl
  ·exact A.1 (Option.some.inj B)
  ·exact A.2.1 (Option.some.inj B)
theorem k0v{x:Td}{op:Int}{tx:ByteArray}{n:Int}(h1:x.op=op)(h2:x.tx=tx)(h3:x.n=n):x=⟨op,tx,n⟩:=by
 cases x;simp_all
theorem y6m{α:Type}{l:List α}(h:l.length=2):∃a b,l=[a,b]:=by
 match l,h with
 | [a,b],_=>exact⟨a,b,rfl⟩
theorem z5m:∀F:Fo,F.ok->F.exs->∀t∈F.R,z3q t
 | .nil,_,_,t,ht=>by cases ht
 | .cons x k n,hok,hex,t,ht=>by
  have hexk:k.exs:=fun y hy=>hex y (by simp[Fo.N,hy])
  have hexn:n.exs:=fun y hy=>hex y (by simp[Fo.N,hy])
  have ihk:=z5m k hok.2.1 hexk;rw[Fo.R]at ht;rcases List.mem_cons.1 ht with rfl|ht
  ·have hlen:k.R.length=kdT x:=by rw[z3a];exact hok.1
   rcases q2c (hex x (by simp[Fo.N]))with⟨B,E,C,M,J⟩|⟨B,L,C,J⟩|⟨B,L,C,M,J⟩|⟨B,E,C,M,J⟩|⟨B,E,C,J⟩|⟨B,E,C,J⟩
   ·have K:k.R=[]:=List.eq_nil_of_length_eq_zero (by omega)
    have H:z0d (q3o x.n.toNat)=true:=by
     have P:=z8z x.n.toNat;cases O:q3o x.n.toNat with
     | nil=>exact absurd O (k5p _)
     | cons c z=>exact P c (by rw[O];simp)
    have A:(q0k x k.R).tk=[q3o x.n.toNat]:=by simp[q0k,j3o,B]
    have D:(q0k x k.R).ns=[y6n (q3o x.n.toNat)]:=by
     rw[q0k,K];simp only[List.flatMap_nil,List.cons.injEq,and_true];exact k0v B E (by rw[v7c];omega)
    refine q5x (by simp[q0k,prc,B]) ⟨_,_,A,.inr (.inr (.inl H))⟩ fun rest _=>?_
    rw[A,D];exact .sNum H
   ·have K:k.R=[]:=List.eq_nil_of_length_eq_zero (by omega);have G:=L;have A:(q0k x k.R).tk=[btL x.tx]:=by simp[q0k,j3o,B]
    have D:(q0k x k.R).ns=[nmT (btL x.tx)]:=by
     rw[q0k,K];simp only[List.flatMap_nil,List.cons.injEq,and_true];exact k0v B rfl C
    refine q5x (by simp[q0k,prc,B]) ⟨_,_,A,.inr (.inr (.inr G))⟩ fun rest hr=>?_
    rw[A,D];exact .sName G hr
   ·have G:=L;have A:(q0k x k.R).tk=btL x.tx::[40]::(cmk k.R++[[41]]):=by simp[q0k,j3o,B]
    have D:(q0k x k.R).ns=clT (btL x.tx) k.R.length::k.R.flatMap (·.ns):=by
     rw[q0k];simp only[List.cons.injEq,and_true];exact k0v B rfl (by omega)
    refine q5x (by simp[q0k,prc,B]) ⟨_,_,A,.inr (.inr (.inr G))⟩ fun rest hr=>?_
    rw[A,D]
    have:=k7u (.inl rfl) k.R ihk rest
    refine .sCO G ?_;simpa using this
   ·have A:(q0k x k.R).tk=[91]::(cmk k.R++[[93]]):=by simp[q0k,j3o,B]
    have D:(q0k x k.R).ns=lsT k.R.length::k.R.flatMap (·.ns):=by
     rw[q0k];simp only[List.cons.injEq,and_true];exact k0v B E (by omega)
    refine q5x (by simp[q0k,prc,B]) ⟨_,_,A,.inr (.inl rfl)⟩ fun rest hr=>?_
    rw[A,D]
    have:=k7u (.inr rfl) k.R ihk rest
    refine .sLO ?_;simpa using this
   ·obtain⟨a,b,I⟩:=y6m (hlen.trans J);rw[I]at ihk⊢;exact v1m (k0v B E C) (ihk a (by simp)) (ihk b (by simp))
   ·obtain⟨a,b,I⟩:=y6m (hlen.trans J);rw[I]at ihk⊢;exact v1l (k0v B E C) (ihk a (by simp)) (ihk b (by simp))
  ·exact z5m n hok.2.2 hexn t ht
theorem z6s(l:Nat)(t:Tn):(brx l t).length<=t.tx.length+2:=by
 unfold brx
 split
 ·simp
 ·omega
theorem y0a:∀ks:List Tn,(∀t∈ks,t.tx.length+4<=16*t.ns.length)->(cmx ks).length<=16*(ks.flatMap (·.ns)).length
 | [],_=>by simp[cmx]
 | [t],h=>by
  have:=h t (by simp)
  simp[cmx];omega
 | t::u::r,h=>by
  have h1:=h t (by simp);have h2:=y0a (u::r) (fun x hx=>h x (by simp[hx]));rw[cmx,List.flatMap_cons,length_append,length_append];simp only[length_cons];omega
theorem q3a{s:ByteArray}(h:q0o s=true):(btL s).length<=8:=by
 unfold q0o at h;simp only[Bool.and_eq_true,decide_eq_true_eq]at h;rw[q0c];exact h.1.1.2
theorem j0p:∀F:Fo,F.ok->F.exs->∀t∈F.R,t.tx.length+4<=16*t.ns.length
 | .nil,_,_,t,ht=>by cases ht
 | .cons x k n,hok,hex,t,ht=>by
  have hexk:k.exs:=fun y hy=>hex y (by simp[Fo.N,hy])
  have hexn:n.exs:=fun y hy=>hex y (by simp[Fo.N,hy])
  have ihk:=j0p k hok.2.1 hexk;rw[Fo.R]at ht;rcases List.mem_cons.1 ht with rfl|ht
  ·have hlen:k.R.length=kdT x:=by rw[z3a];exact hok.1
   have I:=y0a k.R ihk;rcases q2c (hex x (by simp[Fo.N]))with⟨B,G,A,H,D⟩|⟨B,E,A,D⟩|⟨B,E,A,H,D⟩|⟨B,G,A,H,D⟩|⟨B,G,A,D⟩|⟨B,G,A,D⟩
   ·have:=z0s 5 x.n.toNat (by omega)
    simp[q0k,q2z,B];omega
   ·have:=q3a E
    simp only[q0k,q2z,B];simp at this⊢;omega
   ·have:=q3a E
    simp only[q0k,q2z,B];simp at this I⊢;omega
   ·simp only[q0k,q2z,B];simp at I⊢;omega
   ·obtain⟨a,b,C⟩:=y6m (hlen.trans D);rw[C]at ihk⊢;have J:=ihk a (by simp);have K:=ihk b (by simp);have L:=z6s 0 a;have M:=z6s 1 b;simp[q0k,q2z,B,two2];omega
   ·obtain⟨a,b,C⟩:=y6m (hlen.trans D);rw[C]at ihk⊢;have J:=ihk a (by simp);have K:=ihk b (by simp);have L:=z6s 1 a;have M:=z6s 2 b;simp[q0k,q2z,B,two2];omega
  ·exact j0p n hok.2.2 hexn t ht
def Fo.tk:Nat->Fo->Fo
 | 0,_=>.nil
 | _+1,.nil=>.nil
 | k+1,.cons x a n=>.cons x a (Fo.tk k n)
def Fo.dp:Nat->Fo->Fo
 | 0,f=>f
 | _+1,.nil=>.nil
 | k+1,.cons _ _ n=>Fo.dp k n
theorem k5y:∀f g:Fo,Fo.tk f.len (f.app g)=f
 | .nil,g=>by cases g<;>rfl
 | .cons x k n,g=>by simp only[Fo.len,Fo.app,Fo.tk,k5y n g]
theorem k5w:∀f g:Fo,Fo.dp f.len (f.app g)=g
 | .nil,g=>by cases g<;>rfl
 | .cons x k n,g=>by simp only[Fo.len,Fo.app,Fo.dp,k5w n g]
theorem z2l:∀f:Fo,f.app .nil=f
 | .nil=>rfl
 | .cons x k n=>by simp only[Fo.app,z2l n]
def j5f:List Td->Fo
 | []=>.nil
 | x::r=>.cons x (Fo.tk (kdT x) (j5f r)) (Fo.dp (kdT x) (j5f r))
theorem z8u:∀(F:Fo),F.ok->∀r,j5f (F.N++r)=F.app (j5f r)
 | .nil,_,r=>rfl
 | .cons x k n,h,r=>by
  have e1:=z8u n h.2.2 r;have e2:=z8u k h.2.1 (n.N++r);rw[Fo.N,cons_append,append_assoc,j5f,e2,e1,<-h.1,k5y,k5w];rfl
theorem j1b(F:Fo)(h:F.ok):j5f F.N=F:=by
 have:=z8u F h []
 rw[append_nil]at this;rw[this];exact z2l F
theorem q5y{ds:List Td}(h:q0b ds=0):(∃x,ds=[x]/\x.op=9/\x.n=0/\q2t x.tx=0)\/
  (∃(x:Td)(F:Fo),ds=x::F.N/\F.ok/\F.exs/\F.len=1/\((x.op=7/\q0o x.tx=true/\x.n=0)\/(x.op=8/\x.tx=⟨#[]⟩/\x.n=0))):=by
 obtain⟨_,Q,H,R⟩:=q3k h;cases ds with
 | nil=>rw[q8v [] 0 0 (by simp)]at H;cases H
 | cons x r=>
  have B:=Q x (by simp);simp only[k7i,Bool.and_eq_true,decide_eq_true_eq,all_eq_true]at R;rw[q3u,drop_zero,q5i,Option.map_map,map_eq_some_iff]at H;obtain⟨j,P,J⟩:=H;simp only[Function.comp_apply,length_cons]at J;have K:j=r.length:=by omega
  rw[Nat.add_zero,K]at P;obtain⟨F,O,G,D⟩:=y3r r.length r (kdT x) r.length Zl P;rw[List.take_length]at D
  have E:F.exs:=fun y hy=>by
   rw[D]at hy;exact⟨Q y (by simp[hy]),R.2 y hy⟩
  have I:∀s:ByteArray,¬0<s.size->s=⟨#[]⟩:=fun s hs=>by
   apply ByteArray.ext;apply Array.toList_inj.1;exact List.eq_nil_of_length_eq_zero (by have:=q0c s;simp only[btL]at this;omega)
  unfold q0t at B
  split at B
  ·cases B
  ·rename_i h1
   split at B
   ·cases B
   ·split at B
    ·cases B
    ·rename_i h3;have A:x.op=7\/x.op=8\/x.op=9:=by omega
     rcases A with A|A|A
     ·have C:kdT x=1:=by unfold kdT;rw[A];rfl
      rw[if_neg (by omega)]at B
      split at B
      ·cases B
      ·rename_i h4;refine .inr ⟨x,F,by rw[D],O,E,by rw[G,C],.inl ⟨A,?_,by omega⟩⟩;cases M:q0o x.tx with
       | true=>rfl
       | false=>exact absurd ⟨by rw[A];rfl,M⟩ h4
     ·have C:kdT x=1:=by unfold kdT;rw[A];rfl
      exact .inr ⟨x,F,by rw[D],O,E,by rw[G,C],.inr ⟨A,I _ (fun hh=>h3 (.inr ⟨by rw[A];rfl,hh⟩)),by omega⟩⟩
     ·have L:kdT x=0:=by unfold kdT;rw[A];rfl
      rw[if_pos A]at B
      have S:F=.nil:=by
       cases F with
       | nil=>rfl
       | cons y k n=>rw[L]at G;simp[Fo.len]at G
      rw[S]at D;exact .inl ⟨x,by rw[<-D];rfl,A,by omega,B⟩
def hdT(ks:List Tn):List UInt8:=match ks with
 | t::_=>t.tx
 | []=>[]
def hdK(ks:List Tn):List Wd:=match ks with
 | t::_=>t.tk
 | []=>[]
def stX(x:Td)(ks:List Tn):List UInt8:=
 if x.op=7 then [108,101,116,32]++btL x.tx++[32,61,32]++hdT ks++[59]else if x.op=8 then hdT ks++[59]else if x.tx.size=0 then [35]else [35,32]++btL x.tx
def stK(x:Td)(ks:List Tn):List Wd:=
 if x.op=7 then [108,101,116]::btL x.tx::[61]::(hdK ks++[[59]])else if x.op=8 then hdK ks++[[59]]else [if x.tx.size=0 then [35]else [35,32]++btL x.tx]
def q2p(ds:List Td):List UInt8:=match j5f ds with
 | .nil=>[]
 | .cons x k _=>stX x k.R
def j3i(ds:List Td):List Wd:=match j5f ds with
 | .nil=>[]
 | .cons x k _=>stK x k.R
theorem y1s{x:Td}{F:Fo}(h:F.ok)(hl:F.len=kdT x):j5f (x::F.N)=.cons x F .nil:=by
 have A:=k5y F .nil;have B:=k5w F .nil;rw[z2l]at A B;rw[j5f,j1b F h,<-hl,A,B]
theorem z5r{x:Td}{F:Fo}(h:F.ok)(hl:F.len=kdT x):q2p (x::F.N)=stX x F.R/\j3i (x::F.N)=stK x F.R:=by
 rw[q2p,j3i,y1s h hl];exact⟨rfl,rfl⟩
def q2w(ps:List (List Td)):List UInt8:=ps.flatMap fun t=>q2p t++[10]
theorem z7r(t:List Td)(r:List (List Td)):q2w (t::r)=q2p t++[10]++q2w r:=by simp[q2w]
theorem j2q(r:List (List Td))(t:List Td):q2w (r++[t])=q2w r++(q2p t++[10]):=by simp[q2w]
end Go.Proofs.YtchdplceopegoaaGreatDoor
namespace Go.Proofs.YtchdplceopegoaaGreatDoor
structure Nd where
 op:Int
 tx:ByteArray
 n:Int
def pts(op:Int):Nat:=if op=6\/op=9 then 2 else if op=7\/op=8 then 1 else 0
theorem v1i(op:Int):pts op<=2:=by unfold pts;split<;>(try split)<;>omega
def cnt:List Nd->Nat->Option Nat
 | _,0=>some 0
 | [],_+1=>none
 | x::r,m+1=>(cnt r (pts x.op+m)).map (· + 1)
theorem q8u(ds:List Nd):cnt ds 0=some 0:=by cases ds<;>rfl
theorem z2h(m:Nat):cnt [] (m+1)=none:=rfl
theorem q4r(x:Nd)(r:List Nd)(m:Nat):cnt (x::r) (m+1)=(cnt r (pts x.op+m)).map (· + 1):=rfl
theorem j5x:∀(ds:List Nd)(m k:Nat),cnt ds m=some k->m<=k/\k<=ds.length
 | ds,0,k,h=>by rw[q8u]at h;cases h;simp
 | [],m+1,k,h=>by rw[z2h]at h;cases h
 | x::r,m+1,k,h=>by
  rw[q4r,map_eq_some_iff]at h;obtain⟨j,h1,rfl⟩:=h
  have:=j5x r _ j h1
  simp;omega
theorem k5m:∀(ds:List Nd)(a b:Nat),cnt ds (a+b)=(cnt ds a).bind fun k=>(cnt (ds.drop k) b).map (k+·)
 | ds,0,b=>by
  rw[q8u];simp
 | [],a+1,b=>by rw[show a+1+b=(a+b)+1 by omega,z2h,z2h];rfl
 | x::r,a+1,b=>by
  rw[show a+1+b=(a+b)+1 by omega,q4r,q4r,show pts x.op+(a+b)=(pts x.op+a)+b by omega,k5m r _ b];cases cnt r (pts x.op+a)with
  | none=>rfl
  | some k=>
   simp only[bind_some,map_some,List.drop_succ_cons];cases cnt (r.drop k) b with
   | none=>rfl
   | some j=>simp;omega
theorem j5y:∀(ds:List Nd)(m k i:Nat),cnt ds m=some k->i<k->∃m',cnt (ds.drop i) (m'+1)=some (k-i)
 | ds,0,k,i,h,hi=>by rw[q8u]at h;cases h;omega
 | [],m+1,k,i,h,hi=>by rw[z2h]at h;cases h
 | x::r,m+1,k,i,h,hi=>by
  cases i with
  | zero=>exact⟨m,h⟩
  | succ i=>
   rw[q4r,map_eq_some_iff]at h;obtain⟨j,h1,rfl⟩:=h;obtain⟨m',h2⟩:=j5y r _ j i h1 (by omega);exact⟨m',by rw[List.drop_succ_cons,h2];congr 1;omega⟩
def q0v(ds:List Nd)(i m:Nat):Option Nat:=(cnt (ds.drop i) m).map (i+·)
theorem z6z(ds:List Nd)(i:Nat):q0v ds i 0=some i:=by simp[q0v,q8u]
theorem k2b(ds:List Nd)(i m:Nat)(h:ds.length<=i):q0v ds i (m+1)=none:=by
 rw[q0v,List.drop_eq_nil_of_le h,z2h];rfl
theorem z6y(ds:List Nd)(i m:Nat)(h:i<ds.length):q0v ds i (m+1)=q0v ds (i+1) (pts ds[i].op+m):=by
 rw[q0v,List.drop_eq_getElem_cons h,q4r,q0v];cases cnt (ds.drop (i+1)) (pts ds[i].op+m)with
 | none=>rfl
 | some k=>simp;omega
theorem j6n(ds:List Nd)(i a b:Nat):q0v ds i (a+b)=(q0v ds i a).bind fun j=>q0v ds j b:=by
 rw[q0v,k5m,q0v];cases cnt (ds.drop i) a with
 | none=>rfl
 | some k=>
  simp only[bind_some,map_some,q0v,List.drop_drop];cases cnt (ds.drop (i+k)) b with
  | none=>rfl
  | some j=>simp;omega
theorem k8k{ds:List Nd}{i m j:Nat}(h:q0v ds i m=some j):i+m<=j/\(m=0\/j<=ds.length):=by
 rw[q0v,map_eq_some_iff]at h;obtain⟨k,A,rfl⟩:=h;have B:=j5x _ _ _ A;rw[List.length_drop]at B;omega
theorem j6o{ds:List Nd}{i:Nat}(h:q0v ds 0 1=some ds.length)(hi:i<ds.length):∃j,q0v ds i 1=some j/\i<j/\j<=ds.length:=by
 rw[q0v,map_eq_some_iff]at h;obtain⟨k,D,H⟩:=h;have E:k=ds.length:=by omega
 subst E;obtain⟨G,A⟩:=j5y _ _ _ i D hi;rw[drop_zero,Nat.add_comm G 1,k5m]at A;cases B:cnt (ds.drop i) 1 with
 | none=>rw[B]at A;cases A
 | some j=>
  have C:q0v ds i 1=some (i+j):=by rw[q0v,B];rfl
  have I:=k8k C;exact⟨i+j,C,by omega,by omega⟩
def q6g(b:UInt8):Bool:=decide (32<=b.toNat)&&decide (b.toNat<=126)
def isW(s:ByteArray):Bool:=decide (1<=s.size)&&decide (s.size<=20)&&s.data.toList.all q6g
def q1e(x:Nd):Int:=
 if x.op<1\/9<x.op then 1
 else if(x.op≠1/\x.tx.size≠0)\/(x.op≠7/\x.n≠0)then 2
 else if x.op=1/\isW x.tx=false then 5
 else if x.op=7/\(x.n<0\/8<x.n)then 1 else 0
def q9l:List Nd->Int
 | []=>0
 | x::r=>if q1e x=0 then q9l r else q1e x
def q3f(ds:List Nd):Int:=
 if 400<ds.length then 3 else if q9l ds=0 then(if q0v ds 0 1=some ds.length then 0 else 2)else q9l ds
theorem z2j:∀(ds:List Nd),(∀x∈ds,q1e x=0)->q9l ds=0
 | [],_=>rfl
 | x::r,h=>by rw[q9l,if_pos (h x (by simp)),z2j r fun y hy=>h y (by simp[hy])]
theorem z4v:∀(ds:List Nd),q9l ds=0->∀x∈ds,q1e x=0
 | [],_=>by simp
 | x::r,h=>by
  rw[q9l]at h
  split at h
  ·rename_i h0;intro y hy;rcases List.mem_cons.1 hy with rfl|hy
   ·exact h0
   ·exact z4v r h y hy
  ·rename_i h0;exact absurd h h0
theorem k2g:∀(ds:List Nd)(k:Nat)(h:k<ds.length),(∀x∈ds.take k,q1e x=0)->q1e ds[k]≠0->q9l ds=q1e ds[k]
 | x::r,0,_,_,h=>by
  have h':q1e x≠0:=h;rw[q9l,if_neg h'];rfl
 | x::r,k+1,hk,ha,h=>by
  rw[q9l,if_pos (ha x (by simp)),k2g r k (by simpa using hk) (fun y hy=>ha y (by simp[hy])) h];rfl
theorem q5j{ds:List Nd}(h:q3f ds=0):ds.length<=400/\(∀x∈ds,q1e x=0)/\q0v ds 0 1=some ds.length:=by
 unfold q3f at h
 split at h
 ·cases h
 ·rename_i h1
  split at h
  ·rename_i h2
   split at h
   ·rename_i h3;exact⟨by omega,z4v ds h2,h3⟩
   ·cases h
  ·rename_i h2;exact absurd h h2
theorem y3j{ds:List Nd}(h1:ds.length<=400)(h2:∀x∈ds,q1e x=0)(h3:q0v ds 0 1=some ds.length):q3f ds=0:=by
 rw[q3f,if_neg (by omega),if_pos (z2j ds h2),if_pos h3]
inductive Tr where
 | leaf (x:Nd)
 | one (x:Nd) (a:Tr)
 | two (x:Nd) (a b:Tr)
def Tr.N:Tr->List Nd
 | .leaf x=>[x]
 | .one x a=>x::a.N
 | .two x a b=>x::(a.N++b.N)
def Tr.Wf:Tr->Prop
 | .leaf x=>q1e x=0/\pts x.op=0
 | .one x a=>q1e x=0/\pts x.op=1/\a.Wf
 | .two x a b=>q1e x=0/\pts x.op=2/\a.Wf/\b.Wf
theorem y8x:∀(ds:List Nd)(m k:Nat),(∀x∈ds,q1e x=0)->cnt ds m=some k->∃ts:List Tr,ts.length=m/\(∀t∈ts,t.Wf)/\ds.take k=(ts.map Tr.N).flatten
 | ds,0,k,_,h=>by rw[q8u]at h;cases h;exact⟨[],rfl,by simp,by simp⟩
 | [],m+1,k,_,h=>by rw[z2h]at h;cases h
 | x::r,m+1,k,hn,h=>by
  rw[q4r,map_eq_some_iff]at h;obtain⟨j,h1,rfl⟩:=h;obtain⟨ts,e1,e2,e3⟩:=y8x r _ j (fun y hy=>hn y (by simp[hy])) h1;have hx:=hn x (by simp);have h012:pts x.op=0\/pts x.op=1\/pts x.op=2:=by have:=v1i x.op;omega
  rcases h012 with B|B|B
  ·exact⟨.leaf x::ts,by simp[e1,B],by intro t A;rcases List.mem_cons.1 A with rfl|A;exact⟨hx,B⟩;exact e2 t A,by simp[Tr.N,e3]⟩
  ·match ts,e1,e2,e3 with
   | [],e1,_,_=>simp at e1;omega
   | a::ts,e1,e2,e3=>
    refine⟨.one x a::ts,by simp at e1⊢;omega,?_,by simp[Tr.N,e3]⟩;intro t A;rcases List.mem_cons.1 A with rfl|A
    ·exact⟨hx,B,e2 a (by simp)⟩
    ·exact e2 t (by simp[A])
  ·match ts,e1,e2,e3 with
   | [],e1,_,_=>simp at e1;omega
   | [a],e1,_,_=>simp at e1;omega
   | a::b::ts,e1,e2,e3=>
    refine⟨.two x a b::ts,by simp at e1⊢;omega,?_,by simp[Tr.N,e3]⟩;intro t A;rcases List.mem_cons.1 A with rfl|A
    ·exact⟨hx,B,e2 a (by simp),e2 b (by simp)⟩
    ·exact e2 t (by simp[A])
theorem z3w:∀(t:Tr)(r:List Nd)(m:Nat),t.Wf->cnt (t.N++r) (m+1)=(cnt r m).map (t.N.length+·)
 | .leaf x,r,m,h=>by
  simp only[Tr.N,cons_append,nil_append,q4r,h.2,Nat.zero_add,length_cons,length_nil];cases cnt r m<;>simp[Nat.add_comm]
 | .one x a,r,m,h=>by
  simp only[Tr.N,cons_append,q4r,h.2.1,Nat.add_comm 1 m,z3w a r m h.2.2,length_cons];cases cnt r m<;>simp;omega
 | .two x a b,r,m,h=>by
  simp only[Tr.N,cons_append,append_assoc,q4r,h.2.1,show 2+m=(m+1)+1 by omega,z3w a (b.N++r) (m+1) h.2.2.1,z3w b r m h.2.2.2,length_cons,length_append];cases cnt r m<;>simp;omega
theorem Tr.pos:∀t:Tr,0<t.N.length
 | .leaf _=>by simp[Tr.N]
 | .one _ _=>by simp[Tr.N]
 | .two _ _ _=>by simp[Tr.N]
theorem q5a{ds:List Nd}{i:Nat}{t:Tr}{r:List Nd}(h:t.Wf)(hd:ds.drop i=t.N++r):q0v ds i 1=some (i+t.N.length):=by
 rw[q0v,hd,z3w t r 0 h,q8u];rfl
theorem v2p{ds:List Nd}{i j:Nat}(hn:∀x∈ds,q1e x=0)(h:q0v ds i 1=some j):∃t:Tr,t.Wf/\ds.drop i=t.N++ds.drop j/\j=i+t.N.length:=by
 rw[q0v,map_eq_some_iff]at h;obtain⟨k,D,rfl⟩:=h;obtain⟨G,E,A,B⟩:=y8x _ _ _ (fun x hx=>hn x (List.mem_of_mem_drop hx)) D
 match G,E,A,B with
 | [t],_,A,B=>
  have C:(ds.drop i).take k=t.N:=by simpa using B
  have H:=j5x _ _ _ D;refine⟨t,A t (by simp),?_,?_⟩
  ·rw[<-C,<-List.drop_drop,List.take_append_drop]
  ·rw[<-C,List.length_take];omega
theorem z9d{ds:List Nd}(h:q3f ds=0):∃t:Tr,t.Wf/\ds=t.N:=by
 obtain⟨_,B,C⟩:=q5j h;obtain⟨t,D,A,E⟩:=v2p B C;refine⟨t,D,?_⟩;rw[drop_zero,List.drop_length,append_nil]at A;exact A
theorem z1t{t:Tr}(h:t.Wf)(hl:t.N.length<=400):q3f t.N=0:=by
 refine y3j hl ?_ ?_
 ·clear hl
  induction t with
  | leaf x=>intro y A;simp[Tr.N]at A;subst A;exact h.1
  | one x a ih=>
   intro y A;rcases List.mem_cons.1 A with rfl|A
   ·exact h.1
   ·exact ih h.2.2 y A
  | two x a b ia ib=>
   intro y A;rcases List.mem_cons.1 A with rfl|A
   ·exact h.1
   ·rcases List.mem_append.1 A with A|A
    ·exact ia h.2.2.1 y A
    ·exact ib h.2.2.2 y A
 ·have:=q5a (ds:=t.N) (i:=0) (r:=[]) h (by simp)
  simpa using this
theorem q2d{x:Nd}(h:q1e x=0):1<=x.op/\x.op<=9/\(x.op=1\/x.tx.size=0)/\(x.op=7\/x.n=0)/\(x.op=1->isW x.tx=true)/\(x.op=7->0<=x.n/\x.n<=8):=by
 unfold q1e at h
 split at h
 ·cases h
 split at h
 ·cases h
 split at h
 ·cases h
 split at h
 ·cases h
 rename_i h1 h2 h3 h4;refine⟨by omega,by omega,by omega,by omega,?_,by omega⟩;intro A;cases B:isW x.tx with
 | true=>rfl
 | false=>exact absurd ⟨A,B⟩ h3
theorem q4c{s:ByteArray}(h:isW s=true):1<=s.size/\s.size<=20:=by
 simp[isW]at h;omega
theorem q1a(s:ByteArray):s.data.toList.length=s.size:=(Lib.size_eq s).symm
theorem q4a{x:Nd}(h:q1e x=0)(hp:pts x.op=0):x.op=1\/x.op=2\/x.op=3\/x.op=4\/x.op=5:=by
 have:=q2d h
 unfold pts at hp
 split at hp
 ·cases hp
 split at hp
 ·cases hp
 omega
theorem q8h{x:Nd}(hp:pts x.op=1):x.op=7\/x.op=8:=by
 unfold pts at hp
 split at hp
 ·cases hp
 split at hp
 ·omega
 ·cases hp
theorem q7t{x:Nd}(hp:pts x.op=2):x.op=6\/x.op=9:=by
 unfold pts at hp
 split at hp
 ·omega
 split at hp<;>cases hp
theorem q6l{a b:ByteArray}(h:a.data.toList=b.data.toList):a=b:=by
 cases a;cases b;simp only[ByteArray.mk.injEq];exact Array.toList_inj.1 h
theorem k4c{a:ByteArray}(h:a.size=0):a=⟨#[]⟩:=q6l (by
 have:=q1a a
 rw[h]at this
 rw[List.eq_nil_of_length_eq_zero this])
def Tr.flat:Tr->Option (List UInt8)
 | .leaf x=>if x.op=1 then some x.tx.data.toList else if x.op=2 then some [32]else if x.op=4 then none else some []
 | .one _ a=>a.flat
 | .two x a b=>if x.op=6 then(match a.flat,b.flat with|some s,some t=>some (s++t)|_,_=>none)else a.flat
def Tr.line(t:Tr):ByteArray:=⟨(t.flat.getD []).toArray⟩
def Tr.isFlat(t:Tr):Bool:=t.flat.isSome
theorem z5e(t:Tr):t.line.data.toList=t.flat.getD []:=by simp[Tr.line]
theorem q8f(t:Tr):t.line.size=(t.flat.getD []).length:=by rw[<-q1a,z5e]
theorem q8b:∀t:Tr,t.Wf->(t.flat.getD []).length<=20*t.N.length
 | .leaf x,h=>by
  obtain⟨_,_,_,_,h5,_⟩:=q2d h.1;simp only[Tr.flat,Tr.N]
  split
  ·rename_i h1
   have:=q4c (h5 h1)
   have e:=q1a x.tx;simp only[getD_some,length_cons,length_nil];omega
  ·repeat' split
   all_goals simp
 | .one x a,h=>by
  have:=q8b a h.2.2
  simp only[Tr.flat,Tr.N,length_cons];omega
 | .two x a b,h=>by
  have h1:=q8b a h.2.2.1;have h2:=q8b b h.2.2.2;simp only[Tr.flat,Tr.N,length_cons,length_append]
  split
  ·cases ha:a.flat with
   | none=>simp
   | some s=>
    cases hb:b.flat with
    | none=>simp
    | some t=>
     rw[ha]at h1;rw[hb]at h2;simp only[getD_some]at h1 h2⊢;rw[length_append];omega
  ·omega
theorem q8c:∀(t:Tr)(s:List UInt8),t.Wf->t.flat=some s->∀b∈s,b≠10
 | .leaf x,s,h,e=>by
  obtain⟨_,_,_,_,h5,_⟩:=q2d h.1;simp only[Tr.flat]at e
  split at e
  ·rename_i h1;cases e;have hw:=h5 h1;simp only[isW,Bool.and_eq_true,all_eq_true]at hw;intro b hb hc
   have:=hw.2 b hb
   subst hc;simp[q6g]at this
  ·split at e
   ·cases e;simp
   ·split at e
    ·cases e
    ·cases e;simp
 | .one x a,s,h,e=>q8c a s h.2.2 e
 | .two x a b,s,h,e=>by
  simp only[Tr.flat]at e
  split at e
  ·cases ha:a.flat with
   | none=>rw[ha]at e;cases e
   | some u=>
    cases hb:b.flat with
    | none=>rw[ha,hb]at e;cases e
    | some v=>
     rw[ha,hb]at e;cases e;intro c hc;rcases List.mem_append.1 hc with hc|hc
     ·exact q8c a u h.2.2.1 ha c hc
     ·exact q8c b v h.2.2.2 hb c hc
  ·exact q8c a s h.2.2.1 e
def Tr.lay:Tr->Nat->List Int->Except Int (List UInt8 × List Int)
 | .leaf x,deep,ws=>if x.op=1 then .ok (x.tx.data.toList,ws)else if x.op=5 then .ok ([],ws)else .ok (10::List.replicate deep 32,ws)
 | .one x a,deep,ws=>
  if x.op=7 then a.lay (deep+x.n.toNat) ws
  else match ws with
   | []=>.error 2
   | c::ws=>if c=1 then a.lay deep ws else match a.flat with
    | none=>.error 4
    | some s=>.ok (s,ws)
 | .two x a b,deep,ws=>
  if x.op=6 then match a.lay deep ws with
   | .error e=>.error e
   | .ok (s,ws1)=>match b.lay deep ws1 with
    | .error e=>.error e
    | .ok (t,ws2)=>.ok (s++t,ws2)
  else match ws with
   | []=>.error 2
   | c::ws=>if c=0 then a.lay deep ws else b.lay deep ws
def Tr.ways:Tr->List (List Int)
 | .leaf _=>[[]]
 | .one x a=>if x.op=7 then a.ways else(if a.isFlat=true then [[0]]else [])++a.ways.map (1::·)
 | .two x a b=>if x.op=6 then a.ways.flatMap fun u=>b.ways.map (u++·)else a.ways.map (0::·)++b.ways.map (1::·)
def q3n(ws:List Int):Prop:=∀c∈ws,c=0\/c=1
theorem z6c:∀t:Tr,t.ways≠[]
 | .leaf _=>by simp[Tr.ways]
 | .one x a=>by
  simp only[Tr.ways]
  split
  ·exact z6c a
  ·have:=z6c a
   simp[this]
 | .two x a b=>by
  have h1:=z6c a;have h2:=z6c b;simp only[Tr.ways]
  split
  ·obtain⟨u,us,e⟩:=List.exists_cons_of_ne_nil h1;rw[e];simp[h2]
  ·simp[h1]
theorem q8o:∀(t:Tr)(u:List Int),u∈t.ways->q3n u
 | .leaf _,u,h=>by simp[Tr.ways]at h;subst h;simp[q3n]
 | .one x a,u,h=>by
  simp only[Tr.ways]at h
  split at h
  ·exact q8o a u h
  ·rcases List.mem_append.1 h with h|h
   ·split at h
    ·simp at h;subst h;simp[q3n]
    ·simp at h
   ·obtain⟨v,hv,rfl⟩:=List.mem_map.1 h
    have:=q8o a v hv
    intro c hc;rcases List.mem_cons.1 hc with rfl|hc
    ·exact .inr rfl
    ·exact this c hc
 | .two x a b,u,h=>by
  simp only[Tr.ways]at h
  split at h
  ·obtain⟨p,hp,hpq⟩:=List.mem_flatMap.1 h;obtain⟨q,hq,rfl⟩:=List.mem_map.1 hpq;have h1:=q8o a p hp;have h2:=q8o b q hq;intro c hc;rcases List.mem_append.1 hc with hc|hc
   ·exact h1 c hc
   ·exact h2 c hc
  ·rcases List.mem_append.1 h with h|h
   ·obtain⟨v,hv,rfl⟩:=List.mem_map.1 h
    have:=q8o a v hv
    intro c hc;rcases List.mem_cons.1 hc with rfl|hc
    ·exact .inl rfl
    ·exact this c hc
   ·obtain⟨v,hv,rfl⟩:=List.mem_map.1 h
    have:=q8o b v hv
    intro c hc;rcases List.mem_cons.1 hc with rfl|hc
    ·exact .inr rfl
    ·exact this c hc
theorem q7m:∀(t:Tr)(deep:Nat)(u r:List Int),u∈t.ways->∃s,t.lay deep (u++r)=.ok (s,r)
 | .leaf x,deep,u,r,h=>by
  simp[Tr.ways]at h;subst h;simp only[Tr.lay,nil_append]
  split
  ·exact⟨_,rfl⟩
  ·split
   ·exact⟨_,rfl⟩
   ·exact⟨_,rfl⟩
 | .one x a,deep,u,r,h=>by
  simp only[Tr.ways]at h;simp only[Tr.lay]
  split at h
  ·rename_i h7;rw[if_pos h7];exact q7m a _ u r h
  ·rename_i h7;rw[if_neg h7];rcases List.mem_append.1 h with h|h
   ·split at h
    ·rename_i hf;simp at h;subst h;simp only[cons_append,nil_append];rw[if_neg (by decide)];rw[Tr.isFlat]at hf;cases hfl:a.flat with
     | none=>rw[hfl]at hf;cases hf
     | some s=>exact⟨s,rfl⟩
    ·simp at h
   ·obtain⟨v,hv,rfl⟩:=List.mem_map.1 h;simp only[cons_append,if_pos];exact q7m a deep v r hv
 | .two x a b,deep,u,r,h=>by
  simp only[Tr.ways]at h;simp only[Tr.lay]
  split at h
  ·rename_i h6;rw[if_pos h6];obtain⟨p,hp,hpq⟩:=List.mem_flatMap.1 h;obtain⟨q,hq,rfl⟩:=List.mem_map.1 hpq;obtain⟨s1,e1⟩:=q7m a deep p (q++r) hp;obtain⟨s2,e2⟩:=q7m b deep q r hq;rw[append_assoc,e1];simp only[e2];exact⟨_,rfl⟩
  ·rename_i h6;rw[if_neg h6];rcases List.mem_append.1 h with h|h
   ·obtain⟨v,hv,rfl⟩:=List.mem_map.1 h;simp only[cons_append,if_pos];exact q7m a deep v r hv
   ·obtain⟨v,hv,rfl⟩:=List.mem_map.1 h;simp only[cons_append];rw[if_neg (by decide)];exact q7m b deep v r hv
theorem q5v:∀(t:Tr)(deep:Nat)(ws r:List Int)(s:List UInt8),q3n ws->t.lay deep ws=.ok (s,r)->∃u∈t.ways,ws=u++r
 | .leaf x,deep,ws,r,s,_,h=>by
  refine⟨[],by simp[Tr.ways],?_⟩;simp only[Tr.lay]at h
  split at h
  ·cases h;rfl
  ·split at h
   ·cases h;rfl
   ·cases h;rfl
 | .one x a,deep,ws,r,s,h0,h=>by
  simp only[Tr.lay]at h;simp only[Tr.ways]
  split at h
  ·rename_i h7;rw[if_pos h7];exact q5v a _ ws r s h0 h
  ·rename_i h7;rw[if_neg h7]
   match ws,h0,h with
   | [],_,h=>cases h
   | c::ws,h0,h=>
    simp only at h
    split at h
    ·rename_i h1;subst h1;obtain⟨u,hu,e⟩:=q5v a deep ws r s (fun d hd=>h0 d (by simp[hd])) h;exact⟨1::u,List.mem_append.2 (.inr (List.mem_map.2 ⟨u,hu,rfl⟩)),by rw[e];rfl⟩
    ·rename_i h1;have hc:c=0:=by have:=h0 c (by simp);omega
     subst hc;cases D:a.flat with
     | none=>rw[D]at h;cases h
     | some v=>
      rw[D]at h;cases h;refine⟨[0],List.mem_append.2 (.inl ?_),rfl⟩;rw[if_pos (by rw[Tr.isFlat,D];rfl)];simp
 | .two x a b,deep,ws,r,s,h0,h=>by
  simp only[Tr.lay]at h;simp only[Tr.ways]
  split at h
  ·rename_i h6;rw[if_pos h6];cases B:a.lay deep ws with
   | error e=>rw[B]at h;cases h
   | ok p=>
    obtain⟨I,A⟩:=p;rw[B]at h;simp only at h;cases C:b.lay deep A with
    | error e=>rw[C]at h;cases h
    | ok q=>
     obtain⟨J,K⟩:=q;rw[C]at h;cases h;obtain⟨u,hu,E⟩:=q5v a deep ws A I h0 B;obtain⟨v,H,G⟩:=q5v b deep A r J (fun d hd=>h0 d (by rw[E];simp[hd])) C;exact⟨u++v,List.mem_flatMap.2 ⟨u,hu,List.mem_map.2 ⟨v,H,rfl⟩⟩,by rw[E,G,append_assoc]⟩
  ·rename_i h6;rw[if_neg h6]
   match ws,h0,h with
   | [],_,h=>cases h
   | c::ws,h0,h=>
    simp only at h
    split at h
    ·rename_i h1;subst h1;obtain⟨u,hu,e⟩:=q5v a deep ws r s (fun d hd=>h0 d (by simp[hd])) h;exact⟨0::u,List.mem_append.2 (.inl (List.mem_map.2 ⟨u,hu,rfl⟩)),by rw[e];rfl⟩
    ·rename_i h1;have hc:c=1:=by have:=h0 c (by simp);omega
     subst hc;obtain⟨u,hu,e⟩:=q5v b deep ws r s (fun d hd=>h0 d (by simp[hd])) h;exact⟨1::u,List.mem_append.2 (.inr (List.mem_map.2 ⟨u,hu,rfl⟩)),by rw[e];rfl⟩
def Tr.show(t:Tr)(ws:List Int):Except Int (List UInt8):=
 if ws.all (fun c=>c==0||c==1)=true then match t.lay 0 ws with
  | .error e=>.error e
  | .ok (s,[])=>.ok s
  | .ok (_,_::_)=>.error 2
 else .error 1
theorem k5f{ws:List Int}:ws.all (fun c=>c==0||c==1)=true↔q3n ws:=by
 simp[q3n]
theorem z5p(t:Tr)(ws:List Int):(∃s,t.show ws=.ok s)↔ws∈t.ways:=by
 constructor
 ·rintro⟨s,h⟩;unfold Tr.show at h
  split at h
  ·rename_i h0;cases A:t.lay 0 ws with
   | error e=>rw[A]at h;cases h
   | ok p=>
    obtain⟨u,r⟩:=p;rw[A]at h;cases r with
    | cons c r=>cases h
    | nil=>
     obtain⟨v,C,e⟩:=q5v t 0 ws [] u (k5f.1 h0) A;rw[append_nil]at e;rw[e];exact C
  ·cases h
 ·intro h;obtain⟨s,B⟩:=q7m t 0 ws [] h;rw[append_nil]at B;refine⟨s,?_⟩;unfold Tr.show;rw[if_pos (k5f.2 (q8o t ws h)),B]
def q3d:List Int->List Int->Prop
 | a::al,b::bs=>if a=b then q3d al bs else a<b
 | _,_=>False
theorem z4i:∀(u v r s:List Int),q3d u v->q3d (u++r) (v++s)
 | a::al,b::bs,r,s,h=>by
  simp only[cons_append,q3d]at h⊢
  split
  ·rename_i e;rw[if_pos e]at h;exact z4i al bs r s h
  ·rename_i e;rw[if_neg e]at h;exact h
theorem z6q:∀(u r s:List Int),q3d r s->q3d (u++r) (u++s)
 | [],r,s,h=>h
 | a::u,r,s,h=>by simp only[cons_append,q3d,if_pos];exact z6q u r s h
theorem z1b{α β:Type}{R:β->β->Prop}(f:α->List β):∀l:List α,(∀x∈l,(f x).Pairwise R)->l.Pairwise (fun x y=>∀p∈f x,∀q∈f y,R p q)->(l.flatMap f).Pairwise R
 | [],_,_=>List.Pairwise.nil
 | x::l,h1,h2=>by
  rw[List.flatMap_cons];rw[List.pairwise_cons]at h2;refine List.pairwise_append.2 ⟨h1 x (by simp),z1b f l (fun y hy=>h1 y (by simp[hy])) h2.2,?_⟩;intro p hp q hq;obtain⟨y,hy,hq⟩:=List.mem_flatMap.1 hq;exact h2.1 y hy p hp q hq
theorem z1w:∀t:Tr,t.ways.Pairwise q3d
 | .leaf _=>by simp[Tr.ways]
 | .one x a=>by
  simp only[Tr.ways];have ih:=z1w a
  split
  ·exact ih
  ·refine List.pairwise_append.2 ⟨?_,?_,?_⟩
   ·split<;>simp
   ·exact List.pairwise_map.2 (ih.imp fun h=>by simp only[q3d,if_pos];exact h)
   ·intro p hp q hq
    split at hp
    ·simp at hp;subst hp;obtain⟨v,_,rfl⟩:=List.mem_map.1 hq;simp[q3d]
    ·simp at hp
 | .two x a b=>by
  simp only[Tr.ways];have ia:=z1w a;have ib:=z1w b
  split
  ·refine z1b _ _ ?_ ?_
   ·intro u _;exact List.pairwise_map.2 (ib.imp fun h=>z6q u _ _ h)
   ·refine ia.imp ?_;intro u v h p hp q hq;obtain⟨r,_,rfl⟩:=List.mem_map.1 hp;obtain⟨s,_,rfl⟩:=List.mem_map.1 hq;exact z4i u v r s h
  ·refine List.pairwise_append.2 ⟨?_,?_,?_⟩
   ·exact List.pairwise_map.2 (ia.imp fun h=>by simp only[q3d,if_pos];exact h)
   ·exact List.pairwise_map.2 (ib.imp fun h=>by simp only[q3d,if_pos];exact h)
   ·intro p hp q hq;obtain⟨u,_,rfl⟩:=List.mem_map.1 hp;obtain⟨v,_,rfl⟩:=List.mem_map.1 hq;simp[q3d]
theorem v3n{x:Nd}(h:q1e x=0)(h1:x.op=1):∀b∈x.tx.data.toList,b≠10:=by
 obtain⟨_,_,_,_,B,_⟩:=q2d h;have A:=B h1;simp only[isW,Bool.and_eq_true,all_eq_true]at A;intro b C D
 have:=A.2 b C
 subst D;simp[q6g]at this
end Go.Proofs.YtchdplceopegoaaGreatDoor
namespace Go.Proofs.YtchdplceopegoaaGreatDoor
open Go
abbrev wdD(s:List UInt8):Tr:=.leaf ⟨1,wbS s,0⟩
abbrev blD:Tr:=.leaf ⟨2,⟨#[]⟩,0⟩
abbrev sfD:Tr:=.leaf ⟨3,⟨#[]⟩,0⟩
abbrev twD(a b:Tr):Tr:=.two ⟨6,⟨#[]⟩,0⟩ a b
abbrev dpD(a:Tr):Tr:=.one ⟨7,⟨#[]⟩,2⟩ a
abbrev grD(a:Tr):Tr:=.one ⟨8,⟨#[]⟩,0⟩ a
def inD(l:Nat)(x:Td)(d:Tr):Tr:=if prc x<l then twD (wdD [40]) (twD d (wdD [41]))else d
def kdD:List (Td × Tr)->Tr
 | []=>wdD []
 | p::r=>match r with
  | []=>p.2
  | _::_=>twD (twD p.2 (wdD [44])) (twD blD (kdD r))
def tw2(f:Td->Tr->Td->Tr->Tr):List (Td × Tr)->Tr
 | [a,b]=>f a.1 a.2 b.1 b.2
 | _=>wdD []
def q3m(op cl:List UInt8)(ks:List (Td × Tr)):Tr:=if ks.length=0 then wdD (op++cl)else grD (twD (wdD op) (twD (dpD (twD sfD (kdD ks))) (twD sfD (wdD cl))))
def q0r(x:Td)(ks:List (Td × Tr)):Tr:=
 if x.op=1 then wdD (q3o x.n.toNat)
 else if x.op=2 then wdD (btL x.tx)
 else if x.op=3 then q3m (btL x.tx++[40]) [41] ks
 else if x.op=4 then q3m [91] [93] ks
 else if x.op=5 then tw2 (fun x a y b=>grD (twD (inD 0 x a) (dpD (twD blD (twD (wdD [43,32]) (inD 1 y b)))))) ks
 else tw2 (fun x a y b=>grD (twD (inD 1 x a) (dpD (twD blD (twD (wdD [42,32]) (inD 2 y b)))))) ks
def Fo.D:Fo->List (Td × Tr)
 | .nil=>[]
 | .cons x k n=>(x,q0r x k.D)::n.D
theorem q6v:∀F:Fo,F.D.length=F.len
 | .nil=>rfl
 | .cons _ _ n=>by simp[Fo.D,Fo.len,q6v n]
def stD(x:Td)(d:Tr):Tr:=
 if x.op=7 then grD (twD (wdD ([108,101,116,32]++btL x.tx++[32,61])) (dpD (twD blD (twD d (wdD [59])))))else twD d (wdD [59])
theorem z4x(s:List UInt8):(wdD s).flat=some s:=rfl
theorem q6x{a b:Tr}{s t:List UInt8}(ha:a.flat=some s)(hb:b.flat=some t):(twD a b).flat=some (s++t):=by
 simp only[Tr.flat,if_true,ha,hb]
theorem v5j(a:Tr):(dpD a).flat=a.flat:=rfl
theorem v5k(a:Tr):(grD a).flat=a.flat:=rfl
theorem v5i:blD.flat=some [32]:=rfl
theorem y7x:sfD.flat=some []:=rfl
def Mt(p:Td × Tr)(t:Tn):Prop:=p.1=t.x/\p.2.flat=some t.tx
theorem v5l{p:Td × Tr}{t:Tn}(h:Mt p t)(l:Nat):(inD l p.1 p.2).flat=some (brx l t):=by
 unfold inD brx;rw[h.1]
 split
 ·rw[q6x (z4x _) (q6x h.2 (z4x _))];rfl
 ·exact h.2
inductive Mts:List (Td × Tr)->List Tn->Prop where
 | nil:Mts [] []
 | cons {p t ps ts}:Mt p t->Mts ps ts->Mts (p::ps) (t::ts)
theorem y7w:∀{ps:List (Td × Tr)}{ts:List Tn},Mts ps ts->ps≠[]->(kdD ps).flat=some (cmx ts)
 | _,_,.cons h .nil,_=>by simp only[kdD,cmx,append_nil];exact h.2
 | _,_,.cons (ps:=p::ps) (ts:=t::ts) h (.cons h2 h3),_=>by
  have ih:=y7w (Mts.cons h2 h3) (by simp)
  show(twD (twD _ (wdD [44])) (twD blD (kdD (p::ps)))).flat=_
  rw[q6x (q6x h.2 (z4x _)) (q6x v5i ih)];simp[cmx]
theorem j6y{ps:List (Td × Tr)}{ts:List Tn}(h:Mts ps ts)(op cl:List UInt8):(q3m op cl ps).flat=some (op++cmx ts++cl):=by
 unfold q3m
 split
 ·rename_i h0;cases h with
  | nil=>rw[z4x];simp[cmx]
  | cons=>simp at h0
 ·rename_i h0;have A:ps≠[]:=fun e=>h0 (by rw[e];rfl)
  rw[v5k,q6x (z4x _) (q6x (by rw[v5j];exact q6x y7x (y7w h A)) (q6x y7x (z4x _)))];simp
theorem g1w{x:Td}{ps:List (Td × Tr)}{ts:List Tn}(h:Mts ps ts)(hx:exN x)(hk:ps.length=kdT x):(q0r x ps).flat=some (q2z x ts):=by
 have E:kdT x=2->∃a b c d,ps=[a,b]/\ts=[c,d]/\Mt a c/\Mt b d:=fun e=>by
  rw[e]at hk;cases h with
  | nil=>simp at hk
  | cons h1 B=>cases B with
   | nil=>simp at hk
   | cons C D=>cases D with
    | nil=>exact⟨_,_,_,_,rfl,rfl,h1,C⟩
    | cons=>simp at hk
 rcases q2c hx with⟨A,_⟩|⟨A,_⟩|⟨A,_⟩|⟨A,_⟩|⟨A,_,_,B⟩|⟨A,_,_,B⟩
 ·rw[show q0r x ps=wdD (q3o x.n.toNat) by simp[q0r,A],show q2z x ts=q3o x.n.toNat by simp[q2z,A]];rfl
 ·rw[show q0r x ps=wdD (btL x.tx) by simp[q0r,A],show q2z x ts=btL x.tx by simp[q2z,A]];rfl
 ·rw[show q0r x ps=q3m (btL x.tx++[40]) [41] ps by simp[q0r,A],show q2z x ts=btL x.tx++40::(cmx ts++[41]) by simp[q2z,A],j6y h];simp
 ·rw[show q0r x ps=q3m [91] [93] ps by simp[q0r,A],show q2z x ts=91::(cmx ts++[93]) by simp[q2z,A],j6y h];simp
 ·obtain⟨a,b,c,d,rfl,rfl,C,D⟩:=E B;rw[show q0r x [a,b]=grD (twD (inD 0 a.1 a.2) (dpD (twD blD (twD (wdD [43,32]) (inD 1 b.1 b.2))))) by simp[q0r,tw2,A],show q2z x [c,d]=brx 0 c++32::43::32::brx 1 d by simp[q2z,two2,A]];rw[v5k,q6x (v5l C 0) (by rw[v5j];exact q6x v5i (q6x (z4x _) (v5l D 1)))];rfl
 ·obtain⟨a,b,c,d,rfl,rfl,C,D⟩:=E B;rw[show q0r x [a,b]=grD (twD (inD 1 a.1 a.2) (dpD (twD blD (twD (wdD [42,32]) (inD 2 b.1 b.2))))) by simp[q0r,tw2,A],show q2z x [c,d]=brx 1 c++32::42::32::brx 2 d by simp[q2z,two2,A]];rw[v5k,q6x (v5l C 1) (by rw[v5j];exact q6x v5i (q6x (z4x _) (v5l D 2)))];rfl
theorem z8y:∀F:Fo,F.ok->F.exs->Mts F.D F.R
 | .nil,_,_=>.nil
 | .cons x k n,hok,hex=>by
  have h1:=z8y k hok.2.1 fun y hy=>hex y (by simp[Fo.N,hy])
  have h2:=z8y n hok.2.2 fun y hy=>hex y (by simp[Fo.N,hy])
  exact .cons ⟨rfl,g1w h1 (hex x (by simp[Fo.N])) (by rw[q6v];exact hok.1)⟩ h2
def Tr.noE:Tr->Prop
 | .leaf x=>x.op≠4
 | .one _ a=>a.noE
 | .two x a b=>x.op=6/\a.noE/\b.noE
theorem v6p{c:UInt8}(h:q2a c=true):q6g c=true:=by
 simp only[q2a,Bool.and_eq_true,decide_eq_true_eq]at h;simp only[q6g,Bool.and_eq_true,decide_eq_true_eq];omega
theorem v5h{c:UInt8}(h:q1x c=true):q6g c=true:=by
 simp only[q1x,Bool.and_eq_true,decide_eq_true_eq]at h;simp only[q6g,Bool.and_eq_true,decide_eq_true_eq];omega
theorem z3u{s:List UInt8}(h1:1<=s.length)(h2:s.length<=20)(h3:∀c∈s,q6g c=true):(wdD s).Wf:=by
 have e:(wbS s).size=s.length:=by rw[<-q0c];rfl
 have A:isW (wbS s)=true:=by
  simp only[isW,Bool.and_eq_true,decide_eq_true_eq,all_eq_true];exact⟨⟨by omega,by omega⟩,h3⟩
 refine⟨?_,rfl⟩;simp only[q1e,A];rfl
theorem v9c:blD.Wf:=⟨rfl,rfl⟩
theorem g0d:sfD.Wf:=⟨rfl,rfl⟩
theorem q7n{a b:Tr}(ha:a.Wf)(hb:b.Wf):(twD a b).Wf:=⟨rfl,rfl,ha,hb⟩
theorem v9d{a:Tr}(ha:a.Wf):(dpD a).Wf:=⟨rfl,rfl,ha⟩
theorem v9e{a:Tr}(ha:a.Wf):(grD a).Wf:=⟨rfl,rfl,ha⟩
theorem v9f{l:Nat}{x:Td}{d:Tr}(h:d.Wf):(inD l x d).Wf:=by
 unfold inD
 split
 ·exact q7n (z3u (by decide) (by decide) (by decide)) (q7n h (z3u (by decide) (by decide) (by decide)))
 ·exact h
theorem g0c:∀ps:List (Td × Tr),(∀p∈ps,p.2.Wf)->ps≠[]->(kdD ps).Wf
 | [p],h,_=>h p (by simp)
 | p::q::r,h,_=>q7n (q7n (h p (by simp)) (z3u (by decide) (by decide) (by decide))) (q7n v9c (g0c (q::r) (fun z hz=>h z (by simp at hz⊢;right;exact hz)) (by simp)))
theorem v3j{op cl:List UInt8}{ps:List (Td × Tr)}(h:∀p∈ps,p.2.Wf)(h1:1<=op.length)(h2:op.length+cl.length<=20)(h3:∀c∈op,q6g c=true)(h4:1<=cl.length)(h5:∀c∈cl,q6g c=true):(q3m op cl ps).Wf:=by
 unfold q3m
 split
 ·refine z3u (by simp;omega) (by simp;omega) fun c A=>?_
  rcases List.mem_append.1 A with A|A
  ·exact h3 c A
  ·exact h5 c A
 ·rename_i h0;exact v9e (q7n (z3u h1 (by omega) h3) (q7n (v9d (q7n g0d (g0c ps h fun e=>h0 (by rw[e];rfl)))) (q7n g0d (z3u h4 (by omega) h5))))
theorem z5h{s:ByteArray}(h:q0o s=true):1<=(btL s).length/\(btL s).length<=8/\∀c∈btL s,q6g c=true:=by
 have A:=q3a h;simp only[q0o,Bool.and_eq_true,decide_eq_true_eq,all_eq_true]at h;exact⟨by rw[q0c];exact h.1.1.1,A,fun c hc=>v6p (h.2 c hc)⟩
theorem g2z{x:Td}{ps:List (Td × Tr)}(h:∀p∈ps,p.2.Wf)(hx:exN x)(hk:ps.length=kdT x):(q0r x ps).Wf:=by
 have C:kdT x=2->∃a b,ps=[a,b]/\a.2.Wf/\b.2.Wf:=fun e=>by
  rw[e]at hk
  match ps,hk with
  | [a,b],_=>exact⟨a,b,rfl,h a (by simp),h b (by simp)⟩
 rcases q2c hx with⟨A,_,L,N,_⟩|⟨A,H,_⟩|⟨A,H,_⟩|⟨A,_⟩|⟨A,_,_,D⟩|⟨A,_,_,D⟩
 ·rw[show q0r x ps=wdD (q3o x.n.toNat) by simp[q0r,A]];have M:=z0s 5 x.n.toNat (by omega);have D:=List.length_pos_iff.2 (k5p x.n.toNat);exact z3u (by omega) (by omega) fun c B=>v5h (z8z _ c B)
 ·obtain⟨J,K,I⟩:=z5h H;rw[show q0r x ps=wdD (btL x.tx) by simp[q0r,A]];exact z3u J (by omega) I
 ·obtain⟨J,K,I⟩:=z5h H;rw[show q0r x ps=q3m (btL x.tx++[40]) [41] ps by simp[q0r,A]];refine v3j h (by simp) (by rw[length_append];simp only[length_cons,length_nil];omega) (fun c B=>?_) (by decide) (by decide);rcases List.mem_append.1 B with B|B
  ·exact I c B
  ·simp at B;subst B;decide
 ·rw[show q0r x ps=q3m [91] [93] ps by simp[q0r,A]];exact v3j h (by decide) (by decide) (by decide) (by decide) (by decide)
 ·obtain⟨a,b,rfl,E,G⟩:=C D;rw[show q0r x [a,b]=grD (twD (inD 0 a.1 a.2) (dpD (twD blD (twD (wdD [43,32]) (inD 1 b.1 b.2))))) by simp[q0r,tw2,A]];exact v9e (q7n (v9f E) (v9d (q7n v9c (q7n (z3u (by decide) (by decide) (by decide)) (v9f G)))))
 ·obtain⟨a,b,rfl,E,G⟩:=C D;rw[show q0r x [a,b]=grD (twD (inD 1 a.1 a.2) (dpD (twD blD (twD (wdD [42,32]) (inD 2 b.1 b.2))))) by simp[q0r,tw2,A]];exact v9e (q7n (v9f E) (v9d (q7n v9c (q7n (z3u (by decide) (by decide) (by decide)) (v9f G)))))
theorem j6g:∀F:Fo,F.ok->F.exs->∀p∈F.D,p.2.Wf
 | .nil,_,_,p,hp=>by cases hp
 | .cons x k n,hok,hex,p,hp=>by
  have h1:=j6g k hok.2.1 fun y hy=>hex y (by simp[Fo.N,hy])
  have h2:=j6g n hok.2.2 fun y hy=>hex y (by simp[Fo.N,hy])
  rcases List.mem_cons.1 hp with rfl|hp
  ·exact g2z h1 (hex x (by simp[Fo.N])) (by rw[q6v];exact hok.1)
  ·exact h2 p hp
theorem v6w{l:Nat}{x:Td}{d:Tr}(h:d.noE):(inD l x d).noE:=by
 unfold inD
 split
 ·exact⟨rfl,by show(1:Int)≠4;decide,rfl,h,by show(1:Int)≠4;decide⟩
 ·exact h
theorem y8n:∀ps:List (Td × Tr),(∀p∈ps,p.2.noE)->(kdD ps).noE
 | [],_=>by show(1:Int)≠4;decide
 | [p],h=>h p (by simp)
 | p::q::r,h=>⟨rfl,⟨rfl,h p (by simp),by show(1:Int)≠4;decide⟩,rfl,by show(2:Int)≠4;decide,y8n (q::r) (fun z hz=>h z (by simp at hz⊢;right;exact hz))⟩
theorem j9a{op cl:List UInt8}{ps:List (Td × Tr)}(h:∀p∈ps,p.2.noE):(q3m op cl ps).noE:=by
 unfold q3m
 split
 ·show(1:Int)≠4;decide
 ·exact⟨rfl,by show(1:Int)≠4;decide,rfl,⟨rfl,by show(3:Int)≠4;decide,y8n ps h⟩,rfl,by show(3:Int)≠4;decide,by show(1:Int)≠4;decide⟩
theorem y0t{f:Td->Tr->Td->Tr->Tr}{ps:List (Td × Tr)}(h:∀p∈ps,p.2.noE)(hf:∀x a y b,a.noE->b.noE->(f x a y b).noE):(tw2 f ps).noE:=by
 unfold tw2
 split
 ·exact hf _ _ _ _ (h _ (by simp)) (h _ (by simp))
 ·show(1:Int)≠4;decide
theorem g2k{x:Td}{ps:List (Td × Tr)}(h:∀p∈ps,p.2.noE):(q0r x ps).noE:=by
 have A:(1:Int)≠4:=by decide
 have B:(2:Int)≠4:=by decide
 unfold q0r
 split
 ·exact A
 ·split
  ·exact A
  ·split
   ·exact j9a h
   ·split
    ·exact j9a h
    ·split
     ·exact y0t h fun x a y b ha hb=>⟨rfl,v6w ha,rfl,B,rfl,A,v6w hb⟩
     ·exact y0t h fun x a y b ha hb=>⟨rfl,v6w ha,rfl,B,rfl,A,v6w hb⟩
theorem k5o:∀F:Fo,∀p∈F.D,p.2.noE
 | .nil,p,hp=>by cases hp
 | .cons x k n,p,hp=>by
  rcases List.mem_cons.1 hp with rfl|hp
  ·exact g2k (k5o k)
  ·exact k5o n p hp
def z4d(ps:List (Td × Tr)):Nat:=(ps.map fun p=>p.2.N.length+5).sum
theorem q2k(p:Td × Tr)(r:List (Td × Tr)):z4d (p::r)=p.2.N.length+5+z4d r:=by simp[z4d]
theorem j2f(l:Nat)(x:Td)(d:Tr):(inD l x d).N.length<=d.N.length+4:=by
 unfold inD
 split
 ·simp only[Tr.N,length_cons,length_append,length_nil];omega
 ·omega
theorem j2g:∀ps:List (Td × Tr),(kdD ps).N.length<=z4d ps+1
 | []=>by simp[kdD,z4d,Tr.N]
 | [p]=>by simp only[kdD,q2k];omega
 | p::q::r=>by
  have ih:=j2g (q::r)
  show(twD (twD p.2 (wdD [44])) (twD blD (kdD (q::r)))).N.length<=_
  rw[q2k];simp only[Tr.N,length_cons,length_append,length_nil];omega
theorem g2l{x:Td}{ps:List (Td × Tr)}:(q0r x ps).N.length<=15+z4d ps:=by
 have A:∀op cl:List UInt8,(q3m op cl ps).N.length<=15+z4d ps:=fun op cl=>by
  have G:=j2g ps;unfold q3m
  split
  ·simp only[Tr.N,length_cons,length_nil];omega
  ·simp only[Tr.N,length_cons,length_append,length_nil];omega
 have C:∀f:Td->Tr->Td->Tr->Tr,(∀x a y b,(f x a y b).N.length<=15+a.N.length+b.N.length)->(tw2 f ps).N.length<=15+z4d ps:=fun f hf=>by
  unfold tw2
  split
  ·rename_i a b
   have:=hf a.1 a.2 b.1 b.2
   rw[q2k,q2k];omega
  ·simp only[Tr.N,length_cons,length_nil];omega
 have B:∀(l m:Nat)(sg:List UInt8)(x:Td)(a:Tr)(y:Td)(b:Tr),(grD (twD (inD l x a) (dpD (twD blD (twD (wdD sg) (inD m y b)))))).N.length<=15+a.N.length+b.N.length:=fun l m sg x a y b=>by
  have D:=j2f l x a;have E:=j2f m y b;simp only[Tr.N,length_cons,length_append,length_nil];omega
 unfold q0r
 split
 ·simp only[Tr.N,length_cons,length_nil];omega
 ·split
  ·simp only[Tr.N,length_cons,length_nil];omega
  ·split
   ·exact A _ _
   ·split
    ·exact A _ _
    ·split
     ·exact C _ (B 0 1 [43,32])
     ·exact C _ (B 1 2 [42,32])
theorem z6v:∀F:Fo,z4d F.D<=20*F.N.length
 | .nil=>by simp[Fo.D,z4d]
 | .cons x k n=>by
  have h1:=z6v k;have h2:=z6v n;have h3:=g2l (x:=x) (ps:=k.D);rw[Fo.D,q2k,Fo.N];simp only[length_cons,length_append];omega
end Go.Proofs.YtchdplceopegoaaGreatDoor
