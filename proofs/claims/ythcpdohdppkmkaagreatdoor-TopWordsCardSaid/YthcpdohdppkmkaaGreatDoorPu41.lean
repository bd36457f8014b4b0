import Derived.Test.YthcpdohdppkmkaaGreatDoorPu40
open Go.Proofs.Tryz
namespace Go.Proofs.YthcpdohdppkmkaaGreatDoor
open Go Go.RowKit
def plB(w:Wd):Bool:=w != [40]&&w != [41]&&w.headD 0 != 35
abbrev plF(ws:List Wd):List Wd:=ws.filter plB
theorem k3p(v:Wd)(d:UInt8):z4a (v++[d])=z4a v*10+(d.toNat-48):=by
 simp[z4a,List.foldl_append]
theorem j7v{d:UInt8}(h:q4d d=true):48<=d.toNat/\d.toNat<=57:=by
 simp only[q4d,Bool.and_eq_true,decide_eq_true_eq]at h;omega
theorem k9s{d:UInt8}(h:q4d d=true):UInt8.ofNat (48+(d.toNat-48))=d:=by
 have h1:=j7v h;apply UInt8.toNat_inj.1;rw[UInt8.toNat_ofNat'];omega
theorem j7l:∀(n:Nat)(w:Wd),w.length=n->(∀b∈w,q4d b=true)->w≠[]->(w.headD 0≠48\/w.length=1)->q3q (z4a w)=w
 | n,w,hl,hf,hne,hc=>by
  rcases List.eq_nil_or_concat w with e|⟨v,d,e⟩
  ·exact absurd e hne
  ·have hd:q4d d=true:=hf d (by rw[e];simp);have h1:=j7v hd;by_cases hv:v=[]
   ·subst hv;rw[e];have e2:z4a ([]++[d])=d.toNat-48:=by rw[k3p];simp[z4a]
    rw[List.concat_eq_append,e2,q3q,dif_pos (by omega),k9s hd];rfl
   ·have hvl:=List.length_pos_iff.2 hv;have hwl:w.length=v.length+1:=by rw[e,List.concat_eq_append];simp
    have hh:v.headD 0≠48:=by
     rcases hc with hc|hc
     ·rw[e,List.concat_eq_append]at hc;cases v with
      | nil=>exact absurd rfl hv
      | cons a r=>exact hc
     ·omega
    have ih:=j7l v.length v rfl (fun b hb=>hf b (by rw[e];simp[hb])) hv (.inl hh)
    have hp:z4a v≠0:=fun e0=>by
     rw[e0]at ih;have e48:q3q 0=[48]:=by rw[q3q,dif_pos (by omega)];rfl
     rw[e48]at ih;rw[<-ih]at hh;exact hh rfl
    rw[e,List.concat_eq_append,k3p,q3q,dif_neg (by omega)];rw[show(z4a v*10+(d.toNat-48)) / 10=z4a v by omega,show(z4a v*10+(d.toNat-48)) % 10=d.toNat-48 by omega,ih,k9s hd]
termination_by n=>n
decreasing_by rw[<-hl,hwl];omega
theorem y8i{w:Wd}(h:q3v w)(hn:z7w w=true):q3q (z4a w)=w:=by
 have h1:=(v3a h hn).1;obtain⟨c,r,rfl,_,ho,hl,_⟩:=h;have hf:q4d c=true:=hn;have hlow:q3w c=false:=z9c hf;simp only[q5f,hlow,hf,if_true,Bool.false_eq_true,if_false,Bool.and_eq_true,decide_eq_true_eq,Bool.or_eq_true,bne_iff_ne,ne_eq,beq_iff_eq]at ho;simp only[q0t,hlow,hf,if_true,Bool.false_eq_true,if_false]at hl;refine j7l _ _ rfl h1 (by simp) ?_;rcases ho.2 with h2|h2
 ·exact .inl h2
 ·refine .inr ?_;simp only[List.length_cons]at hl⊢;omega
theorem y2p{w:Wd}(h:z7w w=true):plB w=true:=by
 have h3:=v0s h;simp only[z2p,bne_iff_ne,ne_eq]at h3;simp only[plB,Bool.and_eq_true,bne_iff_ne,ne_eq];refine⟨⟨fun e=>?_,fun e=>?_⟩,h3⟩
 ·rw[e,y2k]at h;cases h
 ·rw[e]at h;revert h;decide
theorem z2s{w:Wd}(h:nmW w=true):plB w=true:=by
 have h3:=z3z h;simp only[z2p,bne_iff_ne,ne_eq]at h3;simp only[plB,Bool.and_eq_true,bne_iff_ne,ne_eq];refine⟨⟨fun e=>?_,fun e=>?_⟩,h3⟩
 ·rw[e,v0m]at h;cases h
 ·rw[e]at h;revert h;decide
theorem v1p(k:Nat):plB (sgn k)=true:=by
 unfold sgn
 split<;>rfl
theorem z6s{w:Wd}(h:plB w=true)(ts:List Wd):plF (w::ts)=w::plF ts:=List.filter_cons_of_pos h
theorem k3w{w:Wd}(h:plB w=false)(ts:List Wd):plF (w::ts)=plF ts:=List.filter_cons_of_neg (by simp[h])
theorem z0y(a b:List Wd):plF (a++b)=plF a++plF b:=List.filter_append ..
theorem j1d(l:Nat)(t:Tn):plF (brk l t)=plF t.tk:=by
 unfold brk
 split
 ·rw[k3w (by decide),z0y,k3w (by decide)];simp[plF]
 ·rfl
theorem g2j{k:Nat}(hk:k<2)(s t:Tn):plF (q0m (sgT k) [s,t]).tk=plF s.tk++sgn k::plF t.tk:=by
 rcases Nat.lt_or_ge k 1 with h|h
 ·obtain rfl:k=0:=by omega
  have e:(q0m (sgT 0) [s,t]).tk=brk 0 s++sgn 0::brk 1 t:=rfl;rw[e,z0y,z6s (v1p 0),j1d,j1d]
 ·obtain rfl:k=1:=by omega
  have e:(q0m (sgT 1) [s,t]).tk=brk 1 s++sgn 1::brk 2 t:=rfl;rw[e,z0y,z6s (v1p 1),j1d,j1d]
theorem k9l:∀(ks:List Tn)(t:Tn),ks≠[]->cmk (ks++[t])=cmk ks++[44]::t.tk
 | [],_,h=>absurd rfl h
 | [s],t,_=>by
  rw[List.singleton_append,q3z,cmt,q3z,q3z];simp[cmt]
 | s::u::r,t,_=>by
  have ih:=k9l (u::r) t (by simp);rw[List.cons_append,List.cons_append,q3z,cmt,<-List.cons_append,ih,q3z s (u::r),cmt];simp
theorem g4z(t:Tn):cmk [t]=t.tk:=by rw[q3z,cmt,List.append_nil]
def g4n(j:Job)(ts:List Wd):Rs->Prop
 | .bad _=>True
 | .ok m ns u=>(∀w∈ts,z7w w=true->q3q (z4a w)=w)->match j with
  | .level _=>∃t,q6l ns t/\plF t.tk++plF u=plF ts
  | .single=>∃t,q6l ns t/\plF t.tk++plF u=plF ts
  | .loop k acc=>k<2->∀t0,q6l acc t0->∃t,q6l ns t/\plF t.tk++plF u=plF t0.tk++plF ts
  | .args e n acc=>∀F:Fo,F.ok->F.len=n->F.N=acc->(∀x∈acc,x.op<7)->∃G:Fo,G.ok/\G.len=m/\G.N=ns/\(∀x∈ns,x.op<7)/\plF (cmk G.R)++(plF [e]++plF u)=plF (cmk F.R)++plF ts
theorem j1h{j:Job}{ts:List Wd}{r:Rs}(h:PR j ts r):g4n j ts r:=by
 induction h with
 | lev2 _ ih=>rename_i r _;cases r with
  | bad=>trivial
  | ok m ns u=>exact ih
 | levB=>trivial
 | levO h0 h1 _ ih1 ih2=>rename_i r _;cases r with
  | bad=>trivial
  | ok m ns u=>
   intro hd;obtain⟨t0,a1,a2⟩:=ih1 hd;obtain⟨t,b1,b2⟩:=ih2 (fun w hw=>hd w ((q4z h1).1.subset hw)) h0 t0 a1;exact⟨t,b1,by rw[b2,a2]⟩
 | lopE _=>exact fun _ _ t0 h=>⟨t0,h,rfl⟩
 | lopB=>trivial
 | lopO h1 _ ih1 ih2=>rename_i k acc ts m ns u r _;cases r with
  | bad=>trivial
  | ok m ns u=>
   intro hd hk t0 h0;obtain⟨t1,a1,a2⟩:=ih1 (fun w hw=>hd w (by simp[hw]));obtain⟨t,b1,b2⟩:=ih2 (fun w hw=>hd w (List.mem_cons_of_mem _ ((q4z h1).1.subset hw))) hk _ (two1 hk h0 a1);refine⟨t,b1,?_⟩;rw[b2,g2j hk,z6s (v1p _),<-a2];simp
 | sinN=>trivial
 | sPB=>trivial
 | sPC _ ih=>
  intro hd;obtain⟨t,a1,a2⟩:=ih (fun w hw=>hd w (by simp[hw]));refine⟨t,a1,?_⟩;rw[k3w (w:=[41]) (by decide)]at a2;rw[k3w (w:=[40]) (by decide)];exact a2
 | sPX=>trivial
 | sLB=>trivial
 | sLO _ ih=>
  rename_i ts n ns u _;intro hd;obtain⟨G,g1,g2,g3,g4,g5⟩:=ih (fun w hw=>hd w (by simp[hw])) .nil trivial rfl rfl (fun x hx=>by cases hx);have hkd:kdT (lsT n)=n:=by simp[kdT,lsT]
  refine⟨q0m (lsT n) G.R,?_,?_⟩
  ·rw[<-g3];exact v0p g1 (by rw[hkd];exact g2) (by show(4:Int)<7;omega) (by rw[g3];exact g4)
  ·have e:(q0m (lsT n) G.R).tk=[91]::(cmk G.R++[[93]]):=by simp[q0m,q2w,lsT]
   have e0:plF (cmk Fo.nil.R)=[]:=rfl;rw[e0,List.nil_append]at g5;rw[e,z6s (w:=[91]) (by decide),z0y,z6s (w:=[91]) (by decide),<-g5];simp
 | sNum h0=>
  rename_i w ts;intro hd;refine⟨q0m (j5b w) [],v7c (by simp[kdT,j5b]) (by show(1:Int)<7;omega),?_⟩
  have e:(q0m (j5b w) []).tk=[w]:=by
   have:=hd w (by simp) h0
   simp[q0m,q2w,j5b,this]
  rw[e,z6s (y2p h0),z6s (y2p h0)];rfl
 | sName h0 _=>
  rename_i w ts _;intro hd;refine⟨q0m (nmT w) [],v7c (by simp[kdT,nmT]) (by show(2:Int)<7;omega),?_⟩;have e:(q0m (nmT w) []).tk=[w]:=by simp[q0m,q2w,nmT,btL,wbS]
  rw[e,z6s (z2s h0),z6s (z2s h0)];rfl
 | sCB=>trivial
 | sCO h0 _ ih=>
  rename_i w ts n ns u _;intro hd;obtain⟨G,g1,g2,g3,g4,g5⟩:=ih (fun w hw=>hd w (by simp[hw])) .nil trivial rfl rfl (fun x hx=>by cases hx);have hkd:kdT (clT w n)=n:=by simp[kdT,clT]
  refine⟨q0m (clT w n) G.R,?_,?_⟩
  ·rw[<-g3];exact v0p g1 (by rw[hkd];exact g2) (by show(3:Int)<7;omega) (by rw[g3];exact g4)
  ·have e:(q0m (clT w n) G.R).tk=w::[40]::(cmk G.R++[[41]]):=by simp[q0m,q2w,clT,btL,wbS]
   have e0:plF (cmk Fo.nil.R)=[]:=rfl;rw[e0,List.nil_append]at g5;rw[e,z6s (z2s h0),k3w (w:=[40]) (by decide),z0y,z6s (z2s h0),k3w (w:=[40]) (by decide),<-g5];simp
 | sBad=>trivial
 | aEnd=>
  rename_i e n acc ts;intro _ F hF hl hn ha;refine⟨F,hF,hl,hn,ha,?_⟩;rw[<-z0y,List.singleton_append]
 | aSep=>trivial
 | aB0=>trivial
 | aO0 _ h1 _ ih1 ih2=>rename_i r _ _;cases r with
  | bad=>trivial
  | ok m ns u=>
   intro hd F hF hl hn ha;obtain⟨t,a1,a2⟩:=ih1 hd;obtain⟨G,g1,g2,g3,g4,g5⟩:=z9i hF hn ha a1;obtain⟨H,k1,k2,k3,k4,h5⟩:=ih2 (fun w hw=>hd w ((q4z h1).1.subset hw)) G g1 (by omega) g3 g4;have hnil:F.R=[]:=List.eq_nil_of_length_eq_zero (by rw[q2s];exact hl);rw[g5,hnil,List.nil_append,g4z,a2]at h5;refine⟨H,k1,k2,k3,k4,?_⟩;rw[h5,hnil];rfl
 | aB=>trivial
 | aO _ h1 _ ih1 ih2=>rename_i r _ _;cases r with
  | bad=>trivial
  | ok m ns u=>
   intro hd F hF hl hn ha;obtain⟨t,a1,a2⟩:=ih1 (fun w hw=>hd w (by simp[hw]));obtain⟨G,g1,g2,g3,g4,g5⟩:=z9i hF hn ha a1;obtain⟨H,k1,k2,k3,k4,h5⟩:=ih2 (fun w hw=>hd w (List.mem_cons_of_mem _ ((q4z h1).1.subset hw))) G g1 (by omega) g3 g4
   have hne:F.R≠[]:=fun e=>by
    have:=q2s F
    rw[e,hl]at this;simp at this
   rw[g5,k9l _ _ hne,z0y,z6s (w:=[44]) (by decide),List.append_assoc,List.cons_append,a2]at h5;refine⟨H,k1,k2,k3,k4,?_⟩;rw[h5,z6s (w:=[44]) (by decide)]
def plT(t:List Td):List Wd:=plF (q5l t)
theorem j1g(X:Wd):plT [ntT X]=[]:=by
 have hk:(Fo.nil).len=kdT (ntT X):=by simp[kdT,ntT,Fo.len]
 have e:q5l [ntT X]=stK (ntT X) []:=(q7a (x:=ntT X) (F:=.nil) trivial hk).2;rw[plT,e];have e2:stK (ntT X) []=[if(ntT X).tx.size=0 then [35]else [35,32]++btL (ntT X).tx]:=by simp[stK,ntT]
 rw[e2]
 split<;>rw[k3w (by simp[plB])]<;>rfl
theorem y2o{x:Td}{ns:List Td}{t:Tn}(h:q6l ns t)(hk:kdT x=1):q5l (x::ns)=stK x [t]:=by
 obtain⟨F,f1,f2,f3,_⟩:=h;rw[<-f3,(q7a (x:=x) (F:=F) f1 (by rw[<-q2s,f2,hk];rfl)).2,f2]
theorem y7r{nm:Wd}{ns:List Td}{t:Tn}(h:q6l ns t)(hn:nmW nm=true):plT (z3x nm::ns)=q9l::nm::[61]::(plF t.tk++[[59]]):=by
 have e:stK (z3x nm) [t]=q9l::nm::[61]::(t.tk++[[59]]):=by simp[stK,z3x,hdK,btL,wbS,q9l]
 rw[plT,y2o h (by simp[kdT,z3x]),e,z6s (by decide),z6s (z2s hn),z6s (by decide),z0y];rfl
theorem g2l{ns:List Td}{t:Tn}(h:q6l ns t):plT (doT::ns)=plF t.tk++[[59]]:=by
 have e:stK doT [t]=t.tk++[[59]]:=by simp[stK,doT,hdK]
 rw[plT,y2o h (by simp[kdT,doT]),e,z0y];rfl
theorem v9a{pv:Bool}{acc:List (List Td)}{ws:List Wd}{r:Rp}(h:PG pv acc ws r):∀ps,r=.ok ps->(∀w∈ws,z7w w=true->q3q (z4a w)=w)->(pv=true->∃a X,acc=a++[[ntT X]])->acc.flatMap plT++plF ws=ps.flatMap plT:=by
 induction h with
 | done=>
  intro ps e _ _;cases e;simp
 | note h0 _ ih=>
  rename_i pv acc w ts r _;intro ps e hd hp
  have hpl:plB w=false:=by
   simp only[plB,h0];simp
  have h1:=ih ps e (fun x hx=>hd x (by simp[hx])) (fun _=>by
   unfold k5g
   split
   ·exact⟨_,_,rfl⟩
   ·exact⟨_,_,rfl⟩)
  rw[<-h1,k3w hpl]
  congr 1
  unfold k5g
  split
  ·rename_i hpv;obtain⟨a,X,rfl⟩:=hp hpv;rw[List.dropLast_concat];simp[j1g]
  ·simp[j1g]
 | letN=>intro ps e;cases e
 | letE=>intro ps e;cases e
 | letB=>intro ps e;cases e
 | letX=>intro ps e;cases e
 | letO hn hr _ ih=>
  intro ps e hd _;obtain⟨t,a1,a2⟩:=j1h hr (fun w hw=>hd w (by simp[hw]))
  have h1:=ih ps e (fun w hw=>hd w (by
   have:=(q4z hr).1.subset (List.mem_cons_of_mem _ hw)
   simp[this])) (fun h=>by cases h)
  rw[<-h1,z6s (w:=q9l) (by decide),z6s (z2s hn),z6s (w:=[61]) (by decide),<-a2,z6s (w:=[59]) (by decide)];simp[y7r a1 hn]
 | doB=>intro ps e;cases e
 | doX=>intro ps e;cases e
 | doO _ _ hr _ ih=>
  intro ps e hd _;obtain⟨t,a1,a2⟩:=j1h hr hd;have h1:=ih ps e (fun w hw=>hd w ((q4z hr).1.subset (List.mem_cons_of_mem _ hw))) (fun h=>by cases h);rw[<-h1,<-a2,z6s (w:=[59]) (by decide)];simp[g2l a1]
theorem z7y{s:ByteArray}{ps:List (List Td)}{k:Int}(h:q2h s ps k 0):plF (q1d (btL s))=ps.flatMap plT:=by
 generalize hz:(0:Int)=z at h;cases h with
 | lex h1=>exact absurd hz.symm h1
 | bad=>cases hz
 | full _ _ h1=>exact absurd hz.symm h1
 | ok h1 h2 h3=>
  have:=v9a h2 ps rfl (fun w hw hn=>y8i (z6d _ w hw) hn) (fun h=>by cases h)
  simpa using this
theorem v1d:∀{p:List (List Td)}{prev:Int}{q:List (List Td)},okP prev p->okP 0 q->p≠[]->(∀t u,p.getLast?=some t->q.head?=some u->¬(opT t=9/\opT u=9))->okP prev (p++q)
 | [],_,_,_,_,h,_=>absurd rfl h
 | [t],prev,q,hp,hq,_,hn=>by
  refine⟨hp.1,hp.2.1,?_⟩;show okP (opT t) q;cases q with
  | nil=>trivial
  | cons u r=>exact⟨hq.1,fun e=>hn t u rfl rfl ⟨e.2,e.1⟩,hq.2.2⟩
 | t::u::r,prev,q,hp,hq,_,hn=>⟨hp.1,hp.2.1,v1d (p:=u::r) hp.2.2 hq (by simp) (fun a b ha hb=>hn a b (by rw[List.getLast?_cons_cons];exact ha) hb)⟩
theorem v1v{p q:List (List Td)}(hp:(q0q p).2=0)(hq:(q0q q).2=0)(hne:p≠[])(hl:p.length+q.length<=20)(hn:∀t u,p.getLast?=some t->q.head?=some u->¬(opT t=9/\opT u=9)):(q0q (p++q)).2=0:=by
 rw[q0q,if_neg (by rw[List.length_append];omega),j1i _ _ _ (v1d (q2y hp).2 (q2y hq).2 hne hn)]
theorem y5e(n:Nat)(p q:List (List Td)):q3k n (p++q)=q3k n p++q3k n q:=by simp[q3k]
theorem v6r{ps:List (List Td)}(h:(q0q ps).2=0)(n:Nat):q2h (wbS (q3k n ps)) ps 0 0\/∃k,q2h (wbS (q3k n ps)) [] k 3:=by
 obtain⟨_,hok⟩:=q2y h;obtain⟨ws,hf⟩:=k7g n ps 0 hok;obtain⟨a1,a2⟩:=j8l hok hf 0;have e:btL (wbS (q3k n ps))=q3k n ps:=rfl;have hw:q1d (q3k n ps)=ws:=a1
 have hle:q4s (q3k n ps)=0\/q4s (q3k n ps)=3:=by
  unfold q4s;rw[a2]
  split
  ·exact .inr rfl
  ·rw[if_neg (by simp)]
   split
   ·exact .inr rfl
   ·exact .inl rfl
 rcases hle with hl|hl
 ·refine .inl (.ok (by rw[e];exact hl) ?_ h);rw[e,hw]
  have:=j8m hf 0 false [] hok (fun h=>by cases h)
  simpa using this
 ·right;have h3:=q2h.lex (s:=wbS (q3k n ps)) (by rw[e,hl];decide);rw[e,hl]at h3;exact⟨_,h3⟩
theorem q3c{s:ByteArray}{ps:List (List Td)}{k:Int}(h:q2h s ps k 0):q4s (btL s)=0/\PG false [] (q1d (btL s)) (.ok ps)/\(q0q ps).2=0:=by
 generalize hz:(0:Int)=z at h;cases h with
 | lex h1=>exact absurd hz.symm h1
 | bad=>cases hz
 | full _ _ h1=>exact absurd hz.symm h1
 | ok h1 h2 h3=>exact⟨h1,h2,h3⟩
theorem y8b{s:ByteArray}{ps:List (List Td)}{k:Int}(h:q2h s ps k 0)(hl:(spc (q1d (btL s))).length<=60000):q2h (wbS (spc (q1d (btL s)))) ps 0 0:=by
 obtain⟨h0,hg,hf⟩:=q3c h;obtain⟨a1,a2⟩:=y2b (q1d (btL s)) 0 (z6d _);have e:btL (wbS (spc (q1d (btL s))))=spc (q1d (btL s)):=rfl;have hw:q1d (spc (q1d (btL s)))=q1d (btL s):=a2;have h5:=(q4v h0).2.2;refine .ok ?_ (by rw[e,hw];exact hg) hf;rw[e];unfold q4s;rw[if_neg (by omega),a1,if_neg (by simp),hw,if_neg (by omega)]
theorem v8x{s:ByteArray}{ps:List (List Td)}{k:Int}(h:q2h s ps k 0):q2h (wbS (q1o ps)) ps 0 0:=by
 obtain⟨h0,hg,hf⟩:=q3c h;have h4:=v1m hg ps rfl;have h5:=(q4v h0).2.2;have h6:q3r ([]:List (List Td))=0:=rfl;obtain⟨p1,p2⟩:=y7t hf;have e:btL (wbS (q1o ps))=q1o ps:=rfl;refine .ok (by rw[e,p2,if_neg (by omega)]) ?_ hf;rw[e,p1]
 have:=q8s ps 0 false [] (q2y hf).2 (fun h=>by cases h)
 simpa using this
def y2z(ts:List Tn):Nat:=(ts.map fun t=>t.tk.length+2).sum
theorem q8a(t:Tn)(r:List Tn):y2z (t::r)=t.tk.length+2+y2z r:=by simp[y2z]
theorem z8t(l:Nat)(t:Tn):(brk l t).length<=t.tk.length+2:=by
 unfold brk
 split
 ·simp
 ·omega
theorem j6t:∀ts:List Tn,(cmk ts).length<=y2z ts
 | []=>Nat.zero_le _
 | t::r=>by
  have ih:=j6t r;rw[q3z,q8a,List.length_append];cases r with
  | nil=>simp[cmt];omega
  | cons u z=>
   simp only[cmt,List.length_cons];omega
theorem v3k(f:Tn->Tn->List Wd)(hf:∀a b,(f a b).length<=a.tk.length+b.tk.length+5):∀ts:List Tn,(two2 f ts).length<=y2z ts+1
 | []=>by simp[two2]
 | [_]=>by simp[two2]
 | [a,b]=>by
  have:=hf a b
  rw[q8a,q8a]
  show(f a b).length<=_
  omega
 | _::_::_::_=>by simp[two2]
theorem g2z(x:Td)(ts:List Tn):(q2w x ts).length<=3+y2z ts:=by
 have hc:=j6t ts;unfold q2w
 split
 ·simp;omega
 ·split
  ·simp;omega
  ·split
   ·simp;omega
   ·split
    ·simp;omega
    ·split
     ·have:=v3k (fun a b=>brk 0 a++[43]::brk 1 b) (fun a b=>by
       have h1:=z8t 0 a;have h2:=z8t 1 b
       simp;omega) ts
      omega
     ·have:=v3k (fun a b=>brk 1 a++[42]::brk 2 b) (fun a b=>by
       have h1:=z8t 1 a;have h2:=z8t 2 b
       simp;omega) ts
      omega
theorem k8r:∀F:Fo,y2z F.R<=5*F.N.length
 | .nil=>by simp[Fo.R,y2z]
 | .cons x k n=>by
  have h1:=k8r k;have h2:=k8r n;have h3:=g2z x k.R;rw[Fo.R,q8a,Fo.N];simp only[q0m,List.length_cons,List.length_append];omega
theorem g2v{t:List Td}(h:q0d t=0)(h9:opT t≠9):(q5l t).length<=205:=by
 have h40:=(q2o h).1;obtain⟨x,y,k,rfl,hok,_,hk,hx⟩:=q7b h h9;rw[(q7a hok hk).2];have h1:=k8r (.cons y k .nil);rw[Fo.R,q8a]at h1;simp only[List.length_cons]at h40
 have h2:(hdK (Fo.cons y k .nil).R).length<=200:=by
  show(q0m y k.R).tk.length<=200
  omega
 unfold stK
 split
 ·simp only[List.length_cons,List.length_append,List.length_nil];omega
 ·split
  ·simp only[List.length_cons,List.length_append,List.length_nil];omega
  ·simp
theorem j1k{t:List Td}(h:q0d t=0)(h9:opT t≠9){u:List Int}{r:List UInt8}(hs:(q0n t).show u=.ok r):r.length<=20000:=by
 have h1:=y1l h h9 (j1l hs);have h2:=g2v h h9;have h3:90*(q5l t).length<=90*205:=Nat.mul_le_mul_left _ h2;omega
theorem j1p{t u:List Td}(ht:q0d t=0)(hu:q0d u=0)(h:q3g t=q3g u):t=u:=by
 have ok1:∀{v:List Td},q0d v=0->okP 0 [v]:=fun{v}hv=>by
  refine⟨hv,?_,trivial⟩;rintro⟨_,e⟩;cases e
 have e1:q1o [t]=q1o [u]:=by simp[q1o,h]
 obtain⟨a1,_⟩:=z9s [t] 0 0 (ok1 ht);obtain⟨b1,_⟩:=z9s [u] 0 0 (ok1 hu);rw[e1,b1]at a1;have p1:=q8s [t] 0 false [] (ok1 ht) (fun h=>by cases h);have p2:=q8s [u] 0 false [] (ok1 hu) (fun h=>by cases h);rw[a1]at p2
 have:=q9d p1 p2
 simp only[List.nil_append,Rp.ok.injEq,List.cons.injEq,and_true]at this;exact this
def frs:List Wd->List Wd->Nat
 | _,[]=>0
 | known,t::r=>(if t∈known then 0 else 1)+frs (known++[t]) r
theorem y1p:∀(p known:List Wd),frs known p<=p.length
 | [],_=>Nat.le_refl _
 | t::r,known=>by
  have:=y1p r (known++[t])
  rw[frs,List.length_cons]
  split<;>omega
def frP(p old:List (List Td)):Nat:=frs (old.map q3g) (p.map q3g)
theorem g0u(p old:List (List Td)):frP p old<=p.length:=by
 have:=y1p (p.map q3g) (old.map q3g)
 rwa[List.length_map]at this
theorem g0w{p:List Wd}{i:Nat}(h:i<p.length)(old:List Wd):frs (old++p.take i) (p.drop i)=(if p[i]∈old\/p[i]∈p.take i then 0 else 1)+frs (old++p.take (i+1)) (p.drop (i+1)):=by
 rw[List.drop_eq_getElem_cons h,frs,List.take_succ_eq_append_getElem h];simp only[List.mem_append,List.append_assoc]
def fdL:List UInt8->List UInt8->Nat->Int
 | [],[],_=>-1
 | [],c::_,l=>if c=10 then(l:Int)+1 else l
 | c::_,[],l=>if c=10 then(l:Int)+1 else l
 | a::r,b::s,l=>if a=b then fdL r s (if a=10 then l+1 else l)else l
theorem z9b:∀(a:List UInt8)(l:Nat),fdL a a l=-1
 | [],_=>rfl
 | a::r,l=>by rw[fdL,if_pos rfl];exact z9b r _
def cmn{α:Type}[DecidableEq α]:List α->List α->Nat
 | x::a,y::b=>if x=y then cmn a b+1 else 0
 | _,_=>0
theorem z3y(c:UInt8)(r:List UInt8):∃h t,lns r=h::t/\lns (c::r)=if c=10 then []::h::t else(c::h)::t:=by
 cases hr:lns r with
 | nil=>exact absurd hr (j0l r)
 | cons h t=>
  refine⟨h,t,rfl,?_⟩;rw[lns,hr];by_cases hc:c=10
  ·rw[if_pos hc,if_pos (by simp[hc])]
  ·rw[if_neg hc,if_neg (by simp[hc])];rfl
theorem j6v:∀(a b:List UInt8)(l:Nat),a≠b->((l+cmn (lns a) (lns b):Nat):Int)=fdL a b l
 | [],[],_,h=>absurd rfl h
 | [],c::r,l,_=>by
  obtain⟨h,t,_,e⟩:=z3y c r;rw[e,fdL];by_cases hc:c=10
  ·rw[if_pos hc,if_pos hc];simp[lns,cmn]
  ·rw[if_neg hc,if_neg hc];simp[lns,cmn]
 | c::r,[],l,_=>by
  obtain⟨h,t,_,e⟩:=z3y c r;rw[e,fdL];by_cases hc:c=10
  ·rw[if_pos hc,if_pos hc];simp[lns,cmn]
  ·rw[if_neg hc,if_neg hc];simp[lns,cmn]
 | x::a,y::b,l,h=>by
  obtain⟨h1,t1,e1,f1⟩:=z3y x a;obtain⟨h2,t2,e2,f2⟩:=z3y y b;rw[f1,f2,fdL];by_cases hxy:x=y
  ·subst hxy;have hne:a≠b:=fun e=>h (by rw[e])
   rw[if_pos rfl];by_cases hx:x=10
   ·have ih:=j6v a b (l+1) hne;rw[e1,e2]at ih;rw[if_pos hx,if_pos hx,if_pos hx,<-ih,cmn,if_pos rfl];omega
   ·have ih:=j6v a b l hne;rw[e1,e2]at ih;rw[if_neg hx,if_neg hx,if_neg hx,<-ih,cmn,cmn];simp
  ·rw[if_neg hxy]
   have h0:cmn (if x=10 then []::h1::t1 else(x::h1)::t1) (if y=10 then []::h2::t2 else(y::h2)::t2)=0:=by
    by_cases hx:x=10
    ·have hy:y≠10:=fun e=>hxy (by rw[hx,e])
     rw[if_pos hx,if_neg hy,cmn,if_neg (by simp)]
    ·by_cases hy:y=10
     ·rw[if_neg hx,if_pos hy,cmn,if_neg (by simp)]
     ·rw[if_neg hx,if_neg hy,cmn,if_neg (by simp[hxy])]
   rw[h0];rfl
theorem j6w{α β:Type}[DecidableEq α] [DecidableEq β](f:α->β)(hf:∀x y,f x=f y->x=y):∀a b:List α,cmn (a.map f) (b.map f)=cmn a b
 | [],b=>by simp[cmn]
 | x::a,[]=>by simp[cmn]
 | x::a,y::b=>by
  rw[List.map_cons,List.map_cons,cmn,cmn,j6w f hf a b];by_cases h:x=y
  ·rw[if_pos h,if_pos (by rw[h])]
  ·rw[if_neg h,if_neg (fun e=>h (hf x y e))]
theorem y1j{α:Type}[DecidableEq α]:∀(a b:List α)(n:Nat),a.take n=b.take n->n<=a.length->n<=b.length->(∀(h1:n<a.length)(h2:n<b.length),a[n]≠b[n])->cmn a b=n
 | [],b,n,_,h,_,_=>by
  have:n=0:=Nat.le_zero.1 h
  subst this;simp[cmn]
 | x::a,[],n,_,_,h,_=>by
  have:n=0:=Nat.le_zero.1 h
  subst this;simp[cmn]
 | x::a,y::b,0,_,_,_,hd=>by
  have:=hd (by simp) (by simp)
  rw[cmn,if_neg (by simpa using this)]
 | x::a,y::b,n+1,ht,ha,hb,hd=>by
  rw[List.take_succ_cons,List.take_succ_cons]at ht;obtain⟨rfl,hu⟩:=List.cons.inj ht
  rw[cmn,if_pos rfl,y1j a b n hu (by simpa using ha) (by simpa using hb) (fun h1 h2=>by
   have:=hd (by simpa using h1) (by simpa using h2)
   simpa using this)]
theorem y6m(x y:List UInt8)(h:(⟨x.toArray⟩:ByteArray)=⟨y.toArray⟩):x=y:=by
 have:=congrArg (fun b:ByteArray=>b.data.toList) h
 simpa using this
theorem j6u(a b:ByteArray)(n:Nat)(ht:(q1w a).take n=(q1w b).take n)(ha:n<=(q1w a).length)(hb:n<=(q1w b).length)(hd:∀(h1:n<(q1w a).length)(h2:n<(q1w b).length),(q1w a)[n]≠(q1w b)[n]):cmn (lns a.data.toList) (lns b.data.toList)=n:=by
 rw[<-j6w (fun l:List UInt8=>(⟨l.toArray⟩:ByteArray)) y6m];exact y1j _ _ n ht ha hb hd
abbrev g4d:Prop:=∀(t:List Td)(a:Option Addr)(cap:Nat)(wd:Int)(w:World),t.length<=cap->Tds w a t->z4e t->q5u w->
 Calls prog 22 #[.slice a t.length cap,.int .i64 wd] w fun e w'=>e=.returned (.tuple #[.string (j3i t wd),q0s (z5m t wd)])/\Below w w w'
def z4f(s:ByteArray)(wd:Int)(w:World)(e:Ending)(w':World):Prop:=∃T k f,e=.returned (.tuple #[.string T,.int .i64 k,q0s f])/\q9v s wd T k f/\Below w w w'
abbrev y3l:Prop:=∀(s:ByteArray)(wd:Int)(w:World),q5u w->Calls prog 18 #[.string s,.int .i64 wd] w fun e w'=>z4f s wd w e w'
theorem k0d{t:List Td}{wd:Int}(h:z5m t wd≠0):j3i t wd=⟨#[]⟩:=by rw[j3i,if_neg h]
theorem z5n{t:List Td}{n:Nat}(h:z5m t (n:Int)=0):j3i t (n:Int)=wbS (q4r n t):=by rw[j3i,if_pos h];rfl
theorem q8q{n:Nat}(h1:10<=n)(h2:n<=100):¬((n:Int)<10\/100<(n:Int)):=by omega
theorem y7v{t:List Td}{a:Option Addr}{cap:Nat}{w:World}(hc:t.length<=cap)(hN:Tds w a t):Prg (w.alloc (.cells #[.slice a t.length cap] 51)) (some ⟨w,0,none⟩) [t]:=by
 intro i hi;have hi0:i=0:=by simp at hi;exact hi
 subst hi0;refine⟨w.heap.size,0,a,cap,rfl,by rw[World.size_alloc];omega,?_,hc,hN.alloc _⟩
 have h1:(w.alloc (.cells #[.slice a t.length cap] 51)).heap[w.heap.size]?=some (.cells #[.slice a t.length cap] 51):=by
  show(w.heap.push _)[w.heap.size]?=_
  simp
 simp only[World.cell?,Option.isSome_none,Bool.false_eq_true,if_false,h1,Nat.zero_add];rfl
end Go.Proofs.YthcpdohdppkmkaaGreatDoor
