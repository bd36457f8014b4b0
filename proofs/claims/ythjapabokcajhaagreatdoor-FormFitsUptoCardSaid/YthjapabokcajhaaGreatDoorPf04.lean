/- Texts as one: FlatS, BstS, LnV, LnR. -/
import Derived.Test.YthjapabokcajhaaGreatDoorPf01
import Derived.Test.YthjapabokcajhaaGreatDoorPf03
import Derived.Test.YthjapabokcajhaaGreatDoorPf02
namespace Go.Proofs.YthjapabokcajhaaGreatDoor
theorem q4z:∀(t t':Tr)(r r':List Nd),t.Wf->t'.Wf->t.nodes++r=t'.nodes++r'->t=t'/\r=r'
 | .leaf x,t',r,r',h,h',e=>by
  cases t' with
  | leaf y=>simp only[Tr.nodes,List.cons_append,List.nil_append,List.cons.injEq]at e;exact⟨by rw[e.1],e.2⟩
  | one y a=>
   simp only[Tr.nodes,List.cons_append,List.nil_append,List.cons.injEq]at e;have h1:=h.2;have h2:=h'.2.1;rw[e.1,h2]at h1;cases h1
  | two y a b=>
   simp only[Tr.nodes,List.cons_append,List.nil_append,List.cons.injEq]at e;have h1:=h.2;have h2:=h'.2.1;rw[e.1,h2]at h1;cases h1
 | .one x a,t',r,r',h,h',e=>by
  cases t' with
  | leaf y=>
   simp only[Tr.nodes,List.cons_append,List.nil_append,List.cons.injEq]at e;have h1:=h.2.1;have h2:=h'.2;rw[e.1,h2]at h1;cases h1
  | one y a'=>
   simp only[Tr.nodes,List.cons_append,List.cons.injEq]at e;obtain⟨e1,e2⟩:=q4z a a' r r' h.2.2 h'.2.2 e.2;exact⟨by rw[e.1,e1],e2⟩
  | two y a' b=>
   simp only[Tr.nodes,List.cons_append,List.cons.injEq]at e;have h1:=h.2.1;have h2:=h'.2.1;rw[e.1,h2]at h1;cases h1
 | .two x a b,t',r,r',h,h',e=>by
  cases t' with
  | leaf y=>
   simp only[Tr.nodes,List.cons_append,List.nil_append,List.cons.injEq]at e;have h1:=h.2.1;have h2:=h'.2;rw[e.1,h2]at h1;cases h1
  | one y a'=>
   simp only[Tr.nodes,List.cons_append,List.cons.injEq]at e;have h1:=h.2.1;have h2:=h'.2.1;rw[e.1,h2]at h1;cases h1
  | two y a' b'=>
   simp only[Tr.nodes,List.cons_append,List.append_assoc,List.cons.injEq]at e;obtain⟨e1,e2⟩:=q4z a a' _ _ h.2.2.1 h'.2.2.1 e.2;obtain⟨e3,e4⟩:=q4z b b' r r' h.2.2.2 h'.2.2.2 e2;exact⟨by rw[e.1,e1,e3],e4⟩
theorem k5y{t t':Tr}(h:t.Wf)(h':t'.Wf)(e:t.nodes=t'.nodes):t=t':=(q4z t t' [] [] h h' (by rw[e])).1
noncomputable def j2s(ds:List Nd)(h:q2a ds=0):Tr:=Classical.choose (z2e h)
theorem q7t{ds:List Nd}(h:q2a ds=0):(j2s ds h).Wf:=(Classical.choose_spec (z2e h)).1
theorem q2t{ds:List Nd}(h:q2a ds=0):ds=(j2s ds h).nodes:=(Classical.choose_spec (z2e h)).2
theorem z2d{ds:List Nd}(h:q2a ds=0){t:Tr}(ht:t.Wf)(e:ds=t.nodes):j2s ds h=t:=k5y (q7t h) ht ((q2t h).symm.trans e)
open Classical in
noncomputable def flS(ds:List Nd):ByteArray:=if h:q2a ds=0 then(j2s ds h).line else⟨#[]⟩
open Classical in
noncomputable def flB(ds:List Nd):Bool:=if h:q2a ds=0 then(j2s ds h).isFlat else false
theorem k3r{ds:List Nd}{t:Tr}(ht:t.Wf)(e:ds=t.nodes)(hl:ds.length<=400):q2a ds=0/\flS ds=t.line/\flB ds=t.isFlat:=by
 have h:q2a ds=0:=by rw[e];exact q7i ht (by rw[<-e];exact hl)
 refine⟨h,?_,?_⟩
 ·rw[flS,dif_pos h,z2d h ht e]
 ·rw[flB,dif_pos h,z2d h ht e]
theorem j8z{ds:List Nd}(h:q2a ds≠0):flS ds=⟨#[]⟩/\flB ds=false:=⟨by rw[flS,dif_neg h],by rw[flB,dif_neg h]⟩
theorem k4s{x:Nd}{a c:Tr}(h:x.op=6):Tr.line (.two x a c)=(if(a.isFlat&&c.isFlat)=true then a.line++c.line else⟨#[]⟩)/\Tr.isFlat (.two x a c)=(a.isFlat&&c.isFlat):=by
 unfold Tr.line Tr.isFlat;simp only[Tr.flat,if_pos h];cases ha:a.flat with
 | none=>simp
 | some s=>
  cases hc:c.flat with
  | none=>simp
  | some t=>exact⟨z3t (by simp),by simp⟩
end Go.Proofs.YthjapabokcajhaaGreatDoor
namespace Go.Proofs.YthjapabokcajhaaGreatDoor
theorem q9b(wd:Nat):∀(s:List UInt8)(c c':Nat),wd<=c->wd<=c'->(q1e wd c s).1=(q1e wd c' s).1/\(q1e wd c s).2.1=(q1e wd c' s).2.1
 | [],c,c',_,_=>⟨rfl,rfl⟩
 | b::s,c,c',h,h'=>by
  by_cases hb:b=10
  ·simp only[q1e,if_pos hb,and_self]
  ·simp only[q1e,if_neg hb,if_pos h,if_pos h'];obtain⟨e1,e2⟩:=q9b wd s (c+1) (c'+1) (by omega) (by omega);exact⟨by rw[e1],e2⟩
theorem z7x(wd c:Nat)(s:List UInt8):(q1e wd c s).1=(q1e wd (min c wd) s).1/\(q1e wd c s).2.1=(q1e wd (min c wd) s).2.1:=by
 rcases Nat.le_total c wd with h|h
 ·rw[Nat.min_eq_left h];exact⟨rfl,rfl⟩
 ·rw[Nat.min_eq_right h];exact q9b wd s c wd h (Nat.le_refl _)
theorem j4w(wd c:Nat)(ks:List (Nat × Tr)):bst wd c ks=bst wd (min c wd) ks:=by
 unfold bst q2o
 congr 2
 funext p
 rw[(z7x wd c p.1).1,(z7x wd c p.1).2]
theorem q6q(wd:Nat):∀(s:List UInt8)(c:Nat),(∀b∈s,b≠10)->q1e wd c s=((c+s.length-wd)-(c-wd),0,c+s.length)
 | [],c,_=>by simp[q1e]
 | b::s,c,h=>by
  have hb:b≠10:=h b (by simp);simp only[q1e,if_neg hb,q6q wd s (c+1) (fun x hx=>h x (by simp[hx])),List.length_cons,Prod.mk.injEq,true_and];refine⟨?_,by omega⟩
  split<;>omega
theorem k2v(wd c d:Nat):q1e wd c (10::List.replicate d 32)=(d-wd,1,d):=by
 simp only[q1e,if_pos];rw[q6q wd (List.replicate d 32) 0 (by intro b hb;rw[(List.mem_replicate.1 hb).2];decide)];simp
/-! ### How much a way may cost at most -/
def Tr.lf:Tr->Nat
 | .leaf _=>1
 | .one _ a=>a.lf
 | .two _ a b=>a.lf+b.lf
def Tr.dsum:Tr->Nat
 | .leaf _=>0
 | .one _ a=>8+a.dsum
 | .two _ a b=>a.dsum+b.dsum
theorem q6d:∀t:Tr,8*t.lf+t.dsum<=8*t.nodes.length
 | .leaf _=>by simp[Tr.lf,Tr.dsum,Tr.nodes]
 | .one _ a=>by have:=q6d a;simp only[Tr.lf,Tr.dsum,Tr.nodes,List.length_cons];omega
 | .two _ a b=>by have:=q6d a;have:=q6d b;simp only[Tr.lf,Tr.dsum,Tr.nodes,List.length_cons,List.length_append];omega
theorem q5y:∀(t:Tr)(s:List UInt8),t.Wf->t.flat=some s->s.length<=20*t.lf
 | .leaf x,s,h,e=>by
  obtain⟨_,_,_,_,h5,_⟩:=q1l h.1;simp only[Tr.flat]at e;simp only[Tr.lf]
  split at e
  ·rename_i h1;cases e
   have:=q2q (h5 h1)
   have e:=q0w x.tx;omega
  ·split at e
   ·cases e;simp
   ·split at e
    ·cases e
    ·cases e;simp
 | .one x a,s,h,e=>q5y a s h.2.2 e
 | .two x a b,s,h,e=>by
  simp only[Tr.flat]at e;simp only[Tr.lf]
  split at e
  ·cases ha:a.flat with
   | none=>rw[ha]at e;cases e
   | some u=>
    cases hb:b.flat with
    | none=>rw[ha,hb]at e;cases e
    | some v=>
     rw[ha,hb]at e;cases e
     have:=q5y a u h.2.2.1 ha
     have:=q5y b v h.2.2.2 hb
     rw[List.length_append];omega
  ·have:=q5y a s h.2.2.1 e
   omega
theorem q4g:∀(t:Tr)(d:Nat)(p:List UInt8 × List Int),t.Wf->p∈t.outs d->p.1.length<=t.lf*(21+d+t.dsum)
 | .leaf x,d,p,h,hp=>by
  obtain⟨_,_,_,_,h5,_⟩:=q1l h.1;simp only[Tr.outs,List.mem_singleton]at hp;subst hp;simp only[Tr.lf,Tr.dsum]
  split
  ·rename_i h1
   have:=q2q (h5 h1)
   have e:=q0w x.tx;omega
  ·split
   ·simp
   ·simp;omega
 | .one x a,d,p,h,hp=>by
  obtain⟨_,_,_,_,_,h6⟩:=q1l h.1;simp only[Tr.outs]at hp;simp only[Tr.lf,Tr.dsum]
  split at hp
  ·rename_i h7;have h1:=q4g a _ p h.2.2 hp;have h2:a.lf*(21+(d+x.n.toNat)+a.dsum)<=a.lf*(21+d+(8+a.dsum)):=Nat.mul_le_mul_left _ (by have:=h6 h7;omega);omega
  ·rcases List.mem_append.1 hp with hp|hp
   ·cases hf:a.flat with
    | none=>rw[hf]at hp;simp at hp
    | some s=>
     rw[hf]at hp;simp only[List.mem_singleton]at hp;subst hp;have h1:=q5y a s h.2.2 hf;have h2:a.lf*20<=a.lf*(21+d+(8+a.dsum)):=Nat.mul_le_mul_left _ (by omega);dsimp only;omega
   ·obtain⟨q,hq,rfl⟩:=List.mem_map.1 hp;have h1:=q4g a d q h.2.2 hq;have h2:a.lf*(21+d+a.dsum)<=a.lf*(21+d+(8+a.dsum)):=Nat.mul_le_mul_left _ (by omega);dsimp only;omega
 | .two x a b,d,p,h,hp=>by
  simp only[Tr.outs]at hp;simp only[Tr.lf,Tr.dsum];have ma:a.lf*(21+d+a.dsum)<=a.lf*(21+d+(a.dsum+b.dsum)):=Nat.mul_le_mul_left _ (by omega);have mb:b.lf*(21+d+b.dsum)<=b.lf*(21+d+(a.dsum+b.dsum)):=Nat.mul_le_mul_left _ (by omega);rw[Nat.add_mul]
  split at hp
  ·obtain⟨u,hu,hp⟩:=List.mem_flatMap.1 hp;obtain⟨v,hv,rfl⟩:=List.mem_map.1 hp;have h1:=q4g a d u h.2.2.1 hu;have h2:=q4g b d v h.2.2.2 hv;simp only[List.length_append];omega
  ·rcases List.mem_append.1 hp with hp|hp
   ·obtain⟨q,hq,rfl⟩:=List.mem_map.1 hp;have h1:=q4g a d q h.2.2.1 hq;dsimp only;omega
   ·obtain⟨q,hq,rfl⟩:=List.mem_map.1 hp;have h1:=q4g b d q h.2.2.2 hq;dsimp only;omega
def lfK:List (Nat × Tr)->Nat
 | []=>0
 | (_,t)::ks=>t.lf+lfK ks
def KB(M:Nat)(ks:List (Nat × Tr)):Prop:=∀p∈ks,p.1+p.2.dsum<=M/\p.2.Wf
theorem z5c(M:Nat):∀(ks:List (Nat × Tr))(p:List UInt8 × List Int),KB M ks->p∈q3f ks->p.1.length<=lfK ks*(21+M)
 | [],p,_,hp=>by simp only[q3f,List.mem_singleton]at hp;subst hp;simp
 | (d,t)::ks,p,hk,hp=>by
  rw[q3f]at hp;obtain⟨u,hu,hp⟩:=List.mem_flatMap.1 hp;obtain⟨v,hv,rfl⟩:=List.mem_map.1 hp;obtain⟨k1,k2⟩:=hk (d,t) (by simp);have h1:=q4g t d u k2 hu;have h2:=z5c M ks v (fun q hq=>hk q (by simp[hq])) hv;have h3:t.lf*(21+d+t.dsum)<=t.lf*(21+M):=Nat.mul_le_mul_left _ (by dsimp only at k1;omega);simp only[lfK,List.length_append,Nat.add_mul];omega
theorem z6c(wd:Nat):∀(s:List UInt8)(c:Nat),(q1e wd c s).1<=s.length/\(q1e wd c s).2.1<=s.length
 | [],c=>by simp[q1e]
 | b::s,c=>by
  simp only[q1e,List.length_cons]
  split
  ·have:=z6c wd s 0
   dsimp only;omega
  ·have:=z6c wd s (c+1)
   dsimp only
   split<;>omega
def bs(wd c:Nat)(ks:List (Nat × Tr)):Crs:=(bst wd c ks).getD ((0,0),[])
theorem q2e(wd c:Nat)(ks:List (Nat × Tr)):bst wd c ks=some (bs wd c ks):=by
 obtain⟨a,h⟩:=z7t wd c ks;rw[bs,h];rfl
theorem v1q(wd c M:Nat)(ks:List (Nat × Tr))(h:KB M ks):(bs wd c ks).1.1<=lfK ks*(21+M)/\(bs wd c ks).1.2<=lfK ks*(21+M):=by
 obtain⟨p,q,e,_,_⟩:=z2i (q2e wd c ks);have hin:bs wd c ks∈q2o wd c ks:=by rw[e];simp
 obtain⟨x,hx,hxe⟩:=List.mem_map.1 hin;rw[<-hxe];have h1:=z5c M ks x h hx;have h2:=z6c wd x.1 c;dsimp only;omega
theorem most:∀D,D<401->(400-D)*(21+8*D)<=400000:=by
 set_option maxRecDepth 100000 in decide
theorem j7h{L M n:Nat}(h:8*L+M<=8*n)(hn:n<=400):L*(21+M)<=400000:=by
 have h1:=most ((M+7) / 8) (by omega);have h2:L*(21+M)<=(400-(M+7) / 8)*(21+8*((M+7) / 8)):=Nat.mul_le_mul (by omega) (by omega);omega
theorem j8l(wd c:Nat):bs wd c []=((0,0),[]):=by rw[bs,j4x];rfl
theorem k2k(wd c:Nat)(ks:List (Nat × Tr)):bs wd c ks=bs wd (min c wd) ks:=by rw[bs,j4w];rfl
theorem j4u{wd c d:Nat}{x:Nd}{ks:List (Nat × Tr)}(hx:q0s x=0)(h:x.op=1)(hc:c<=wd):bs wd c ((d,.leaf x)::ks)=q3k (c+x.tx.size-wd) 0 [] (bs wd (min (c+x.tx.size) wd) ks):=by
 have hs:∀b∈x.tx.data.toList,b≠10:=k8g hx h;have e:=z1z wd c d x ks x.tx.data.toList (by rw[if_pos h]);rw[q6q wd _ c hs,q0w,q2e,q2e wd (c+x.tx.size),Option.map_some,Option.some.injEq,k2k wd (c+x.tx.size)]at e;rw[e,Nat.sub_eq_zero_of_le hc,Nat.sub_zero]
theorem j4t{wd c d:Nat}{x:Nd}{ks:List (Nat × Tr)}(h:x.op≠1/\x.op≠5):bs wd c ((d,.leaf x)::ks)=q3k (d-wd) 1 [] (bs wd (min d wd) ks):=by
 have e:=z1z wd c d x ks (10::List.replicate d 32) (by rw[if_neg h.1,if_neg h.2]);rw[k2v,q2e,q2e wd d,Option.map_some,Option.some.injEq,k2k wd d]at e;exact e
theorem j4v{wd c d:Nat}{x:Nd}{ks:List (Nat × Tr)}(h:x.op=5):bs wd c ((d,.leaf x)::ks)=q3k 0 0 [] (bs wd c ks):=by
 have e:=z1z wd c d x ks [] (by rw[if_neg (by omega),if_pos h]);rw[q2e,q1e,q2e wd c ks,Option.map_some,Option.some.injEq]at e;exact e
theorem j4r{wd c d:Nat}{x:Nd}{a:Tr}{ks:List (Nat × Tr)}(h:x.op=7):bs wd c ((d,.one x a)::ks)=bs wd c ((d+x.n.toNat,a)::ks):=by rw[bs,k9d wd c d x a ks h];rfl
theorem j4q{wd c d:Nat}{x:Nd}{a b:Tr}{ks:List (Nat × Tr)}(h:x.op=6):bs wd c ((d,.two x a b)::ks)=bs wd c ((d,a)::(d,b)::ks):=by rw[bs,k9c wd c d x a b ks h];rfl
theorem k2j{wd c d:Nat}{x:Nd}{a b:Tr}{ks:List (Nat × Tr)}(h:x.op≠6):bs wd c ((d,.two x a b)::ks)=z9b (q3k 0 0 [0] (bs wd c ((d,a)::ks))) (q3k 0 0 [1] (bs wd c ((d,b)::ks))):=by
 have e:=z9z wd c d x a b ks h;rw[q2e,q2e wd c ((d,a)::ks),q2e wd c ((d,b)::ks),Option.map_some,Option.map_some,q4p,Option.some.injEq]at e;exact e
theorem k9b{wd c d:Nat}{x:Nd}{a:Tr}{ks:List (Nat × Tr)}{s:List UInt8}(h:x.op≠7)(ha:a.Wf)(hf:a.flat=some s)(hc:c<=wd):
  bs wd c ((d,.one x a)::ks)=z9b (q3k (c+s.length-wd) 0 [0] (bs wd (min (c+s.length) wd) ks)) (q3k 0 0 [1] (bs wd c ((d,a)::ks))):=by
 have e:=z3r wd c d x a ks h;rw[hf]at e;dsimp only at e;rw[q6q wd _ c (q3s a s ha hf),q2e,q2e wd (c+s.length),q2e wd c ((d,a)::ks),Option.map_some,Option.map_some,q4p,Option.some.injEq,k2k wd (c+s.length)]at e;rw[e,Nat.sub_eq_zero_of_le hc,Nat.sub_zero]
theorem j4s{wd c d:Nat}{x:Nd}{a:Tr}{ks:List (Nat × Tr)}(h:x.op≠7)(hf:a.flat=none):bs wd c ((d,.one x a)::ks)=q3k 0 0 [1] (bs wd c ((d,a)::ks)):=by
 have e:=z3r wd c d x a ks h;rw[hf]at e;dsimp only at e;rw[q2e,q2e wd c ((d,a)::ks),Option.map_some,q4p,Option.some.injEq]at e;exact e
end Go.Proofs.YthjapabokcajhaaGreatDoor
namespace Go.Proofs.YthjapabokcajhaaGreatDoor
open Go
def k8q:List Wd->List Nat->List (List Wd)
 | _,[]=>[]
 | ws,k::ks=>ws.take k::k8q (ws.drop k) ks
theorem j0g:∀g:List Wd,jnL (g.map wbS)=jb g
 | []=>rfl
 | [w]=>by simp[jnL,jb,wbS,Lib.join_one]
 | w::u::r=>by
  have ih:=j0g (u::r);have e:jb (w::u::r)=w++32::jb (u::r):=rfl;rw[e,<-ih];simp[jnL,wbS,Lib.join_cons,Lib.joinTail]
theorem z8n:∀(ks:List Nat)(ws:List Wd),z4p (ws.map wbS) ks=(k8q ws ks).map fun g=>wbS (jb g)
 | [],_=>rfl
 | k::ks,ws=>by
  have ih:=z8n ks (ws.drop k);rw[z4p,k8q,List.map_cons,<-List.map_drop,<-List.map_take,ih,jnS,j0g];rfl
theorem z4f(wd:Nat):∀(n:Nat)(ws:List Wd),ws.length<=n->(∀g∈k8q ws (q7s wd (ws.map wbS)),g≠[]/\g.length<=ws.length/\∀w∈g,w∈ws)/\(k8q ws (q7s wd (ws.map wbS))).flatten=ws/\(ws≠[]->k8q ws (q7s wd (ws.map wbS))≠[])
 | 0,ws,h=>by
  have:ws=[]:=List.eq_nil_of_length_eq_zero (by omega)
  subst this;rw[List.map_nil,q4b];exact⟨fun g hg=>(by simp[k8q]at hg),rfl,fun h=>absurd rfl h⟩
 | n+1,ws,h=>by
  by_cases h0:ws=[]
  ·subst h0;rw[List.map_nil,q4b];exact⟨fun g hg=>(by simp[k8q]at hg),rfl,fun h=>absurd rfl h⟩
  ·have h1:ws.map wbS≠[]:=by simpa using h0
   have hp:=q5v wd h1;rw[List.length_map]at hp;rw[q3n wd h1];generalize agF wd (ws.map wbS)=k at *;rw[<-List.map_drop];obtain⟨i1,i2,_⟩:=z4f wd n (ws.drop k) (by rw[List.length_drop];omega);rw[k8q];refine⟨fun g hg=>?_,?_,fun _=>by simp⟩
   ·rcases List.mem_cons.1 hg with rfl|hg
    ·refine⟨fun e=>?_,by rw[List.length_take];omega,fun w hw=>List.mem_of_mem_take hw⟩
     have:=congrArg List.length e
     rw[List.length_take,List.length_nil]at this;omega
    ·obtain⟨a,b,c⟩:=i1 g hg;rw[List.length_drop]at b;exact⟨a,by omega,fun w hw=>List.mem_of_mem_drop (c w hw)⟩
   ·rw[List.flatten_cons,i2,List.take_append_drop]
def ntL(wd:Nat)(tx:ByteArray):List UInt8:=if q0f (btL tx)=[]then [35,10]else(z4p ((q0f (btL tx)).map wbS) (q7s (wd-2) ((q0f (btL tx)).map wbS))).flatMap fun l=>35::32::(btL l++[10])
def dcL(wd:Nat)(t:List Td):List UInt8:=(q0i t).txt (bs wd 0 [(0,q0i t)]).2++[10]
def q8r(t:List Td)(wd:Int):Int:=if wd<10\/100<wd then 1 else if q0b t≠0 then q0b t else if opT t=9 then 0 else if 400<(q0i t).nodes.length then 3 else 0
def q5s(wd:Nat)(t:List Td):List UInt8:=match t with
 | []=>[]
 | x::_=>if x.op=9 then ntL wd x.tx else dcL wd t
theorem j9w{t:List Td}{wd:Nat}(h:q0b t=0):∃ws,FmS t (q5s wd t) ws:=by
 cases t with
 | nil=>exact absurd h (by decide)
 | cons x r=>
  by_cases h9:x.op=9
  ·have e:q5s wd (x::r)=ntL wd x.tx:=by rw[q5s,if_pos h9]
   rw[e];rcases q5o h with⟨y,he,ho,hn,hf⟩|hc
   ·obtain⟨rfl,rfl⟩:x=y/\r=[]:=by simpa using he
    by_cases hz:btL x.tx=[]
    ·have e2:ntL wd x.tx=[35,10]:=by rw[ntL,if_pos (by rw[q0f,if_pos hz])]
     rw[e2];exact⟨_,.empty rfl h9 hz⟩
    ·have hw:q0f (btL x.tx)≠[]:=by
      rw[q0f,if_neg hz];exact q6h _
     obtain⟨n1,n2⟩:=z6u hf;obtain⟨g1,g2,g3⟩:=z4f (wd-2) _ (q0f (btL x.tx)) (Nat.le_refl _)
     have e2:ntL wd x.tx=(k8q (q0f (btL x.tx)) (q7s (wd-2) ((q0f (btL x.tx)).map wbS))).flatMap fun g=>lnW g++[10]:=by
      rw[ntL,if_neg hw,z8n,List.flatMap_map];rfl
     rw[e2];refine⟨_,.note rfl h9 (g3 hw) (fun g hg=>?_) g2 hz⟩;obtain⟨a,b,c⟩:=g1 g hg;exact⟨a,by omega,fun w hw=>n2 w (c w hw)⟩
   ·obtain⟨y,F,he,_,_,_,hy⟩:=hc
    have:x=y:=(List.cons.inj he).1
    subst this;rcases hy with hy|hy
    ·exact absurd (h9.symm.trans hy.1) (by decide)
    ·exact absurd (h9.symm.trans hy.1) (by decide)
  ·have e:q5s wd (x::r)=dcL wd (x::r):=by rw[q5s,if_neg h9]
   rw[e,dcL];have hb:(q0i (x::r)).best wd=some (bs wd 0 [(0,q0i (x::r))]):=by rw[q6n,q2e]
   obtain⟨_,b2,_⟩:=q5f hb
   generalize(bs wd 0 [(0,q0i (x::r))]).2=u at *
   generalize(q0i (x::r)).txt u=s at *
   unfold Tr.show at b2
   split at b2
   ·split at b2
    ·cases b2
    ·rename_i hl;cases b2;exact⟨_,.doc h9 hl⟩
    ·cases b2
   ·cases b2
end Go.Proofs.YthjapabokcajhaaGreatDoor
namespace Go.Proofs.YthjapabokcajhaaGreatDoor
open Go
def Gd(r:List UInt8):Prop:=∀p q,r≠p++32::10::q
theorem z4e{a b:List UInt8}(ha:Gd a)(hb:Gd b)(h:¬(a.getLast?=some 32/\b.head?=some 10)):Gd (a++b):=by
 intro p q e;rcases List.append_eq_append_iff.1 e with⟨c,h1,h2⟩|⟨c,h1,h2⟩
 ·exact hb c q h2
 ·cases c with
  | nil=>exact hb [] q (by simpa using h2.symm)
  | cons x c=>
   rw[List.cons_append,List.cons.injEq]at h2;obtain⟨rfl,h2⟩:=h2;cases c with
   | nil=>
    refine h ⟨by rw[h1];simp,?_⟩
    have:b=10::q:=by simpa using h2.symm
    rw[this];rfl
   | cons y c=>
    rw[List.cons_append,List.cons.injEq]at h2;obtain⟨rfl,_⟩:=h2;exact ha p c h1
theorem z2k{r:List UInt8}(h:∀c∈r,c≠32):Gd r:=fun p q e=>h 32 (by rw[e];simp) rfl
theorem q9k{r:List UInt8}(h:∀c∈r,c≠10):Gd r:=fun p q e=>h 10 (by rw[e];simp) rfl
def GdD(D:Tr):Prop:=∀r,Txt D r->Gd r
def HdD(D:Tr):Prop:=∀r,Txt D r->∃a r',r=a::r'/\a≠32/\a≠10
def LsD(D:Tr):Prop:=∀r,Txt D r->∃a r',r=r'++[a]/\a≠32/\a≠10
theorem q5z{a b:Tr}(ha:GdD a)(hb:GdD b)(h:LsD a\/HdD b):GdD (twD a b):=fun r hr=>by
 obtain⟨ra,rb,h1,h2,rfl⟩:=k7w hr;refine z4e (ha ra h1) (hb rb h2) fun⟨e1,e2⟩=>?_
 rcases h with h|h
 ·obtain⟨x,r',rfl,hx,_⟩:=h ra h1;simp at e1;exact hx e1
 ·obtain⟨x,r',rfl,_,hx⟩:=h rb h2;simp at e2;exact hx e2
theorem j5x{s:List UInt8}(h:∀c∈s,c≠10):GdD (wdD s):=fun r hr=>by rw[k7x hr];exact q9k h
theorem k4b{D:Tr}{op:Int}(hD:D=.leaf ⟨op,⟨#[]⟩,0⟩)(hop:op=2\/op=3):GdD D:=fun r hr=>by
 subst hD;rcases hr with h|⟨deep,cs,cs',h⟩
 ·rcases hop with rfl|rfl
  ·cases h;exact q9k (by simp)
  ·cases h;exact q9k (by simp)
 ·have e:r=[10]++List.replicate deep 32:=by
   rcases hop with rfl|rfl<;>(cases h;rfl)
  rw[e];exact z4e (z2k (by simp)) (q9k fun c hc=>by rw[List.eq_of_mem_replicate hc];decide) fun h=>by simp at h
theorem j5u:GdD blD:=k4b rfl (.inl rfl)
theorem j9f:GdD sfD:=k4b rfl (.inr rfl)
theorem j5v{a:Tr}(h:GdD a):GdD (dpD a):=fun _ hr=>h _ (j3z hr)
theorem j5w{a:Tr}(h:GdD a):GdD (grD a):=fun _ hr=>h _ (k7v hr)
theorem j5y{a:Tr}(h:HdD a):HdD (grD a):=fun _ hr=>h _ (k7v hr)
theorem j7c{a:Tr}(h:LsD a):LsD (dpD a):=fun _ hr=>h _ (j3z hr)
theorem j7d{a:Tr}(h:LsD a):LsD (grD a):=fun _ hr=>h _ (k7v hr)
theorem z4g{a b:Tr}(h:HdD a):HdD (twD a b):=fun r hr=>by
 obtain⟨ra,rb,h1,h2,rfl⟩:=k7w hr;obtain⟨x,r',rfl,hx⟩:=h ra h1;exact⟨x,r'++rb,rfl,hx⟩
theorem q6f{a b:Tr}(h:LsD b):LsD (twD a b):=fun r hr=>by
 obtain⟨ra,rb,h1,h2,rfl⟩:=k7w hr;obtain⟨x,r',rfl,hx⟩:=h rb h2;exact⟨x,ra++r',by simp,hx⟩
theorem j5z{c:UInt8}{s:List UInt8}(h:c≠32/\c≠10):HdD (wdD (c::s)):=fun _ hr=>⟨c,s,k7x hr,h⟩
theorem j9q{c:UInt8}{s:List UInt8}(h:c≠32/\c≠10):LsD (wdD (s++[c])):=fun _ hr=>⟨c,s,k7x hr,h⟩
structure Nb(D:Tr):Prop where
 h:HdD D
 l:LsD D
 g:GdD D
theorem z2y{s:List UInt8}(h0:s≠[])(h:∀c∈s,c≠32/\c≠10):Nb (wdD s):=by
 obtain⟨c,r,rfl⟩:=List.exists_cons_of_ne_nil h0;refine⟨j5z (h c (by simp)),?_,j5x fun x hx=>(h x hx).2⟩;have e:(c::r)=(c::r).dropLast++[(c::r).getLast h0]:=(List.dropLast_concat_getLast h0).symm;rw[e];exact j9q (h _ (List.getLast_mem h0))
theorem j9t{l:Nat}{x:Td}{d:Tr}(h:Nb d):Nb (inD l x d):=by
 unfold inD
 split
 ·have h1:Nb (wdD [40]):=z2y (by simp) (by decide);have h2:Nb (wdD [41]):=z2y (by simp) (by decide);exact⟨z4g h1.h,q6f (q6f h2.l),q5z h1.g (q5z h.g h2.g (.inl h.l)) (.inl h1.l)⟩
 ·exact h
theorem j9u:∀ps:List (Td × Tr),(∀p∈ps,Nb p.2)->ps≠[]->Nb (kdD ps)
 | [p],h,_=>h p (by simp)
 | p::q::r,h,_=>by
  have hp:=h p (by simp);have ih:=j9u (q::r) (fun z hz=>h z (by simp at hz⊢;right;exact hz)) (by simp);have h1:Nb (wdD [44]):=z2y (by simp) (by decide);exact⟨z4g (z4g hp.h),q6f (q6f ih.l),q5z (q5z hp.g h1.g (.inl hp.l)) (q5z j5u ih.g (.inr ih.h)) (.inl (q6f h1.l))⟩
theorem k5a{op:List UInt8}{o cl:UInt8}{ps:List (Td × Tr)}(h:∀p∈ps,Nb p.2)(ho:∀c∈op++[o],c≠32/\c≠10)(hc:cl≠32/\cl≠10):Nb (q1d (op++[o]) [cl] ps):=by
 have h1:Nb (wdD (op++[o])):=z2y (by simp) ho;have h2:Nb (wdD [cl]):=z2y (by simp) (fun c hc'=>by simp at hc';subst hc';exact hc);unfold q1d
 split
 ·refine z2y (by simp) fun c hc'=>?_
  rcases List.mem_append.1 hc' with h3|h3
  ·exact ho c h3
  ·simp at h3;subst h3;exact hc
 ·rename_i h0;have hk:=j9u ps h fun e=>h0 (by rw[e];rfl)
  exact⟨j5y (z4g h1.h),j7d (q6f (q6f (q6f h2.l))),j5w (q5z h1.g (q5z (j5v (q5z j9f hk.g (.inr hk.h))) (q5z j9f h2.g (.inr h2.h)) (.inl (j7c (q6f hk.l)))) (.inl h1.l))⟩
theorem j9p{c:UInt8}(h:q7n c=true):c≠32/\c≠10:=⟨fun e=>by subst e;revert h;decide,fun e=>by subst e;revert h;decide⟩
theorem j8x{c:UInt8}(h:j8a c=true):c≠32/\c≠10:=⟨fun e=>by subst e;revert h;decide,fun e=>by subst e;revert h;decide⟩
theorem z2x{s:ByteArray}(h:q0r s=true):btL s≠[]/\∀c∈btL s,c≠32/\c≠10:=by
 have h1:=q7a h;simp only[q0r,Bool.and_eq_true,decide_eq_true_eq,List.all_eq_true]at h;exact⟨fun e=>by rw[e]at h1;simp at h1,fun c hc=>j9p (h.2 c hc)⟩
theorem v2h{x:Td}{ps:List (Td × Tr)}(h:∀p∈ps,Nb p.2)(hx:exN x)(hk:ps.length=kdT x):Nb (q0d x ps):=by
 have two:kdT x=2->∃a b,ps=[a,b]/\Nb a.2/\Nb b.2:=fun e=>by
  rw[e]at hk
  match ps,hk with
  | [a,b],_=>exact⟨a,b,rfl,h a (by simp),h b (by simp)⟩
 have sum:∀(l m:Nat)(c:UInt8)(a b:Td × Tr),c≠32/\c≠10->Nb a.2->Nb b.2->Nb (grD (twD (inD l a.1 a.2) (dpD (twD blD (twD (wdD [c,32]) (inD m b.1 b.2)))))):=fun l m c a b hc ha hb=>by
  have h1:=j9t (l:=l) (x:=a.1) ha;have h2:=j9t (l:=m) (x:=b.1) hb;have h3:HdD (wdD [c,32]):=j5z hc
  have h4:GdD (wdD [c,32]):=j5x fun z hz=>by
   simp at hz;rcases hz with rfl|rfl
   ·exact hc.2
   ·decide
  exact⟨j5y (z4g h1.h),j7d (q6f (j7c (q6f (q6f h2.l)))),j5w (q5z h1.g (j5v (q5z j5u (q5z h4 h2.g (.inr h2.h)) (.inr (z4g h3)))) (.inl h1.l))⟩
 rcases q1n hx with⟨ho,_⟩|⟨ho,hn,_⟩|⟨ho,hn,_⟩|⟨ho,_⟩|⟨ho,_,_,h2⟩|⟨ho,_,_,h2⟩
 ·rw[show q0d x ps=wdD (q3c x.n.toNat) by simp[q0d,ho]];exact z2y (k3d _) fun c hc=>j8x (z7z _ c hc)
 ·rw[show q0d x ps=wdD (btL x.tx) by simp[q0d,ho]];exact z2y (z2x hn).1 (z2x hn).2
 ·rw[show q0d x ps=q1d (btL x.tx++[40]) [41] ps by simp[q0d,ho]];refine k5a h (fun c hc=>?_) (by decide);rcases List.mem_append.1 hc with hc|hc
  ·exact(z2x hn).2 c hc
  ·simp at hc;subst hc;decide
 ·rw[show q0d x ps=q1d ([]++[91]) [93] ps by simp[q0d,ho]];exact k5a h (by decide) (by decide)
 ·obtain⟨a,b,rfl,h3,h4⟩:=two h2;rw[show q0d x [a,b]=grD (twD (inD 0 a.1 a.2) (dpD (twD blD (twD (wdD [43,32]) (inD 1 b.1 b.2))))) by simp[q0d,tw2,ho]];exact sum 0 1 43 a b (by decide) h3 h4
 ·obtain⟨a,b,rfl,h3,h4⟩:=two h2;rw[show q0d x [a,b]=grD (twD (inD 1 a.1 a.2) (dpD (twD blD (twD (wdD [42,32]) (inD 2 b.1 b.2))))) by simp[q0d,tw2,ho]];exact sum 1 2 42 a b (by decide) h3 h4
theorem k3b:∀F:Fo,F.ok->F.exs->∀p∈F.dcs,Nb p.2
 | .nil,_,_,p,hp=>by cases hp
 | .cons x k n,hok,hex,p,hp=>by
  have h1:=k3b k hok.2.1 fun y hy=>hex y (by simp[Fo.nodes,hy])
  have h2:=k3b n hok.2.2 fun y hy=>hex y (by simp[Fo.nodes,hy])
  rcases List.mem_cons.1 hp with rfl|hp
  ·exact v2h h1 (hex x (by simp[Fo.nodes])) (by rw[q2m];exact hok.1)
  ·exact h2 p hp
theorem j8r{t:List Td}(h:q0b t=0)(h9:opT t≠9):Nb (q0i t):=by
 obtain⟨x,y,k,rfl,hok,hex,hk,hx⟩:=q4j h h9;have hd:=k3b _ hok hex (y,q0d y k.dcs) (by simp[Fo.dcs]);have e0:q0i (x::(Fo.cons y k .nil).nodes)=stD x (q0d y k.dcs):=q5n hok hk;have h59:Nb (wdD [59]):=z2y (by simp) (by decide);rw[e0];simp only at hd;generalize q0d y k.dcs=D at hd;have hD:Nb (twD D (wdD [59])):=⟨z4g hd.h,q6f h59.l,q5z hd.g h59.g (.inl hd.l)⟩;rcases hx with⟨ho,hnm,_⟩|⟨ho,_,_⟩
 ·rw[stD,if_pos ho];have h1:HdD (wdD ([108,101,116,32]++btL x.tx++[32,61])):=j5z (c:=108) (by decide)
  have h2:LsD (wdD ([108,101,116,32]++btL x.tx++[32,61])):=by
   have e:[108,101,116,32]++btL x.tx++[32,61]=([108,101,116,32]++btL x.tx++[32])++[61]:=by simp
   rw[e];exact j9q (by decide)
  have h3:GdD (wdD ([108,101,116,32]++btL x.tx++[32,61])):=j5x fun c hc=>by
   rcases List.mem_append.1 hc with hc|hc
   ·rcases List.mem_append.1 hc with hc|hc
    ·simp at hc;rcases hc with rfl|rfl|rfl|rfl<;>decide
    ·exact((z2x hnm).2 c hc).2
   ·simp at hc;rcases hc with rfl|rfl<;>decide
  exact⟨j5y (z4g h1),j7d (q6f (j7c (q6f hD.l))),j5w (q5z h3 (j5v (q5z j5u hD.g (.inr hD.h))) (.inl h2))⟩
 ·rw[stD,if_neg (by omega)];exact hD
end Go.Proofs.YthjapabokcajhaaGreatDoor
