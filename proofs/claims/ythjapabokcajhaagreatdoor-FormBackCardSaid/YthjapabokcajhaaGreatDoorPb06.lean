/- Texts as one: BstQ, BstR, FlatS, BstS, LnV, LnR, LnW, LnX, Base, FilM, DocA0. -/
import Derived.Test.YthjapabokcajhaaGreatDoorPb05
import Derived.Test.YthjapabokcajhaaGreatDoorPb02
import Derived.Test.YthjapabokcajhaaGreatDoorPb03
import Derived.WalkKit
import Derived.Outline
import Derived.WalkLawsBesides
import Derived.Test.YthjapabokcajhaaGreatDoorProg
namespace Go.Proofs.YthjapabokcajhaaGreatDoor
theorem v7t (t:Tr) (deep:Nat):t.outs deep≠[]:=fun h=>by
 have:=q2u t deep
 rw [h] at this
 exact z3o t this.symm
theorem k4c:∀ ks:List (Nat × Tr),q4k ks≠[]
 | []=>by simp [q4k]
 | (d,t)::ks=>by
  have h1:=v7t t d
  have h2:=k4c ks
  obtain ⟨p,ps,e⟩:=List.exists_cons_of_ne_nil h1
  rw [q4k,e]
  simp [h2]
theorem k2x (wd c:Nat) (ks:List (Nat × Tr)):∃ a,bst wd c ks=some a:=by
 cases h:bst wd c ks with
 | some a=>exact ⟨a,rfl⟩
 | none=>
  have:=j0m h
  unfold q3s at this
  exact absurd (List.map_eq_nil_iff.1 this) (k4c ks)
end Go.Proofs.YthjapabokcajhaaGreatDoor
namespace Go.Proofs.YthjapabokcajhaaGreatDoor
def Tr.txt (t:Tr) (u:List Int):List UInt8:=match t.show u with | .ok s=>s | .error _=>[]
theorem j3c {t:Tr} {p:List UInt8 × List Int} (h:p∈t.outs 0):t.show p.2 = .ok p.1:=by
 have hw:p.2∈t.ways:=by rw [←q2u t 0];exact List.mem_map.2 ⟨p,h,rfl⟩
 have hl:=q5s t 0 p h []
 rw [List.append_nil] at hl
 unfold Tr.show
 rw [if_pos (k5b.2 (q6z t _ hw)),hl]
theorem j9i {t:Tr} {p:List UInt8 × List Int} (h:p∈t.outs 0):t.txt p.2=p.1:=by rw [Tr.txt,j3c h]
def Tr.cst (t:Tr) (wd:Nat) (u:List Int):Nat × Nat:=((q2x wd 0 (t.txt u)).1,(q2x wd 0 (t.txt u)).2.1)
theorem k6b (t:Tr) (wd:Nat):q3s wd 0 [(0,t)]=t.ways.map fun u=>(t.cst wd u,u):=by
 have h1:q4k [(0,t)]=t.outs 0:=by simp [q4k]
 unfold q3s
 rw [h1,←q2u t 0,List.map_map]
 refine List.map_congr_left fun p hp=>?_
 simp only [Function.comp,Tr.cst,j9i hp]
def Tr.best (t:Tr) (wd:Nat):Option Crs:=fm (t.ways.map fun u=>(t.cst wd u,u))
theorem q8p (t:Tr) (wd:Nat):t.best wd=bst wd 0 [(0,t)]:=by rw [Tr.best,←k6b];rfl
theorem k8j (t:Tr) (wd:Nat):∃ a,t.best wd=some a:=by rw [q8p];exact k2x wd 0 _
theorem z4d:∀ u:List Int,¬ q2j u u
 | []=>by simp [q2j]
 | a::u=>by simp only [q2j,if_pos];exact z4d u
theorem z2c:∀ {u v:List Int},q2j u v→¬ q2j v u
 | a::u,b::v,h=>by
  simp only [q2j] at h ⊢
  by_cases e:a=b
  ·subst e
   rw [if_pos rfl] at h ⊢
   exact z2c h
  ·rw [if_neg e] at h
   rw [if_neg fun k=>e k.symm]
   omega
theorem q7b {t:Tr} {wd:Nat} {a:Crs} (h:t.best wd=some a):a.2∈t.ways∧t.show a.2 = .ok (t.txt a.2)∧a.1=t.cst wd a.2∧∀ w∈t.ways,¬ q2z (t.cst wd w) a.1∧(t.cst wd w=a.1→¬ q2j w a.2):=by
 obtain ⟨p,q,e,h1,h2⟩:=z6j h
 obtain ⟨p',r,e1,e2,e3⟩:=List.map_eq_append_iff.1 e
 obtain ⟨x,q',e4,e5,e6⟩:=List.map_eq_cons_iff.1 e3
 subst e4 e2 e6 e5
 have hin:x∈t.ways:=by rw [e1];simp
 have hr:=q9v t
 rw [e1] at hr
 refine ⟨hin,?_,rfl,fun w hw=>?_⟩
 ·obtain ⟨s,hs⟩:=(z9w t x).2 hin
  simp only [Tr.txt,hs]
 ·rw [e1] at hw
  dsimp only
  rcases List.mem_append.1 hw with hw | hw
  ·have:=h1 _ (List.mem_map.2 ⟨w,hw,rfl⟩)
   dsimp only at this
   refine ⟨?_,fun k=>?_⟩
   ·unfold q2z at *
    omega
   ·rw [k] at this
    unfold q2z at this
    omega
  ·rcases List.mem_cons.1 hw with rfl | hw
   ·refine ⟨?_,fun _=>z4d _⟩
    unfold q2z
    omega
   ·refine ⟨h2 _ (List.mem_map.2 ⟨w,hw,rfl⟩),fun _=>z2c ?_⟩
    exact (List.pairwise_cons.1 (List.pairwise_append.1 hr).2.1).1 w hw
end Go.Proofs.YthjapabokcajhaaGreatDoor
namespace Go.Proofs.YthjapabokcajhaaGreatDoor
theorem q6s:∀ (t t':Tr) (r r':List Nd),t.Wf→t'.Wf→t.nodes++r=t'.nodes++r'→t=t'∧r=r'
 | .leaf x,t',r,r',h,h',e=>by
  cases t' with
  | leaf y=>simp only [Tr.nodes,List.cons_append,List.nil_append,List.cons.injEq] at e;exact ⟨by rw [e.1],e.2⟩
  | one y a=>
   simp only [Tr.nodes,List.cons_append,List.nil_append,List.cons.injEq] at e
   have h1:=h.2;have h2:=h'.2.1;rw [e.1,h2] at h1;cases h1
  | two y a b=>
   simp only [Tr.nodes,List.cons_append,List.nil_append,List.cons.injEq] at e
   have h1:=h.2;have h2:=h'.2.1;rw [e.1,h2] at h1;cases h1
 | .one x a,t',r,r',h,h',e=>by
  cases t' with
  | leaf y=>
   simp only [Tr.nodes,List.cons_append,List.nil_append,List.cons.injEq] at e
   have h1:=h.2.1;have h2:=h'.2;rw [e.1,h2] at h1;cases h1
  | one y a'=>
   simp only [Tr.nodes,List.cons_append,List.cons.injEq] at e
   obtain ⟨e1,e2⟩:=q6s a a' r r' h.2.2 h'.2.2 e.2
   exact ⟨by rw [e.1,e1],e2⟩
  | two y a' b=>
   simp only [Tr.nodes,List.cons_append,List.cons.injEq] at e
   have h1:=h.2.1;have h2:=h'.2.1;rw [e.1,h2] at h1;cases h1
 | .two x a b,t',r,r',h,h',e=>by
  cases t' with
  | leaf y=>
   simp only [Tr.nodes,List.cons_append,List.nil_append,List.cons.injEq] at e
   have h1:=h.2.1;have h2:=h'.2;rw [e.1,h2] at h1;cases h1
  | one y a'=>
   simp only [Tr.nodes,List.cons_append,List.cons.injEq] at e
   have h1:=h.2.1;have h2:=h'.2.1;rw [e.1,h2] at h1;cases h1
  | two y a' b'=>
   simp only [Tr.nodes,List.cons_append,List.append_assoc,List.cons.injEq] at e
   obtain ⟨e1,e2⟩:=q6s a a' _ _ h.2.2.1 h'.2.2.1 e.2
   obtain ⟨e3,e4⟩:=q6s b b' r r' h.2.2.2 h'.2.2.2 e2
   exact ⟨by rw [e.1,e1,e3],e4⟩
theorem j2m {t t':Tr} (h:t.Wf) (h':t'.Wf) (e:t.nodes=t'.nodes):t=t':=(q6s t t' [] [] h h' (by rw [e])).1
noncomputable def v1r (ds:List Nd) (h:q2n ds=0):Tr:=Classical.choose (z6e h)
theorem z0f {ds:List Nd} (h:q2n ds=0):(v1r ds h).Wf:=(Classical.choose_spec (z6e h)).1
theorem q4b {ds:List Nd} (h:q2n ds=0):ds=(v1r ds h).nodes:=(Classical.choose_spec (z6e h)).2
theorem z6d {ds:List Nd} (h:q2n ds=0) {t:Tr} (ht:t.Wf) (e:ds=t.nodes):v1r ds h=t:=j2m (z0f h) ht ((q4b h).symm.trans e)
open Classical in
noncomputable def flS (ds:List Nd):ByteArray:=if h:q2n ds=0 then (v1r ds h).line else ⟨#[]⟩
open Classical in
noncomputable def flB (ds:List Nd):Bool:=if h:q2n ds=0 then (v1r ds h).isFlat else false
theorem j0f {ds:List Nd} {t:Tr} (ht:t.Wf) (e:ds=t.nodes) (hl:ds.length≤400):q2n ds=0∧flS ds=t.line∧flB ds=t.isFlat:=by
 have h:q2n ds=0:=by rw [e];exact q9r ht (by rw [←e];exact hl)
 refine ⟨h,?_,?_⟩
 ·rw [flS,dif_pos h,z6d h ht e]
 ·rw [flB,dif_pos h,z6d h ht e]
theorem v9v {ds:List Nd} (h:q2n ds≠0):flS ds=⟨#[]⟩∧flB ds=false:=⟨by rw [flS,dif_neg h],by rw [flB,dif_neg h]⟩
theorem j1v {x:Nd} {a c:Tr} (h:x.op=6):Tr.line (.two x a c)=(if (a.isFlat && c.isFlat)=true then a.line++c.line else ⟨#[]⟩)∧Tr.isFlat (.two x a c)=(a.isFlat && c.isFlat):=by
 unfold Tr.line Tr.isFlat
 simp only [Tr.flat,if_pos h]
 cases ha:a.flat with
 | none=>simp
 | some s=>
  cases hc:c.flat with
  | none=>simp
  | some t=>exact ⟨z8d (by simp),by simp⟩
end Go.Proofs.YthjapabokcajhaaGreatDoor
namespace Go.Proofs.YthjapabokcajhaaGreatDoor
theorem z2h (wd:Nat):∀ (s:List UInt8) (c c':Nat),wd≤c→wd≤c'→(q2x wd c s).1=(q2x wd c' s).1∧(q2x wd c s).2.1=(q2x wd c' s).2.1
 | [],c,c',_,_=>⟨rfl,rfl⟩
 | b::s,c,c',h,h'=>by
  by_cases hb:b=10
  ·simp only [q2x,if_pos hb,and_self]
  ·simp only [q2x,if_neg hb,if_pos h,if_pos h']
   obtain ⟨e1,e2⟩:=z2h wd s (c+1) (c'+1) (by omega) (by omega)
   exact ⟨by rw [e1],e2⟩
theorem k3c (wd c:Nat) (s:List UInt8):(q2x wd c s).1=(q2x wd (min c wd) s).1∧(q2x wd c s).2.1=(q2x wd (min c wd) s).2.1:=by
 rcases Nat.le_total c wd with h | h
 ·rw [Nat.min_eq_left h];exact ⟨rfl,rfl⟩
 ·rw [Nat.min_eq_right h];exact z2h wd s c wd h (Nat.le_refl _)
theorem v4f (wd c:Nat) (ks:List (Nat × Tr)):bst wd c ks=bst wd (min c wd) ks:=by
 unfold bst q3s
 congr 2
 funext p
 rw [(k3c wd c p.1).1,(k3c wd c p.1).2]
theorem q8s (wd:Nat):∀ (s:List UInt8) (c:Nat),(∀ b∈s,b≠10)→q2x wd c s=((c+s.length - wd) - (c - wd),0,c+s.length)
 | [],c,_=>by simp [q2x]
 | b::s,c,h=>by
  have hb:b≠10:=h b (by simp)
  simp only [q2x,if_neg hb,q8s wd s (c+1) (fun x hx=>h x (by simp [hx])),List.length_cons,Prod.mk.injEq,true_and]
  refine ⟨?_,by omega⟩
  split<;>omega
theorem k9g (wd c d:Nat):q2x wd c (10::List.replicate d 32)=(d - wd,1,d):=by
 simp only [q2x,if_pos]
 rw [q8s wd (List.replicate d 32) 0 (by intro b hb;rw [(List.mem_replicate.1 hb).2];decide)]
 simp
/-! ### How much a way may cost at most -/
def Tr.lf:Tr→Nat
 | .leaf _=>1
 | .one _ a=>a.lf
 | .two _ a b=>a.lf+b.lf
def Tr.dsum:Tr→Nat
 | .leaf _=>0
 | .one _ a=>8+a.dsum
 | .two _ a b=>a.dsum+b.dsum
theorem q8d:∀ t:Tr,8*t.lf+t.dsum≤8*t.nodes.length
 | .leaf _=>by simp [Tr.lf,Tr.dsum,Tr.nodes]
 | .one _ a=>by have:=q8d a;simp only [Tr.lf,Tr.dsum,Tr.nodes,List.length_cons];omega
 | .two _ a b=>by have:=q8d a;have:=q8d b;simp only [Tr.lf,Tr.dsum,Tr.nodes,List.length_cons,List.length_append];omega
theorem q8a:∀ (t:Tr) (s:List UInt8),t.Wf→t.flat=some s→s.length≤20*t.lf
 | .leaf x,s,h,e=>by
  obtain ⟨_,_,_,_,h5,_⟩:=q1w h.1
  simp only [Tr.flat] at e
  simp only [Tr.lf]
  split at e
  ·rename_i h1
   cases e
   have:=q3y (h5 h1)
   have e:=q0x x.tx
   omega
  ·split at e
   ·cases e;simp
   ·split at e
    ·cases e
    ·cases e;simp
 | .one x a,s,h,e=>q8a a s h.2.2 e
 | .two x a b,s,h,e=>by
  simp only [Tr.flat] at e
  simp only [Tr.lf]
  split at e
  ·cases ha:a.flat with
   | none=>rw [ha] at e;cases e
   | some u=>
    cases hb:b.flat with
    | none=>rw [ha,hb] at e;cases e
    | some v=>
     rw [ha,hb] at e
     cases e
     have:=q8a a u h.2.2.1 ha
     have:=q8a b v h.2.2.2 hb
     rw [List.length_append]
     omega
  ·have:=q8a a s h.2.2.1 e
   omega
theorem q5t:∀ (t:Tr) (d:Nat) (p:List UInt8 × List Int),t.Wf→p∈t.outs d→p.1.length≤t.lf*(21+d+t.dsum)
 | .leaf x,d,p,h,hp=>by
  obtain ⟨_,_,_,_,h5,_⟩:=q1w h.1
  simp only [Tr.outs,List.mem_singleton] at hp
  subst hp
  simp only [Tr.lf,Tr.dsum]
  split
  ·rename_i h1
   have:=q3y (h5 h1)
   have e:=q0x x.tx
   omega
  ·split
   ·simp
   ·simp;omega
 | .one x a,d,p,h,hp=>by
  obtain ⟨_,_,_,_,_,h6⟩:=q1w h.1
  simp only [Tr.outs] at hp
  simp only [Tr.lf,Tr.dsum]
  split at hp
  ·rename_i h7
   have h1:=q5t a _ p h.2.2 hp
   have h2:a.lf*(21+(d+x.n.toNat)+a.dsum)≤a.lf*(21+d+(8+a.dsum)):=Nat.mul_le_mul_left _ (by have:=h6 h7;omega)
   omega
  ·rcases List.mem_append.1 hp with hp | hp
   ·cases hf:a.flat with
    | none=>rw [hf] at hp;simp at hp
    | some s=>
     rw [hf] at hp
     simp only [List.mem_singleton] at hp
     subst hp
     have h1:=q8a a s h.2.2 hf
     have h2:a.lf*20≤a.lf*(21+d+(8+a.dsum)):=Nat.mul_le_mul_left _ (by omega)
     dsimp only
     omega
   ·obtain ⟨q,hq,rfl⟩:=List.mem_map.1 hp
    have h1:=q5t a d q h.2.2 hq
    have h2:a.lf*(21+d+a.dsum)≤a.lf*(21+d+(8+a.dsum)):=Nat.mul_le_mul_left _ (by omega)
    dsimp only
    omega
 | .two x a b,d,p,h,hp=>by
  simp only [Tr.outs] at hp
  simp only [Tr.lf,Tr.dsum]
  have ma:a.lf*(21+d+a.dsum)≤a.lf*(21+d+(a.dsum+b.dsum)):=Nat.mul_le_mul_left _ (by omega)
  have mb:b.lf*(21+d+b.dsum)≤b.lf*(21+d+(a.dsum+b.dsum)):=Nat.mul_le_mul_left _ (by omega)
  rw [Nat.add_mul]
  split at hp
  ·obtain ⟨u,hu,hp⟩:=List.mem_flatMap.1 hp
   obtain ⟨v,hv,rfl⟩:=List.mem_map.1 hp
   have h1:=q5t a d u h.2.2.1 hu
   have h2:=q5t b d v h.2.2.2 hv
   simp only [List.length_append]
   omega
  ·rcases List.mem_append.1 hp with hp | hp
   ·obtain ⟨q,hq,rfl⟩:=List.mem_map.1 hp
    have h1:=q5t a d q h.2.2.1 hq
    dsimp only
    omega
   ·obtain ⟨q,hq,rfl⟩:=List.mem_map.1 hp
    have h1:=q5t b d q h.2.2.2 hq
    dsimp only
    omega
def lfK:List (Nat × Tr)→Nat
 | []=>0
 | (_,t)::ks=>t.lf+lfK ks
def KB (M:Nat) (ks:List (Nat × Tr)):Prop:=∀ p∈ks,p.1+p.2.dsum≤M∧p.2.Wf
theorem z9s (M:Nat):∀ (ks:List (Nat × Tr)) (p:List UInt8 × List Int),KB M ks→p∈q4k ks→p.1.length≤lfK ks*(21+M)
 | [],p,_,hp=>by simp only [q4k,List.mem_singleton] at hp;subst hp;simp
 | (d,t)::ks,p,hk,hp=>by
  rw [q4k] at hp
  obtain ⟨u,hu,hp⟩:=List.mem_flatMap.1 hp
  obtain ⟨v,hv,rfl⟩:=List.mem_map.1 hp
  obtain ⟨k1,k2⟩:=hk (d,t) (by simp)
  have h1:=q5t t d u k2 hu
  have h2:=z9s M ks v (fun q hq=>hk q (by simp [hq])) hv
  have h3:t.lf*(21+d+t.dsum)≤t.lf*(21+M):=Nat.mul_le_mul_left _ (by dsimp only at k1;omega)
  simp only [lfK,List.length_append,Nat.add_mul]
  omega
theorem k0y (wd:Nat):∀ (s:List UInt8) (c:Nat),(q2x wd c s).1≤s.length∧(q2x wd c s).2.1≤s.length
 | [],c=>by simp [q2x]
 | b::s,c=>by
  simp only [q2x,List.length_cons]
  split
  ·have:=k0y wd s 0
   dsimp only
   omega
  ·have:=k0y wd s (c+1)
   dsimp only
   split<;>omega
def bs (wd c:Nat) (ks:List (Nat × Tr)):Crs:=(bst wd c ks).getD ((0,0),[])
theorem q2r (wd c:Nat) (ks:List (Nat × Tr)):bst wd c ks=some (bs wd c ks):=by
 obtain ⟨a,h⟩:=k2x wd c ks
 rw [bs,h];rfl
theorem y3n (wd c M:Nat) (ks:List (Nat × Tr)) (h:KB M ks):(bs wd c ks).1.1≤lfK ks*(21+M)∧(bs wd c ks).1.2≤lfK ks*(21+M):=by
 obtain ⟨p,q,e,_,_⟩:=z6j (q2r wd c ks)
 have hin:bs wd c ks∈q3s wd c ks:=by rw [e];simp
 obtain ⟨x,hx,hxe⟩:=List.mem_map.1 hin
 rw [←hxe]
 have h1:=z9s M ks x h hx
 have h2:=k0y wd x.1 c
 dsimp only
 omega
theorem most:∀ D,D<401→(400 - D)*(21+8*D)≤400000:=by
 set_option maxRecDepth 100000 in decide
theorem v6l {L M n:Nat} (h:8*L+M≤8*n) (hn:n≤400):L*(21+M)≤400000:=by
 have h1:=most ((M+7) / 8) (by omega)
 have h2:L*(21+M)≤(400 - (M+7) / 8)*(21+8*((M+7) / 8)):=Nat.mul_le_mul (by omega) (by omega)
 omega
theorem v9f (wd c:Nat):bs wd c []=((0,0),[]):=by rw [bs,v4g];rfl
theorem k8u (wd c:Nat) (ks:List (Nat × Tr)):bs wd c ks=bs wd (min c wd) ks:=by rw [bs,v4f];rfl
theorem v4d {wd c d:Nat} {x:Nd} {ks:List (Nat × Tr)} (hx:q0u x=0) (h:x.op=1) (hc:c≤wd):bs wd c ((d,.leaf x)::ks)=q4v (c+x.tx.size - wd) 0 [] (bs wd (min (c+x.tx.size) wd) ks):=by
 have hs:∀ b∈x.tx.data.toList,b≠10:=j5j hx h
 have e:=z5x wd c d x ks x.tx.data.toList (by rw [if_pos h])
 rw [q8s wd _ c hs,q0x,q2r,q2r wd (c+x.tx.size),Option.map_some,Option.some.injEq,k8u wd (c+x.tx.size)] at e
 rw [e,Nat.sub_eq_zero_of_le hc,Nat.sub_zero]
theorem v4c {wd c d:Nat} {x:Nd} {ks:List (Nat × Tr)} (h:x.op≠1∧x.op≠5):bs wd c ((d,.leaf x)::ks)=q4v (d - wd) 1 [] (bs wd (min d wd) ks):=by
 have e:=z5x wd c d x ks (10::List.replicate d 32) (by rw [if_neg h.1,if_neg h.2])
 rw [k9g,q2r,q2r wd d,Option.map_some,Option.some.injEq,k8u wd d] at e
 exact e
theorem v4e {wd c d:Nat} {x:Nd} {ks:List (Nat × Tr)} (h:x.op=5):bs wd c ((d,.leaf x)::ks)=q4v 0 0 [] (bs wd c ks):=by
 have e:=z5x wd c d x ks [] (by rw [if_neg (by omega),if_pos h])
 rw [q2r,q2x,q2r wd c ks,Option.map_some,Option.some.injEq] at e
 exact e
theorem v3z {wd c d:Nat} {x:Nd} {a:Tr} {ks:List (Nat × Tr)} (h:x.op=7):bs wd c ((d,.one x a)::ks)=bs wd c ((d+x.n.toNat,a)::ks):=by rw [bs,j6v wd c d x a ks h];rfl
theorem v3y {wd c d:Nat} {x:Nd} {a b:Tr} {ks:List (Nat × Tr)} (h:x.op=6):bs wd c ((d,.two x a b)::ks)=bs wd c ((d,a)::(d,b)::ks):=by rw [bs,j6u wd c d x a b ks h];rfl
theorem k8t {wd c d:Nat} {x:Nd} {a b:Tr} {ks:List (Nat × Tr)} (h:x.op≠6):bs wd c ((d,.two x a b)::ks)=k4k (q4v 0 0 [0] (bs wd c ((d,a)::ks))) (q4v 0 0 [1] (bs wd c ((d,b)::ks))):=by
 have e:=k5k wd c d x a b ks h
 rw [q2r,q2r wd c ((d,a)::ks),q2r wd c ((d,b)::ks),Option.map_some,Option.map_some,q6i,Option.some.injEq] at e
 exact e
theorem j6s {wd c d:Nat} {x:Nd} {a:Tr} {ks:List (Nat × Tr)} {s:List UInt8} (h:x.op≠7) (ha:a.Wf) (hf:a.flat=some s) (hc:c≤wd) :
  bs wd c ((d,.one x a)::ks)=k4k (q4v (c+s.length - wd) 0 [0] (bs wd (min (c+s.length) wd) ks)) (q4v 0 0 [1] (bs wd c ((d,a)::ks))):=by
 have e:=z8c wd c d x a ks h
 rw [hf] at e
 dsimp only at e
 rw [q8s wd _ c (q5f a s ha hf),q2r,q2r wd (c+s.length),q2r wd c ((d,a)::ks),Option.map_some,Option.map_some,q6i,Option.some.injEq,k8u wd (c+s.length)] at e
 rw [e,Nat.sub_eq_zero_of_le hc,Nat.sub_zero]
theorem v4b {wd c d:Nat} {x:Nd} {a:Tr} {ks:List (Nat × Tr)} (h:x.op≠7) (hf:a.flat=none):bs wd c ((d,.one x a)::ks)=q4v 0 0 [1] (bs wd c ((d,a)::ks)):=by
 have e:=z8c wd c d x a ks h
 rw [hf] at e
 dsimp only at e
 rw [q2r,q2r wd c ((d,a)::ks),Option.map_some,q6i,Option.some.injEq] at e
 exact e
end Go.Proofs.YthjapabokcajhaaGreatDoor
namespace Go.Proofs.YthjapabokcajhaaGreatDoor
open Go
def j6b:List Wd→List Nat→List (List Wd)
 | _,[]=>[]
 | ws,k::ks=>ws.take k::j6b (ws.drop k) ks
theorem j8b:∀ g:List Wd,jnL (g.map wbS)=jb g
 | []=>rfl
 | [w]=>by simp [jnL,jb,wbS,Lib.join_one]
 | w::u::r=>by
  have ih:=j8b (u::r)
  have e:jb (w::u::r)=w++32::jb (u::r):=rfl
  rw [e,←ih]
  simp [jnL,wbS,Lib.join_cons,Lib.joinTail]
theorem k3q:∀ (ks:List Nat) (ws:List Wd),z9f (ws.map wbS) ks=(j6b ws ks).map fun g=>wbS (jb g)
 | [],_=>rfl
 | k::ks,ws=>by
  have ih:=k3q ks (ws.drop k)
  rw [z9f,j6b,List.map_cons,←List.map_drop,←List.map_take,ih,jnS,j8b]
  rfl
theorem z8t (wd:Nat):∀ (n:Nat) (ws:List Wd),ws.length≤n→(∀ g∈j6b ws (z0e wd (ws.map wbS)),g≠[]∧g.length≤ws.length∧∀ w∈g,w∈ws)∧(j6b ws (z0e wd (ws.map wbS))).flatten=ws∧(ws≠[]→j6b ws (z0e wd (ws.map wbS))≠[])
 | 0,ws,h=>by
  have:ws=[]:=List.eq_nil_of_length_eq_zero (by omega)
  subst this
  rw [List.map_nil,q5n]
  exact ⟨fun g hg=>(by simp [j6b] at hg),rfl,fun h=>absurd rfl h⟩
 | n+1,ws,h=>by
  by_cases h0:ws=[]
  ·subst h0
   rw [List.map_nil,q5n]
   exact ⟨fun g hg=>(by simp [j6b] at hg),rfl,fun h=>absurd rfl h⟩
  ·have h1:ws.map wbS≠[]:=by simpa using h0
   have hp:=q7w wd h1
   rw [List.length_map] at hp
   rw [q5a wd h1]
   generalize agF wd (ws.map wbS)=k at *
   rw [←List.map_drop]
   obtain ⟨i1,i2,_⟩:=z8t wd n (ws.drop k) (by rw [List.length_drop];omega)
   rw [j6b]
   refine ⟨fun g hg=>?_,?_,fun _=>by simp⟩
   ·rcases List.mem_cons.1 hg with rfl | hg
    ·refine ⟨fun e=>?_,by rw [List.length_take];omega,fun w hw=>List.mem_of_mem_take hw⟩
     have:=congrArg List.length e
     rw [List.length_take,List.length_nil] at this
     omega
    ·obtain ⟨a,b,c⟩:=i1 g hg
     rw [List.length_drop] at b
     exact ⟨a,by omega,fun w hw=>List.mem_of_mem_drop (c w hw)⟩
   ·rw [List.flatten_cons,i2,List.take_append_drop]
def ntL (wd:Nat) (tx:ByteArray):List UInt8:=if q0h (btL tx)=[] then [35,10] else (z9f ((q0h (btL tx)).map wbS) (z0e (wd - 2) ((q0h (btL tx)).map wbS))).flatMap fun l=>35::32::(btL l++[10])
def dcL (wd:Nat) (t:List Td):List UInt8:=(q0n t).txt (bs wd 0 [(0,q0n t)]).2++[10]
def k1w (t:List Td) (wd:Int):Int:=if wd<10∨100<wd then 1 else if q0f t≠0 then q0f t else if opT t=9 then 0 else if 400<(q0n t).nodes.length then 3 else 0
def z1j (wd:Nat) (t:List Td):List UInt8:=match t with
 | []=>[]
 | x::_=>if x.op=9 then ntL wd x.tx else dcL wd t
theorem y1i {t:List Td} {wd:Nat} (h:q0f t=0):∃ ws,FmS t (z1j wd t) ws:=by
 cases t with
 | nil=>exact absurd h (by decide)
 | cons x r=>
  by_cases h9:x.op=9
  ·have e:z1j wd (x::r)=ntL wd x.tx:=by rw [z1j,if_pos h9]
   rw [e]
   rcases q4a h with ⟨y,he,ho,hn,hf⟩ | hc
   ·obtain ⟨rfl,rfl⟩:x=y∧r=[]:=by simpa using he
    by_cases hz:btL x.tx=[]
    ·have e2:ntL wd x.tx=[35,10]:=by rw [ntL,if_pos (by rw [q0h,if_pos hz])]
     rw [e2]
     exact ⟨_,.empty rfl h9 hz⟩
    ·have hw:q0h (btL x.tx)≠[]:=by
      rw [q0h,if_neg hz]
      exact q5y _
     obtain ⟨n1,n2⟩:=z0q hf
     obtain ⟨g1,g2,g3⟩:=z8t (wd - 2) _ (q0h (btL x.tx)) (Nat.le_refl _)
     have e2:ntL wd x.tx=(j6b (q0h (btL x.tx)) (z0e (wd - 2) ((q0h (btL x.tx)).map wbS))).flatMap fun g=>lnW g++[10]:=by
      rw [ntL,if_neg hw,k3q,List.flatMap_map]
      rfl
     rw [e2]
     refine ⟨_,.note rfl h9 (g3 hw) (fun g hg=>?_) g2 hz⟩
     obtain ⟨a,b,c⟩:=g1 g hg
     exact ⟨a,by omega,fun w hw=>n2 w (c w hw)⟩
   ·obtain ⟨y,F,he,_,_,_,hy⟩:=hc
    have:x=y:=(List.cons.inj he).1
    subst this
    rcases hy with hy | hy
    ·exact absurd (h9.symm.trans hy.1) (by decide)
    ·exact absurd (h9.symm.trans hy.1) (by decide)
  ·have e:z1j wd (x::r)=dcL wd (x::r):=by rw [z1j,if_neg h9]
   rw [e,dcL]
   have hb:(q0n (x::r)).best wd=some (bs wd 0 [(0,q0n (x::r))]):=by rw [q8p,q2r]
   obtain ⟨_,b2,_⟩:=q7b hb
   generalize (bs wd 0 [(0,q0n (x::r))]).2=u at *
   generalize (q0n (x::r)).txt u=s at *
   unfold Tr.show at b2
   split at b2
   ·split at b2
    ·cases b2
    ·rename_i hl
     cases b2
     exact ⟨_,.doc h9 hl⟩
    ·cases b2
   ·cases b2
end Go.Proofs.YthjapabokcajhaaGreatDoor
namespace Go.Proofs.YthjapabokcajhaaGreatDoor
open Go
theorem q9b:∀ (t:Tr),t.noE→∀ (deep:Nat) (ws ws':List Int) (r:List UInt8),t.lay deep ws = .ok (r,ws')→(∀ c∈r,c≠10)→t.flat=some r
 | .leaf x,_,deep,ws,ws',r,h,hr=>by
  simp only [Tr.lay] at h
  simp only [Tr.flat]
  split at h
  ·rename_i h1
   cases h
   rw [if_pos h1]
  ·split at h
   ·rename_i h1 h5
    cases h
    rw [if_neg h1,if_neg (by omega),if_neg (by omega)]
   ·cases h
    exact absurd rfl (hr 10 (by simp))
 | .one x a,hn,deep,ws,ws',r,h,hr=>by
  simp only [Tr.lay] at h
  simp only [Tr.flat]
  split at h
  ·exact q9b a hn _ _ _ _ h hr
  ·split at h
   ·cases h
   ·split at h
    ·exact q9b a hn _ _ _ _ h hr
    ·split at h
     ·cases h
     ·rename_i he
      cases h
      exact he
 | .two x a b,hn,deep,ws,ws',r,h,hr=>by
  simp only [Tr.lay,if_pos hn.1] at h
  simp only [Tr.flat,if_pos hn.1]
  split at h
  ·cases h
  ·rename_i ha
   split at h
   ·cases h
   ·rename_i hb
    cases h
    rw [q9b a hn.2.1 _ _ _ _ ha fun c hc=>hr c (by simp [hc]),q9b b hn.2.2 _ _ _ _ hb fun c hc=>hr c (by simp [hc])]
def FlW (D:Tr):Prop:=∃ u s,D.flat=some s∧q2b u∧∀ deep rest,D.lay deep (u++rest) = .ok (s,rest)
theorem j7x (s:List UInt8):FlW (wdD s):=⟨[],s,rfl,fun _ h=>(by simp at h),fun _ _=>rfl⟩
theorem j7w {a:Tr} {s:List UInt8} (h:a.flat=some s):FlW (grD a):=⟨[0],s,h,fun c hc=>(by simp at hc;exact .inl hc),fun deep rest=>(by
 simp only [Tr.lay,List.cons_append,List.nil_append]
 rw [if_neg (by decide),if_neg (by decide),h])⟩
theorem y3u {a b:Tr} (ha:FlW a) (hb:FlW b):FlW (twD a b):=by
 obtain ⟨u,s,a1,a2,a3⟩:=ha
 obtain ⟨v,t,b1,b2,b3⟩:=hb
 refine ⟨u++v,s++t,q5e a1 b1,fun c hc=>?_,fun deep rest=>?_⟩
 ·rcases List.mem_append.1 hc with h | h
  ·exact a2 c h
  ·exact b2 c h
 ·simp only [Tr.lay,if_true]
  rw [List.append_assoc,a3]
  simp only
  rw [b3]
theorem j0u {op cl:List UInt8} {ps:List (Td × Tr)} {s:List UInt8} (h:(q1i op cl ps).flat=some s):FlW (q1i op cl ps):=by
 unfold q1i at h ⊢
 split
 ·exact j7x _
 ·rename_i h0
  rw [if_neg h0] at h
  exact j7w h
theorem y3t {x:Td} {ps:List (Td × Tr)} {ts:List Tn} (h:Mts ps ts) (hx:exN x) (hk:ps.length=kdT x):FlW (q0e x ps):=by
 have hf:=v9x h hx hk
 have two:kdT x=2→∃ a b,ps=[a,b]:=fun e=>by
  rw [e] at hk
  match ps,hk with
  | [a,b],_=>exact ⟨a,b,rfl⟩
 rcases q2a hx with ⟨ho,_⟩ | ⟨ho,_⟩ | ⟨ho,_⟩ | ⟨ho,_⟩ | ⟨ho,_,_,h2⟩ | ⟨ho,_,_,h2⟩
 ·rw [show q0e x ps=wdD (q2y x.n.toNat) by simp [q0e,ho]]
  exact j7x _
 ·rw [show q0e x ps=wdD (btL x.tx) by simp [q0e,ho]]
  exact j7x _
 ·rw [show q0e x ps=q1i (btL x.tx++[40]) [41] ps by simp [q0e,ho]] at hf ⊢
  exact j0u hf
 ·rw [show q0e x ps=q1i [91] [93] ps by simp [q0e,ho]] at hf ⊢
  exact j0u hf
 ·obtain ⟨a,b,rfl⟩:=two h2
  rw [show q0e x [a,b]=grD (twD (inD 0 a.1 a.2) (dpD (twD blD (twD (wdD [43,32]) (inD 1 b.1 b.2))))) by simp [q0e,tw2,ho]] at hf ⊢
  exact j7w hf
 ·obtain ⟨a,b,rfl⟩:=two h2
  rw [show q0e x [a,b]=grD (twD (inD 1 a.1 a.2) (dpD (twD blD (twD (wdD [42,32]) (inD 2 b.1 b.2))))) by simp [q0e,tw2,ho]] at hf ⊢
  exact j7w hf
theorem v9k {t:List Td} (h:q0f t=0) (h9:opT t≠9):FlW (q0n t):=by
 have hd0:=(q7s h h9).f
 obtain ⟨x,y,k,rfl,hok,hex,hk,hx⟩:=q4q h h9
 have hm:Mts k.dcs k.trs:=z1q k hok.2.1 fun z hz=>hex z (by simp [Fo.nodes,hz])
 have hd:FlW (q0e y k.dcs):=y3t hm (hex y (by simp [Fo.nodes])) (by rw [q3o];exact hok.1)
 have e0:q0n (x::(Fo.cons y k .nil).nodes)=stD x (q0e y k.dcs):=q7l hok hk
 rw [e0] at hd0 ⊢
 generalize q0e y k.dcs=D at *
 unfold stD at hd0 ⊢
 split
 ·rename_i ho
  rw [if_pos ho] at hd0
  exact j7w hd0
 ·exact y3u hd (j7x _)
theorem j7g {t:List Td} (h:q0f t=0) (h9:opT t≠9):∃ u∈(q0n t).ways,(q0n t).txt u=z7p t∧∀ b∈z7p t,b≠10:=by
 obtain ⟨u,s,a1,a2,a3⟩:=v9k h h9
 have hd:=q7s h h9
 obtain rfl:s=z7p t:=by rw [hd.f] at a1;exact (Option.some.inj a1).symm
 have hl:=a3 0 []
 rw [List.append_nil] at hl
 have hs:(q0n t).show u = .ok (z7p t):=by
  unfold Tr.show
  rw [if_pos (k5b.2 a2),hl]
 exact ⟨u,(z9w _ _).1 ⟨_,hs⟩,by rw [Tr.txt,hs],q5f _ _ hd.w a1⟩
theorem k3t (wd:Nat):∀ (s:List UInt8) (c:Nat),(q2x wd c s).2.1=0→∀ b∈s,b≠10
 | [],_,_,b,hb=>by cases hb
 | a::s,c,h,b,hb=>by
  simp only [q2x] at h
  split at h
  ·simp at h
  ·rename_i ha
   rcases List.mem_cons.1 hb with rfl | hb
   ·exact ha
   ·exact k3t wd s (c+1) h b hb
theorem k4a {t:List Td} (wd:Nat):∃ u∈(q0n t).ways,dcL wd t=(q0n t).txt u++[10]∧(q0n t).show u = .ok ((q0n t).txt u)∧∀ v∈(q0n t).ways,¬ q2z ((q0n t).cst wd v) ((q0n t).cst wd u):=by
 have hb:(q0n t).best wd=some (bs wd 0 [(0,q0n t)]):=by rw [q8p,q2r]
 obtain ⟨b1,b2,b3,b4⟩:=q7b hb
 exact ⟨_,b1,rfl,b2,fun v hv=>by rw [←b3];exact (b4 v hv).1⟩
theorem k4m {t:Tr} {u:List Int} {r:List UInt8} (h:t.show u = .ok r):t.lay 0 u = .ok (r,[]):=by
 unfold Tr.show at h
 split at h
 ·split at h
  ·cases h
  ·rename_i hl
   cases h
   exact hl
  ·cases h
 ·cases h
theorem v4n {t:List Td} {wd:Nat} (h:q0f t=0) (h9:opT t≠9) (hl:(z7p t).length≤wd):dcL wd t=z7p t++[10]:=by
 obtain ⟨v,v1,v2,v3⟩:=j7g h h9
 obtain ⟨u,u1,u2,u3,u4⟩:=k4a (t:=t) wd
 have hv:(q0n t).cst wd v=(0,0):=by
  rw [Tr.cst,v2,q8s wd _ 0 v3]
  simp
  omega
 have hu:=u4 v v1
 rw [hv,q2z] at hu
 have hz:(q2x wd 0 ((q0n t).txt u)).2.1=0:=by
  simp only [Tr.cst] at hu
  omega
 have hf:=q9b _ (q7s h h9).e _ _ _ _ (k4m u3) (k3t wd _ 0 hz)
 rw [(q7s h h9).f] at hf
 rw [u2,←Option.some.inj hf]
end Go.Proofs.YthjapabokcajhaaGreatDoor
namespace Go.Proofs.YthjapabokcajhaaGreatDoor
open Go
theorem z3a {t:List Td} (h:q0f t=0) (h9:opT t=9):∃ x,t=[x]∧x.op=9∧q2t x.tx=0∧z7p t=k0l x.tx:=by
 rcases q4a h with ⟨x,rfl,ho,hn,hf⟩ | ⟨x,F,rfl,_,_,_,hx⟩
 ·have hk:(Fo.nil).len=kdT x:=by simp [kdT,ho,Fo.len]
  have e1:z7p [x]=stX x []:=(z1k (x:=x) (F:=.nil) trivial hk).1
  exact ⟨x,rfl,ho,hf,by rw [e1,k0l];simp [stX,ho]⟩
 ·have h9':x.op=9:=h9
  rcases hx with ⟨hx,_⟩ | ⟨hx,_⟩<;>omega
theorem v7o {tx:ByteArray} {wd:Nat} (hl:(k0l tx).length≤wd):ntL wd tx=k0l tx++[10]:=by
 by_cases h0:btL tx=[]
 ·have h1:q0h (btL tx)=[]:=by rw [q0h,if_pos h0]
  rw [ntL,if_pos h1,k0l,if_pos (q9n.2 h0)]
  rfl
 ·have hz:tx.size≠0:=fun e=>h0 (q9n.1 e)
  have h1:q0h (btL tx)=q4w (btL tx):=by rw [q0h,if_neg h0]
  have hj:jb (q0h (btL tx))=btL tx:=by rw [h1,z2s]
  have hne:q0h (btL tx)≠[]:=by rw [h1];exact q5y _
  rw [k0l,if_neg hz] at hl ⊢
  rw [ntL,if_neg hne]
  generalize q0h (btL tx)=ws at *
  have hne':ws.map wbS≠[]:=by simpa using hne
  have hln:ln (ws.map wbS)=(btL tx).length:=by rw [←k1j,j8b,hj]
  simp only [List.length_append,List.length_cons,List.length_nil] at hl
  have hg:fOf (wd - 2) (ws.map wbS) (ws.map wbS).length=0:=by
   rw [fOf,List.take_length,List.drop_length,z1m,hln,bd,if_neg (by omega),if_pos (by simp)]
  have hpos:1≤(ws.map wbS).length:=List.length_pos_iff.2 hne'
  have hm:z4a (fOf (wd - 2) (ws.map wbS)) (ws.map wbS).length=0:=by
   have:=z6w (fOf (wd - 2) (ws.map wbS)) (ws.map wbS).length (ws.map wbS).length hpos (Nat.le_refl _)
   omega
  have ha:agF (wd - 2) (ws.map wbS)=(ws.map wbS).length:=by
   have h2:=(q7w (wd - 2) hne').2
   rcases Nat.lt_or_ge (agF (wd - 2) (ws.map wbS)) (ws.map wbS).length with h | h
   ·exact absurd (hg.trans hm.symm) (z7v _ _ _ h (Nat.le_refl _) hpos)
   ·omega
  rw [q5a _ hne',ha,List.drop_length,q5n]
  simp only [z9f,List.take_length,List.flatMap_cons,List.flatMap_nil,List.append_nil]
  have e:btL (jnS (ws.map wbS))=btL tx:=by rw [jnS,j8b,hj]
  rw [e]
  rfl
theorem j9g {t:List Td} {wd:Nat} (h:q0f t=0) (hl:(z7p t).length≤wd):z1j wd t=z7p t++[10]:=by
 by_cases h9:opT t=9
 ·obtain ⟨x,rfl,ho,_,e⟩:=z3a h h9
  rw [e] at hl ⊢
  rw [z1j,if_pos ho]
  exact v7o hl
 ·cases t with
  | nil=>exact absurd h (by decide)
  | cons x r=>
   have:z1j wd (x::r)=dcL wd (x::r):=if_neg (show ¬ x.op=9 from h9)
   rw [this]
   exact v4n h h9 hl
def z8o (wd:Nat) (ps:List (List Td)):List UInt8:=ps.flatMap (z1j wd)
theorem j3p (wd:Nat):∀ (ps:List (List Td)) (prev:Int),okP prev ps→∃ ws,FmP ps (z8o wd ps) ws
 | [],_,_=>⟨[],.nil⟩
 | t::ps,prev,h=>by
  obtain ⟨ws,h1⟩:=y1i (wd:=wd) h.1
  obtain ⟨us,h2⟩:=j3p wd ps _ h.2.2
  exact ⟨ws++us,.cons h1 h2⟩
theorem j7v {s:ByteArray} {ps:List (List Td)} {k:Int} (h:q7q s ps k 0) (wd:Nat):(q1f ps).2=0∧q7q (wbS (z8o wd ps)) ps 0 0:=by
 obtain ⟨h0,hg,hf⟩:q6g (btL s)=0∧PG false [] (q2w (btL s)) (.ok ps)∧(q1f ps).2=0:=by
  generalize hz:(0:Int)=z at h
  cases h with
  | lex h1=>exact absurd hz.symm h1
  | bad=>cases hz
  | full _ _ h1=>exact absurd hz.symm h1
  | ok h1 h2 h3=>exact ⟨h1,h2,h3⟩
 have h4:=v7u hg ps rfl
 have h5:=(z2w h0).2.2
 have h6:q3k ([]:List (List Td))=0:=rfl
 obtain ⟨ws,hfm⟩:=j3p wd ps 0 (q6t hf).2
 exact ⟨hf,v4u hf (by omega) hfm⟩
end Go.Proofs.YthjapabokcajhaaGreatDoor
namespace Go.Proofs.YthjapabokcajhaaGreatDoor
open Go Go.RowKit
def q1o (n:Int):Value:=if n=0 then .nilIface else .iface 23 (.int .i64 n)
theorem q0r:q1o 0 = .nilIface:=rfl
theorem z4m:q1o 1 = .iface 23 (.int .i64 1):=rfl
theorem z8j:q1o 2 = .iface 23 (.int .i64 2):=rfl
theorem k3h:q1o 3 = .iface 23 (.int .i64 3):=rfl
theorem v9n:q1o 4 = .iface 23 (.int .i64 4):=rfl
theorem v1t:q1o 5 = .iface 23 (.int .i64 5):=rfl
theorem q0l {n:Int} (h:n≠0):q1o n = .iface 23 (.int .i64 n):=by simp [q1o,h]
theorem q1r {W w1:World} (hb:Below W.heap.size W w1):(∀ b o,b<W.heap.size→w1.cell? ⟨b,o,none⟩=W.cell? ⟨b,o,none⟩)∧(∀ b o,b<W.heap.size→w1.frozen? ⟨b,o,none⟩=W.frozen? ⟨b,o,none⟩):=
 ⟨fun b o h=>hb.cell (p:=⟨b,o,none⟩) h,fun b o h=>hb.frozen (p:=⟨b,o,none⟩) h⟩
theorem ane {b o b' o':Nat} (h:b≠b'∨o≠o'):(⟨b,o,none⟩:Addr)≠⟨b',o',none⟩:=by
 intro e;simp at e;omega
theorem cso {W:World} {b o b' o':Nat} {v:Value} (h:b≠b'∨o≠o'):(W.setCell ⟨b,o,none⟩ v).cell? ⟨b',o',none⟩=W.cell? ⟨b',o',none⟩:=World.cell?_setCell_other (h:=ane h) ..
theorem css {W:World} {a:Addr} {v u:Value} (h:W.cell? a=some u):(W.setCell a v).cell? a=some v:=World.cell?_setCell_same (h:=h) ..
theorem csf {W:World} {a b:Addr} {v:Value}:(W.setCell a v).frozen? b=W.frozen? b:=World.frozen?_setCell ..
theorem z7y {n:Nat} {w w1 w2:World} {A:Obj} (h1:Below n w w1) (hn:n≤w.heap.size) (hb:Below (w1.alloc A).heap.size (w1.alloc A) w2):Below n w w2:=
 (h1.alloc (by have:=h1.size;omega) _).trans (hb.mono (by have:=h1.size;simp;omega))
theorem q0i {n:Nat} {w w1 w2:World} (h1:Below n w w1) (hn:n≤w.heap.size) (hb:Below w1.heap.size w1 w2):Below n w w2:=
 h1.trans (hb.mono (by have:=h1.size;omega))
theorem hid {p:Prop} (h:p):Hid p:=h
end Go.Proofs.YthjapabokcajhaaGreatDoor
namespace Go.Proofs.YthjapabokcajhaaGreatDoor
open Go Go.RowKit
def z3z (B:Nat) (w:World) (a:Option Addr) (ws:List ByteArray):Prop:=
 ∀ i (h:i<ws.length),∃ b o,a=some ⟨b,o,none⟩∧b<B∧w.cell? ⟨b,o+i,none⟩=some (.string ws[i])
theorem z3z.below {B:Nat} {w w':World} {a:Option Addr} {ws:List ByteArray} (h:z3z B w a ws) (hb:Below B w w'):z3z B w' a ws:=by
 intro i hi
 obtain ⟨b,o,e,hlt,c1⟩:=h i hi
 exact ⟨b,o,e,hlt,(hb.cell (p:=⟨b,_,none⟩) hlt).trans c1⟩
theorem z3z.up {B B':Nat} {w:World} {a:Option Addr} {ws:List ByteArray} (h:z3z B w a ws) (hB:B≤B'):z3z B' w a ws:=by
 intro i hi
 obtain ⟨b,o,e,hlt,c1⟩:=h i hi
 exact ⟨b,o,e,by omega,c1⟩
theorem z3z.nil (B:Nat) (w:World) (a:Option Addr):z3z B w a []:=fun i hi=>by simp at hi
theorem z3z.take {B:Nat} {w:World} {a:Option Addr} {ws:List ByteArray} (h:z3z B w a ws) (k:Nat):z3z B w a (ws.take k):=by
 intro i hi
 have hi':i<ws.length:=by simp at hi;omega
 obtain ⟨b,o,e,hlt,c1⟩:=h i hi'
 exact ⟨b,o,e,hlt,by rw [List.getElem_take];exact c1⟩
theorem z3z.drop {B:Nat} {w:World} {b o:Nat} {ws:List ByteArray} (h:z3z B w (some ⟨b,o,none⟩) ws) (k:Nat):z3z B w (some ⟨b,o+k,none⟩) (ws.drop k):=by
 intro i hi
 have hi':k+i<ws.length:=by simp at hi;omega
 obtain ⟨b',o',e,hlt,c1⟩:=h (k+i) hi'
 simp only [Option.some.injEq,Addr.mk.injEq,and_true] at e
 obtain ⟨rfl,rfl⟩:=e
 refine ⟨b,o+k,rfl,hlt,?_⟩
 rw [List.getElem_drop,Nat.add_assoc];exact c1
theorem z3z.some {B:Nat} {w:World} {a:Option Addr} {ws:List ByteArray} (h:z3z B w a ws) (h0:0<ws.length):∃ b o,a=some ⟨b,o,none⟩∧b<B:=by
 obtain ⟨b,o,e,hlt,_⟩:=h 0 h0
 exact ⟨b,o,e,hlt⟩
abbrev Wds (w:World) (a:Option Addr) (ws:List ByteArray):Prop:=z3z w.heap.size w a ws
theorem Wds.below {w w':World} {a:Option Addr} {ws:List ByteArray} (h:Wds w a ws) (hb:Below w.heap.size w w'):Wds w' a ws:=(z3z.below h hb).up hb.size
end Go.Proofs.YthjapabokcajhaaGreatDoor
namespace Go.Proofs.YthjapabokcajhaaGreatDoor
open Go Go.RowKit
def q2i (w:World) (a:Option Addr) (ds:List Nd):Prop:=
 ∀ i (h:i<ds.length),∃ b o,a=some ⟨b,o,none⟩∧b<w.heap.size∧w.cell? ⟨b,o+i*3,none⟩=some (.int .i64 ds[i].op)∧w.cell? ⟨b,o+i*3+1,none⟩=some (.string ds[i].tx)∧w.cell? ⟨b,o+i*3+2,none⟩=some (.int .i64 ds[i].n)
theorem q2i.below {w w':World} {a:Option Addr} {ds:List Nd} (h:q2i w a ds) (hb:Below w.heap.size w w'):q2i w' a ds:=by
 intro i hi
 obtain ⟨b,o,e,hlt,c1,c2,c3⟩:=h i hi
 obtain ⟨hc,_⟩:=q1r hb
 have:=hb.size
 exact ⟨b,o,e,by omega,(hc _ _ hlt).trans c1,(hc _ _ hlt).trans c2,(hc _ _ hlt).trans c3⟩
abbrev y5g (x:Nd):Value:=.agg #[.int .i64 x.op,.string x.tx,.int .i64 x.n]
end Go.Proofs.YthjapabokcajhaaGreatDoor
