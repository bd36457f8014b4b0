/- Texts as one: BstQ, BstR, FlatS, BstS, LnV, LnR, LnW, LnX, Base, FilM, DocA0, TreM, LayO. -/
import Derived.Test.YtchdplceopegoaaGreatDoorPw05
import Derived.WalkKit
import Derived.Outline
import Derived.WalkLawsBesides
import Derived.Test.YtchdplceopegoaaGreatDoorProg
namespace Go.Proofs.YtchdplceopegoaaGreatDoor
theorem v5j (t:Tr) (deep:Nat):t.outs deep≠[]:=fun h=>by
 have:=q2q t deep
 rw [h] at this
 exact z2x t this.symm
theorem k3j:∀ ks:List (Nat × Tr),q4c ks≠[]
 | []=>by simp [q4c]
 | (d,t)::ks=>by
  have h1:=v5j t d
  have h2:=k3j ks
  obtain ⟨p,ps,e⟩:=List.exists_cons_of_ne_nil h1
  rw [q4c,e]
  simp [h2]
theorem k2e (wd c:Nat) (ks:List (Nat × Tr)):∃ a,bst wd c ks=some a:=by
 cases h:bst wd c ks with
 | some a=>exact ⟨a,rfl⟩
 | none=>
  have:=k9r h
  unfold q3m at this
  exact absurd (List.map_eq_nil_iff.1 this) (k3j ks)
def Tr.txt (t:Tr) (u:List Int):List UInt8:=match t.show u with | .ok s=>s | .error _=>[]
theorem j1w {t:Tr} {p:List UInt8 × List Int} (h:p∈t.outs 0):t.show p.2 = .ok p.1:=by
 have hw:p.2∈t.ways:=by rw [←q2q t 0];exact List.mem_map.2 ⟨p,h,rfl⟩
 have hl:=q5h t 0 p h []
 rw [List.append_nil] at hl
 unfold Tr.show
 rw [if_pos (k7d.2 (q6i t _ hw)),hl]
theorem j7w {t:Tr} {p:List UInt8 × List Int} (h:p∈t.outs 0):t.txt p.2=p.1:=by rw [Tr.txt,j1w h]
def Tr.cst (t:Tr) (wd:Nat) (u:List Int):Nat × Nat:=((q2v wd 0 (t.txt u)).1,(q2v wd 0 (t.txt u)).2.1)
theorem k5g (t:Tr) (wd:Nat):q3m wd 0 [(0,t)]=t.ways.map fun u=>(t.cst wd u,u):=by
 have h1:q4c [(0,t)]=t.outs 0:=by simp [q4c]
 unfold q3m
 rw [h1,←q2q t 0,List.map_map]
 refine List.map_congr_left fun p hp=>?_
 simp only [Function.comp,Tr.cst,j7w hp]
def Tr.best (t:Tr) (wd:Nat):Option Crs:=fm (t.ways.map fun u=>(t.cst wd u,u))
theorem z0y (t:Tr) (wd:Nat):t.best wd=bst wd 0 [(0,t)]:=by rw [Tr.best,←k5g];rfl
theorem k7o (t:Tr) (wd:Nat):∃ a,t.best wd=some a:=by rw [z0y];exact k2e wd 0 _
theorem z3k:∀ u:List Int,¬ q2e u u
 | []=>by simp [q2e]
 | a::u=>by simp only [q2e,if_pos];exact z3k u
theorem z1q:∀ {u v:List Int},q2e u v→¬ q2e v u
 | a::u,b::v,h=>by
  simp only [q2e] at h ⊢
  by_cases e:a=b
  ·subst e
   rw [if_pos rfl] at h ⊢
   exact z1q h
  ·rw [if_neg e] at h
   rw [if_neg fun k=>e k.symm]
   omega
theorem q9j {t:Tr} {wd:Nat} {a:Crs} (h:t.best wd=some a):a.2∈t.ways∧t.show a.2 = .ok (t.txt a.2)∧a.1=t.cst wd a.2∧∀ w∈t.ways,¬ q2x (t.cst wd w) a.1∧(t.cst wd w=a.1→¬ q2e w a.2):=by
 obtain ⟨p,q,e,h1,h2⟩:=z5k h
 obtain ⟨p',r,e1,e2,e3⟩:=List.map_eq_append_iff.1 e
 obtain ⟨x,q',e4,e5,e6⟩:=List.map_eq_cons_iff.1 e3
 subst e4 e2 e6 e5
 have hin:x∈t.ways:=by rw [e1];simp
 have hr:=q9c t
 rw [e1] at hr
 refine ⟨hin,?_,rfl,fun w hw=>?_⟩
 ·obtain ⟨s,hs⟩:=(j2q t x).2 hin
  simp only [Tr.txt,hs]
 ·rw [e1] at hw
  dsimp only
  rcases List.mem_append.1 hw with hw | hw
  ·have:=h1 _ (List.mem_map.2 ⟨w,hw,rfl⟩)
   dsimp only at this
   refine ⟨?_,fun k=>?_⟩
   ·unfold q2x at *
    omega
   ·rw [k] at this
    unfold q2x at this
    omega
  ·rcases List.mem_cons.1 hw with rfl | hw
   ·refine ⟨?_,fun _=>z3k _⟩
    unfold q2x
    omega
   ·refine ⟨h2 _ (List.mem_map.2 ⟨w,hw,rfl⟩),fun _=>z1q ?_⟩
    exact (List.pairwise_cons.1 (List.pairwise_append.1 hr).2.1).1 w hw
theorem q6d:∀ (t t':Tr) (r r':List Nd),t.Wf→t'.Wf→t.nodes++r=t'.nodes++r'→t=t'∧r=r'
 | .leaf x,t',r,r',h,h',e=>by
  cases t' with
  | leaf y=>simp only [Tr.nodes,List.cons_append,List.nil_append,List.cons.injEq] at e;exact ⟨by rw [e.1],e.2⟩
  | one y a=>
   simp only [Tr.nodes,List.cons_append,List.nil_append,List.cons.injEq] at e
   have h1:=h.2;have h2:=h'.2.1;rw [e.1,h2] at h1;cases h1
  | two y a b=>
   simp only [Tr.nodes,List.cons_append,List.nil_append,List.cons.injEq] at e
   have h1:=h.2;have h2:=h'.2.1;rw [e.1,h2] at h1;cases h1
 | .one x a,t',r,r',h,h',e=>by
  cases t' with
  | leaf y=>
   simp only [Tr.nodes,List.cons_append,List.nil_append,List.cons.injEq] at e
   have h1:=h.2.1;have h2:=h'.2;rw [e.1,h2] at h1;cases h1
  | one y a'=>
   simp only [Tr.nodes,List.cons_append,List.cons.injEq] at e
   obtain ⟨e1,e2⟩:=q6d a a' r r' h.2.2 h'.2.2 e.2
   exact ⟨by rw [e.1,e1],e2⟩
  | two y a' b=>
   simp only [Tr.nodes,List.cons_append,List.cons.injEq] at e
   have h1:=h.2.1;have h2:=h'.2.1;rw [e.1,h2] at h1;cases h1
 | .two x a b,t',r,r',h,h',e=>by
  cases t' with
  | leaf y=>
   simp only [Tr.nodes,List.cons_append,List.nil_append,List.cons.injEq] at e
   have h1:=h.2.1;have h2:=h'.2;rw [e.1,h2] at h1;cases h1
  | one y a'=>
   simp only [Tr.nodes,List.cons_append,List.cons.injEq] at e
   have h1:=h.2.1;have h2:=h'.2.1;rw [e.1,h2] at h1;cases h1
  | two y a' b'=>
   simp only [Tr.nodes,List.cons_append,List.append_assoc,List.cons.injEq] at e
   obtain ⟨e1,e2⟩:=q6d a a' _ _ h.2.2.1 h'.2.2.1 e.2
   obtain ⟨e3,e4⟩:=q6d b b' r r' h.2.2.2 h'.2.2.2 e2
   exact ⟨by rw [e.1,e1,e3],e4⟩
theorem j1i {t t':Tr} (h:t.Wf) (h':t'.Wf) (e:t.nodes=t'.nodes):t=t':=(q6d t t' [] [] h h' (by rw [e])).1
noncomputable def v0e (ds:List Nd) (h:q2k ds=0):Tr:=Classical.choose (z5g h)
theorem q9o {ds:List Nd} (h:q2k ds=0):(v0e ds h).Wf:=(Classical.choose_spec (z5g h)).1
theorem q3s {ds:List Nd} (h:q2k ds=0):ds=(v0e ds h).nodes:=(Classical.choose_spec (z5g h)).2
theorem z5f {ds:List Nd} (h:q2k ds=0) {t:Tr} (ht:t.Wf) (e:ds=t.nodes):v0e ds h=t:=j1i (q9o h) ht ((q3s h).symm.trans e)
open Classical in
noncomputable def flS (ds:List Nd):ByteArray:=if h:q2k ds=0 then (v0e ds h).line else ⟨#[]⟩
open Classical in
noncomputable def flB (ds:List Nd):Bool:=if h:q2k ds=0 then (v0e ds h).isFlat else false
theorem k9k {ds:List Nd} {t:Tr} (ht:t.Wf) (e:ds=t.nodes) (hl:ds.length≤400):q2k ds=0∧flS ds=t.line∧flB ds=t.isFlat:=by
 have h:q2k ds=0:=by rw [e];exact q8x ht (by rw [←e];exact hl)
 refine ⟨h,?_,?_⟩
 ·rw [flS,dif_pos h,z5f h ht e]
 ·rw [flB,dif_pos h,z5f h ht e]
theorem v7i {ds:List Nd} (h:q2k ds≠0):flS ds=⟨#[]⟩∧flB ds=false:=⟨by rw [flS,dif_neg h],by rw [flB,dif_neg h]⟩
theorem j0u {x:Nd} {a c:Tr} (h:x.op=6):Tr.line (.two x a c)=(if (a.isFlat && c.isFlat)=true then a.line++c.line else ⟨#[]⟩)∧Tr.isFlat (.two x a c)=(a.isFlat && c.isFlat):=by
 unfold Tr.line Tr.isFlat
 simp only [Tr.flat,if_pos h]
 cases ha:a.flat with
 | none=>simp
 | some s=>
  cases hc:c.flat with
  | none=>simp
  | some t=>exact ⟨z7g (by simp),by simp⟩
theorem z1u (wd:Nat):∀ (s:List UInt8) (c c':Nat),wd≤c→wd≤c'→(q2v wd c s).1=(q2v wd c' s).1∧(q2v wd c s).2.1=(q2v wd c' s).2.1
 | [],c,c',_,_=>⟨rfl,rfl⟩
 | b::s,c,c',h,h'=>by
  by_cases hb:b=10
  ·simp only [q2v,if_pos hb,and_self]
  ·simp only [q2v,if_neg hb,if_pos h,if_pos h']
   obtain ⟨e1,e2⟩:=z1u wd s (c+1) (c'+1) (by omega) (by omega)
   exact ⟨by rw [e1],e2⟩
theorem k2j (wd c:Nat) (s:List UInt8):(q2v wd c s).1=(q2v wd (min c wd) s).1∧(q2v wd c s).2.1=(q2v wd (min c wd) s).2.1:=by
 rcases Nat.le_total c wd with h | h
 ·rw [Nat.min_eq_left h];exact ⟨rfl,rfl⟩
 ·rw [Nat.min_eq_right h];exact z1u wd s c wd h (Nat.le_refl _)
theorem v2k (wd c:Nat) (ks:List (Nat × Tr)):bst wd c ks=bst wd (min c wd) ks:=by
 unfold bst q3m
 congr 2
 funext p
 rw [(k2j wd c p.1).1,(k2j wd c p.1).2]
theorem z1b (wd:Nat):∀ (s:List UInt8) (c:Nat),(∀ b∈s,b≠10)→q2v wd c s=((c+s.length - wd) - (c - wd),0,c+s.length)
 | [],c,_=>by simp [q2v]
 | b::s,c,h=>by
  have hb:b≠10:=h b (by simp)
  simp only [q2v,if_neg hb,z1b wd s (c+1) (fun x hx=>h x (by simp [hx])),List.length_cons,Prod.mk.injEq,true_and]
  refine ⟨?_,by omega⟩
  split<;>omega
theorem k8k (wd c d:Nat):q2v wd c (10::List.replicate d 32)=(d - wd,1,d):=by
 simp only [q2v,if_pos]
 rw [z1b wd (List.replicate d 32) 0 (by intro b hb;rw [(List.mem_replicate.1 hb).2];decide)]
 simp
/-! ### How much a way may cost at most -/
def Tr.lf:Tr→Nat
 | .leaf _=>1
 | .one _ a=>a.lf
 | .two _ a b=>a.lf+b.lf
def Tr.dsum:Tr→Nat
 | .leaf _=>0
 | .one _ a=>8+a.dsum
 | .two _ a b=>a.dsum+b.dsum
theorem q7l:∀ t:Tr,8*t.lf+t.dsum≤8*t.nodes.length
 | .leaf _=>by simp [Tr.lf,Tr.dsum,Tr.nodes]
 | .one _ a=>by have:=q7l a;simp only [Tr.lf,Tr.dsum,Tr.nodes,List.length_cons];omega
 | .two _ a b=>by have:=q7l a;have:=q7l b;simp only [Tr.lf,Tr.dsum,Tr.nodes,List.length_cons,List.length_append];omega
theorem q7i:∀ (t:Tr) (s:List UInt8),t.Wf→t.flat=some s→s.length≤20*t.lf
 | .leaf x,s,h,e=>by
  obtain ⟨_,_,_,_,h5,_⟩:=q1r h.1
  simp only [Tr.flat] at e
  simp only [Tr.lf]
  split at e
  ·rename_i h1
   cases e
   have:=q3r (h5 h1)
   have e:=q0w x.tx
   omega
  ·split at e
   ·cases e;simp
   ·split at e
    ·cases e
    ·cases e;simp
 | .one x a,s,h,e=>q7i a s h.2.2 e
 | .two x a b,s,h,e=>by
  simp only [Tr.flat] at e
  simp only [Tr.lf]
  split at e
  ·cases ha:a.flat with
   | none=>rw [ha] at e;cases e
   | some u=>
    cases hb:b.flat with
    | none=>rw [ha,hb] at e;cases e
    | some v=>
     rw [ha,hb] at e
     cases e
     have:=q7i a u h.2.2.1 ha
     have:=q7i b v h.2.2.2 hb
     rw [List.length_append]
     omega
  ·have:=q7i a s h.2.2.1 e
   omega
theorem q5i:∀ (t:Tr) (d:Nat) (p:List UInt8 × List Int),t.Wf→p∈t.outs d→p.1.length≤t.lf*(21+d+t.dsum)
 | .leaf x,d,p,h,hp=>by
  obtain ⟨_,_,_,_,h5,_⟩:=q1r h.1
  simp only [Tr.outs,List.mem_singleton] at hp
  subst hp
  simp only [Tr.lf,Tr.dsum]
  split
  ·rename_i h1
   have:=q3r (h5 h1)
   have e:=q0w x.tx
   omega
  ·split
   ·simp
   ·simp;omega
 | .one x a,d,p,h,hp=>by
  obtain ⟨_,_,_,_,_,h6⟩:=q1r h.1
  simp only [Tr.outs] at hp
  simp only [Tr.lf,Tr.dsum]
  split at hp
  ·rename_i h7
   have h1:=q5i a _ p h.2.2 hp
   have h2:a.lf*(21+(d+x.n.toNat)+a.dsum)≤a.lf*(21+d+(8+a.dsum)):=Nat.mul_le_mul_left _ (by have:=h6 h7;omega)
   omega
  ·rcases List.mem_append.1 hp with hp | hp
   ·cases hf:a.flat with
    | none=>rw [hf] at hp;simp at hp
    | some s=>
     rw [hf] at hp
     simp only [List.mem_singleton] at hp
     subst hp
     have h1:=q7i a s h.2.2 hf
     have h2:a.lf*20≤a.lf*(21+d+(8+a.dsum)):=Nat.mul_le_mul_left _ (by omega)
     dsimp only
     omega
   ·obtain ⟨q,hq,rfl⟩:=List.mem_map.1 hp
    have h1:=q5i a d q h.2.2 hq
    have h2:a.lf*(21+d+a.dsum)≤a.lf*(21+d+(8+a.dsum)):=Nat.mul_le_mul_left _ (by omega)
    dsimp only
    omega
 | .two x a b,d,p,h,hp=>by
  simp only [Tr.outs] at hp
  simp only [Tr.lf,Tr.dsum]
  have ma:a.lf*(21+d+a.dsum)≤a.lf*(21+d+(a.dsum+b.dsum)):=Nat.mul_le_mul_left _ (by omega)
  have mb:b.lf*(21+d+b.dsum)≤b.lf*(21+d+(a.dsum+b.dsum)):=Nat.mul_le_mul_left _ (by omega)
  rw [Nat.add_mul]
  split at hp
  ·obtain ⟨u,hu,hp⟩:=List.mem_flatMap.1 hp
   obtain ⟨v,hv,rfl⟩:=List.mem_map.1 hp
   have h1:=q5i a d u h.2.2.1 hu
   have h2:=q5i b d v h.2.2.2 hv
   simp only [List.length_append]
   omega
  ·rcases List.mem_append.1 hp with hp | hp
   ·obtain ⟨q,hq,rfl⟩:=List.mem_map.1 hp
    have h1:=q5i a d q h.2.2.1 hq
    dsimp only
    omega
   ·obtain ⟨q,hq,rfl⟩:=List.mem_map.1 hp
    have h1:=q5i b d q h.2.2.2 hq
    dsimp only
    omega
def lfK:List (Nat × Tr)→Nat
 | []=>0
 | (_,t)::ks=>t.lf+lfK ks
def KB (M:Nat) (ks:List (Nat × Tr)):Prop:=∀ p∈ks,p.1+p.2.dsum≤M∧p.2.Wf
theorem z8u (M:Nat):∀ (ks:List (Nat × Tr)) (p:List UInt8 × List Int),KB M ks→p∈q4c ks→p.1.length≤lfK ks*(21+M)
 | [],p,_,hp=>by simp only [q4c,List.mem_singleton] at hp;subst hp;simp
 | (d,t)::ks,p,hk,hp=>by
  rw [q4c] at hp
  obtain ⟨u,hu,hp⟩:=List.mem_flatMap.1 hp
  obtain ⟨v,hv,rfl⟩:=List.mem_map.1 hp
  obtain ⟨k1,k2⟩:=hk (d,t) (by simp)
  have h1:=q5i t d u k2 hu
  have h2:=z8u M ks v (fun q hq=>hk q (by simp [hq])) hv
  have h3:t.lf*(21+d+t.dsum)≤t.lf*(21+M):=Nat.mul_le_mul_left _ (by dsimp only at k1;omega)
  simp only [lfK,List.length_append,Nat.add_mul]
  omega
theorem k0c (wd:Nat):∀ (s:List UInt8) (c:Nat),(q2v wd c s).1≤s.length∧(q2v wd c s).2.1≤s.length
 | [],c=>by simp [q2v]
 | b::s,c=>by
  simp only [q2v,List.length_cons]
  split
  ·have:=k0c wd s 0
   dsimp only
   omega
  ·have:=k0c wd s (c+1)
   dsimp only
   split<;>omega
def bs (wd c:Nat) (ks:List (Nat × Tr)):Crs:=(bst wd c ks).getD ((0,0),[])
theorem q2t (wd c:Nat) (ks:List (Nat × Tr)):bst wd c ks=some (bs wd c ks):=by
 obtain ⟨a,h⟩:=k2e wd c ks
 rw [bs,h];rfl
theorem y1a (wd c M:Nat) (ks:List (Nat × Tr)) (h:KB M ks):(bs wd c ks).1.1≤lfK ks*(21+M)∧(bs wd c ks).1.2≤lfK ks*(21+M):=by
 obtain ⟨p,q,e,_,_⟩:=z5k (q2t wd c ks)
 have hin:bs wd c ks∈q3m wd c ks:=by rw [e];simp
 obtain ⟨x,hx,hxe⟩:=List.mem_map.1 hin
 rw [←hxe]
 have h1:=z8u M ks x h hx
 have h2:=k0c wd x.1 c
 dsimp only
 omega
theorem most:∀ D,D<401→(400 - D)*(21+8*D)≤400000:=by
 set_option maxRecDepth 100000 in decide
theorem v4h {L M n:Nat} (h:8*L+M≤8*n) (hn:n≤400):L*(21+M)≤400000:=by
 have h1:=most ((M+7) / 8) (by omega)
 have h2:L*(21+M)≤(400 - (M+7) / 8)*(21+8*((M+7) / 8)):=Nat.mul_le_mul (by omega) (by omega)
 omega
theorem v6w (wd c:Nat):bs wd c []=((0,0),[]):=by rw [bs,v2l];rfl
theorem k7x (wd c:Nat) (ks:List (Nat × Tr)):bs wd c ks=bs wd (min c wd) ks:=by rw [bs,v2k];rfl
theorem v2i {wd c d:Nat} {x:Nd} {ks:List (Nat × Tr)} (hx:q0p x=0) (h:x.op=1) (hc:c≤wd):bs wd c ((d,.leaf x)::ks)=q4k (c+x.tx.size - wd) 0 [] (bs wd (min (c+x.tx.size) wd) ks):=by
 have hs:∀ b∈x.tx.data.toList,b≠10:=j4g hx h
 have e:=z4y wd c d x ks x.tx.data.toList (by rw [if_pos h])
 rw [z1b wd _ c hs,q0w,q2t,q2t wd (c+x.tx.size),Option.map_some,Option.some.injEq,k7x wd (c+x.tx.size)] at e
 rw [e,Nat.sub_eq_zero_of_le hc,Nat.sub_zero]
theorem v2h {wd c d:Nat} {x:Nd} {ks:List (Nat × Tr)} (h:x.op≠1∧x.op≠5):bs wd c ((d,.leaf x)::ks)=q4k (d - wd) 1 [] (bs wd (min d wd) ks):=by
 have e:=z4y wd c d x ks (10::List.replicate d 32) (by rw [if_neg h.1,if_neg h.2])
 rw [k8k,q2t,q2t wd d,Option.map_some,Option.some.injEq,k7x wd d] at e
 exact e
theorem v2j {wd c d:Nat} {x:Nd} {ks:List (Nat × Tr)} (h:x.op=5):bs wd c ((d,.leaf x)::ks)=q4k 0 0 [] (bs wd c ks):=by
 have e:=z4y wd c d x ks [] (by rw [if_neg (by omega),if_pos h])
 rw [q2t,q2v,q2t wd c ks,Option.map_some,Option.some.injEq] at e
 exact e
theorem v2f {wd c d:Nat} {x:Nd} {a:Tr} {ks:List (Nat × Tr)} (h:x.op=7):bs wd c ((d,.one x a)::ks)=bs wd c ((d+x.n.toNat,a)::ks):=by rw [bs,j5p wd c d x a ks h];rfl
theorem v2e {wd c d:Nat} {x:Nd} {a b:Tr} {ks:List (Nat × Tr)} (h:x.op=6):bs wd c ((d,.two x a b)::ks)=bs wd c ((d,a)::(d,b)::ks):=by rw [bs,j5o wd c d x a b ks h];rfl
theorem k7w {wd c d:Nat} {x:Nd} {a b:Tr} {ks:List (Nat × Tr)} (h:x.op≠6):bs wd c ((d,.two x a b)::ks)=k3s (q4k 0 0 [0] (bs wd c ((d,a)::ks))) (q4k 0 0 [1] (bs wd c ((d,b)::ks))):=by
 have e:=k4q wd c d x a b ks h
 rw [q2t,q2t wd c ((d,a)::ks),q2t wd c ((d,b)::ks),Option.map_some,Option.map_some,q5u,Option.some.injEq] at e
 exact e
theorem j5n {wd c d:Nat} {x:Nd} {a:Tr} {ks:List (Nat × Tr)} {s:List UInt8} (h:x.op≠7) (ha:a.Wf) (hf:a.flat=some s) (hc:c≤wd) :
  bs wd c ((d,.one x a)::ks)=k3s (q4k (c+s.length - wd) 0 [0] (bs wd (min (c+s.length) wd) ks)) (q4k 0 0 [1] (bs wd c ((d,a)::ks))):=by
 have e:=z7f wd c d x a ks h
 rw [hf] at e
 dsimp only at e
 rw [z1b wd _ c (q5y a s ha hf),q2t,q2t wd (c+s.length),q2t wd c ((d,a)::ks),Option.map_some,Option.map_some,q5u,Option.some.injEq,k7x wd (c+s.length)] at e
 rw [e,Nat.sub_eq_zero_of_le hc,Nat.sub_zero]
theorem v2g {wd c d:Nat} {x:Nd} {a:Tr} {ks:List (Nat × Tr)} (h:x.op≠7) (hf:a.flat=none):bs wd c ((d,.one x a)::ks)=q4k 0 0 [1] (bs wd c ((d,a)::ks)):=by
 have e:=z7f wd c d x a ks h
 rw [hf] at e
 dsimp only at e
 rw [q2t,q2t wd c ((d,a)::ks),Option.map_some,q5u,Option.some.injEq] at e
 exact e
end Go.Proofs.YtchdplceopegoaaGreatDoor
namespace Go.Proofs.YtchdplceopegoaaGreatDoor
open Go Go.RowKit
def ntL (wd:Nat) (tx:ByteArray):List UInt8:=if q0k (btL tx)=[] then [35,10] else (j0x ((q0k (btL tx)).map wbS) (z1v (wd - 2) ((q0k (btL tx)).map wbS))).flatMap fun l=>35::32::(btL l++[10])
def dcL (wd:Nat) (t:List Td):List UInt8:=(q0z t).txt (bs wd 0 [(0,q0z t)]).2++[10]
def z8r (t:List Td) (wd:Int):Int:=if wd<10∨100<wd then 1 else if q0c t≠0 then q0c t else if opT t=9 then 0 else if 400<(q0z t).nodes.length then 3 else 0
def q5x (wd:Nat) (t:List Td):List UInt8:=match t with
 | []=>[]
 | x::_=>if x.op=9 then ntL wd x.tx else dcL wd t
theorem j7t {t:List Td} (wd:Nat):∃ u∈(q0z t).ways,dcL wd t=(q0z t).txt u++[10]∧(q0z t).show u = .ok ((q0z t).txt u)∧∀ v∈(q0z t).ways,¬ q2x ((q0z t).cst wd v) ((q0z t).cst wd u):=by
 have hb:(q0z t).best wd=some (bs wd 0 [(0,q0z t)]):=by rw [z0y,q2t]
 obtain ⟨b1,b2,b3,b4⟩:=q9j hb
 exact ⟨_,b1,rfl,b2,fun v hv=>by rw [←b3];exact (b4 v hv).1⟩
theorem j8l {t:Tr} {u:List Int} {r:List UInt8} (h:t.show u = .ok r):t.lay 0 u = .ok (r,[]):=by
 unfold Tr.show at h
 split at h
 ·split at h
  ·cases h
  ·rename_i hl
   cases h
   exact hl
  ·cases h
 ·cases h
theorem z8o {t:List Td} (h:q0c t=0) (h9:opT t=9):∃ x,t=[x]∧x.op=9∧q3k x.tx=0∧q2y t=k6u x.tx:=by
 rcases q5l h with ⟨x,rfl,ho,hn,hf⟩ | ⟨x,F,rfl,_,_,_,hx⟩
 ·have hk:(Fo.nil).len=kdT x:=by simp [kdT,ho,Fo.len]
  have e1:q2y [x]=stX x []:=(z2n (x:=x) (F:=.nil) trivial hk).1
  exact ⟨x,rfl,ho,hf,by rw [e1,k6u];simp [stX,ho]⟩
 ·have h9':x.op=9:=h9
  rcases hx with ⟨hx,_⟩ | ⟨hx,_⟩<;>omega
def q8h (wd:Nat) (ps:List (List Td)):List UInt8:=ps.flatMap (q5x wd)
def q1e (n:Int):Value:=if n=0 then .nilIface else .iface 24 (.int .i64 n)
theorem q0n:q1e 0 = .nilIface:=rfl
theorem z3q:q1e 1 = .iface 24 (.int .i64 1):=rfl
theorem z7o:q1e 2 = .iface 24 (.int .i64 2):=rfl
theorem k2o:q1e 3 = .iface 24 (.int .i64 3):=rfl
theorem v7a:q1e 4 = .iface 24 (.int .i64 4):=rfl
theorem v0f:q1e 5 = .iface 24 (.int .i64 5):=rfl
theorem q0g {n:Int} (h:n≠0):q1e n = .iface 24 (.int .i64 n):=by simp [q1e,h]
theorem q0v {W w1:World} (hb:Below W.heap.size W w1):(∀ b o,b<W.heap.size→w1.cell? ⟨b,o,none⟩=W.cell? ⟨b,o,none⟩)∧(∀ b o,b<W.heap.size→w1.frozen? ⟨b,o,none⟩=W.frozen? ⟨b,o,none⟩):=
 ⟨fun b o h=>hb.cell (p:=⟨b,o,none⟩) h,fun b o h=>hb.frozen (p:=⟨b,o,none⟩) h⟩
theorem ane {b o b' o':Nat} (h:b≠b'∨o≠o'):(⟨b,o,none⟩:Addr)≠⟨b',o',none⟩:=by
 intro e;simp at e;omega
theorem cso {W:World} {b o b' o':Nat} {v:Value} (h:b≠b'∨o≠o'):(W.setCell ⟨b,o,none⟩ v).cell? ⟨b',o',none⟩=W.cell? ⟨b',o',none⟩:=World.cell?_setCell_other (h:=ane h) ..
theorem css {W:World} {a:Addr} {v u:Value} (h:W.cell? a=some u):(W.setCell a v).cell? a=some v:=World.cell?_setCell_same (h:=h) ..
theorem csf {W:World} {a b:Addr} {v:Value}:(W.setCell a v).frozen? b=W.frozen? b:=World.frozen?_setCell ..
theorem z0i {n:Nat} {w w1 w2:World} {A:Obj} (h1:Below n w w1) (hn:n≤w.heap.size) (hb:Below (w1.alloc A).heap.size (w1.alloc A) w2):Below n w w2:=
 (h1.alloc (by have:=h1.size;omega) _).trans (hb.mono (by have:=h1.size;simp;omega))
theorem q0h {n:Nat} {w w1 w2:World} (h1:Below n w w1) (hn:n≤w.heap.size) (hb:Below w1.heap.size w1 w2):Below n w w2:=
 h1.trans (hb.mono (by have:=h1.size;omega))
theorem hid {p:Prop} (h:p):Hid p:=h
def z1n (B:Nat) (w:World) (a:Option Addr) (ws:List ByteArray):Prop:=
 ∀ i (h:i<ws.length),∃ b o,a=some ⟨b,o,none⟩∧b<B∧w.cell? ⟨b,o+i,none⟩=some (.string ws[i])
theorem z1n.below {B:Nat} {w w':World} {a:Option Addr} {ws:List ByteArray} (h:z1n B w a ws) (hb:Below B w w'):z1n B w' a ws:=by
 intro i hi
 obtain ⟨b,o,e,hlt,c1⟩:=h i hi
 exact ⟨b,o,e,hlt,(hb.cell (p:=⟨b,_,none⟩) hlt).trans c1⟩
theorem z1n.up {B B':Nat} {w:World} {a:Option Addr} {ws:List ByteArray} (h:z1n B w a ws) (hB:B≤B'):z1n B' w a ws:=by
 intro i hi
 obtain ⟨b,o,e,hlt,c1⟩:=h i hi
 exact ⟨b,o,e,by omega,c1⟩
theorem z1n.nil (B:Nat) (w:World) (a:Option Addr):z1n B w a []:=fun i hi=>by simp at hi
theorem z1n.take {B:Nat} {w:World} {a:Option Addr} {ws:List ByteArray} (h:z1n B w a ws) (k:Nat):z1n B w a (ws.take k):=by
 intro i hi
 have hi':i<ws.length:=by simp at hi;omega
 obtain ⟨b,o,e,hlt,c1⟩:=h i hi'
 exact ⟨b,o,e,hlt,by rw [List.getElem_take];exact c1⟩
theorem z1n.drop {B:Nat} {w:World} {b o:Nat} {ws:List ByteArray} (h:z1n B w (some ⟨b,o,none⟩) ws) (k:Nat):z1n B w (some ⟨b,o+k,none⟩) (ws.drop k):=by
 intro i hi
 have hi':k+i<ws.length:=by simp at hi;omega
 obtain ⟨b',o',e,hlt,c1⟩:=h (k+i) hi'
 simp only [Option.some.injEq,Addr.mk.injEq,and_true] at e
 obtain ⟨rfl,rfl⟩:=e
 refine ⟨b,o+k,rfl,hlt,?_⟩
 rw [List.getElem_drop,Nat.add_assoc];exact c1
theorem z1n.some {B:Nat} {w:World} {a:Option Addr} {ws:List ByteArray} (h:z1n B w a ws) (h0:0<ws.length):∃ b o,a=some ⟨b,o,none⟩∧b<B:=by
 obtain ⟨b,o,e,hlt,_⟩:=h 0 h0
 exact ⟨b,o,e,hlt⟩
abbrev Wds (w:World) (a:Option Addr) (ws:List ByteArray):Prop:=z1n w.heap.size w a ws
theorem Wds.below {w w':World} {a:Option Addr} {ws:List ByteArray} (h:Wds w a ws) (hb:Below w.heap.size w w'):Wds w' a ws:=(z1n.below h hb).up hb.size
def q2s (w:World) (a:Option Addr) (ds:List Nd):Prop:=
 ∀ i (h:i<ds.length),∃ b o,a=some ⟨b,o,none⟩∧b<w.heap.size∧w.cell? ⟨b,o+i*3,none⟩=some (.int .i64 ds[i].op)∧w.cell? ⟨b,o+i*3+1,none⟩=some (.string ds[i].tx)∧w.cell? ⟨b,o+i*3+2,none⟩=some (.int .i64 ds[i].n)
theorem q2s.below {w w':World} {a:Option Addr} {ds:List Nd} (h:q2s w a ds) (hb:Below w.heap.size w w'):q2s w' a ds:=by
 intro i hi
 obtain ⟨b,o,e,hlt,c1,c2,c3⟩:=h i hi
 obtain ⟨hc,_⟩:=q0v hb
 have:=hb.size
 exact ⟨b,o,e,by omega,(hc _ _ hlt).trans c1,(hc _ _ hlt).trans c2,(hc _ _ hlt).trans c3⟩
abbrev y2r (x:Nd):Value:=.agg #[.int .i64 x.op,.string x.tx,.int .i64 x.n]
def Tds (w:World) (a:Option Addr) (ds:List Td):Prop:=
 ∀ i (h:i<ds.length),∃ b o,a=some ⟨b,o,none⟩∧b<w.heap.size∧w.cell? ⟨b,o+i*3,none⟩=some (.int .i64 ds[i].op)∧w.cell? ⟨b,o+i*3+1,none⟩=some (.string ds[i].tx)∧w.cell? ⟨b,o+i*3+2,none⟩=some (.int .i64 ds[i].n)
theorem Tds.below {w w':World} {a:Option Addr} {ds:List Td} (h:Tds w a ds) (hb:Below w.heap.size w w'):Tds w' a ds:=by
 intro i hi
 obtain ⟨b,o,e,hlt,c1,c2,c3⟩:=h i hi
 obtain ⟨hc,_⟩:=q0v hb
 have:=hb.size
 exact ⟨b,o,e,by omega,(hc _ _ hlt).trans c1,(hc _ _ hlt).trans c2,(hc _ _ hlt).trans c3⟩
theorem Tds.alloc {w:World} {a:Option Addr} {ds:List Td} (h:Tds w a ds) (o:Obj):Tds (w.alloc o) a ds:=h.below ((Below.refl _ _).alloc (Nat.le_refl _) _)
theorem Tds.nil (w:World) (a:Option Addr):Tds w a []:=fun i hi=>by simp at hi
abbrev tdV (x:Td):Value:=.agg #[.int .i64 x.op,.string x.tx,.int .i64 x.n]
def kdZ (x:Td):Int:=if x.op=3∨x.op=4 then x.n else (kdT x:Int)
theorem v7r {x:Td} (h:q0l x=0):kdZ x=(kdT x:Int):=by
 unfold kdZ
 split
 ·rename_i h1
  rw [kdT,if_pos h1]
  unfold q0l at h
  split at h
  ·cases h
  ·split at h
   ·cases h
   ·omega
 ·rfl
def q7v (t:List Td):Int:=if q0c t≠0 then q0c t else if opT t=9 then 2 else if 400<(q0z t).nodes.length then 3 else 0
def q6r (t:List Td):List Nd:=if q7v t=0 then (q0z t).nodes else []
def z9s (t:List Td):Int:=if q0c t≠0 then q0c t else if opT t=9 then 0 else 2
def txT (t:List Td):ByteArray:=match t with
 | []=>⟨#[]⟩
 | x::_=>x.tx
def k5i (t:List Td):List ByteArray:=if z9s t=0 then (q0k (btL (txT t))).map wbS else []
def z1h (t:List Td) (e:Ending) (w':World):Prop:=∃ A c,e = .returned (.tuple #[.slice A (q6r t).length c,q1e (q7v t)])∧q2s w' A (q6r t)∧(q6r t).length≤c
def z4p (t:List Td) (e:Ending) (w':World):Prop:=∃ A c,e = .returned (.tuple #[.slice A (k5i t).length c,q1e (z9s t)])∧Wds w' A (k5i t)∧(k5i t).length≤c
theorem j0g {t:List Td} (h:q0c t≠0):q7v t=q0c t∧q6r t=[]∧z9s t=q0c t∧k5i t=[]:=by
 have e1:q7v t=q0c t:=by rw [q7v,if_pos h]
 have e2:z9s t=q0c t:=by rw [z9s,if_pos h]
 exact ⟨e1,by rw [q6r,if_neg (by rw [e1];exact h)],e2,by rw [k5i,if_neg (by rw [e2];exact h)]⟩
theorem z5n {t:List Td} (h:q0c t=0) (h9:opT t=9):q7v t=2∧q6r t=[]∧z9s t=0∧k5i t=(q0k (btL (txT t))).map wbS:=by
 have e1:q7v t=2:=by rw [q7v,if_neg (by simp [h]),if_pos h9]
 have e2:z9s t=0:=by rw [z9s,if_neg (by simp [h]),if_pos h9]
 exact ⟨e1,by rw [q6r,if_neg (by rw [e1];decide)],e2,by rw [k5i,if_pos e2]⟩
theorem j6r {t:List Td} (h:q0c t=0) (h9:opT t≠9) (hn:400<(q0z t).nodes.length):q7v t=3∧q6r t=[]∧z9s t=2∧k5i t=[]:=by
 have e1:q7v t=3:=by rw [q7v,if_neg (by simp [h]),if_neg h9,if_pos hn]
 have e2:z9s t=2:=by rw [z9s,if_neg (by simp [h]),if_neg h9]
 exact ⟨e1,by rw [q6r,if_neg (by rw [e1];decide)],e2,by rw [k5i,if_neg (by rw [e2];decide)]⟩
theorem v3k {t:List Td} (h:q0c t=0) (h9:opT t≠9) (hn:¬ 400<(q0z t).nodes.length):q7v t=0∧q6r t=(q0z t).nodes∧z9s t=2∧k5i t=[]:=by
 have e1:q7v t=0:=by rw [q7v,if_neg (by simp [h]),if_neg h9,if_neg hn]
 have e2:z9s t=2:=by rw [z9s,if_neg (by simp [h]),if_neg h9]
 exact ⟨e1,by rw [q6r,if_pos e1],e2,by rw [k5i,if_neg (by rw [e2];decide)]⟩
end Go.Proofs.YtchdplceopegoaaGreatDoor
