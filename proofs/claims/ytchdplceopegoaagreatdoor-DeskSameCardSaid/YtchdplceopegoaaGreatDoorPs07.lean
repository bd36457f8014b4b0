/- Texts as one: FlatS, BstS, LnV, LnR, LnW, LnX, Base, FilM, DocA0, TreM, LayO. -/
import Derived.Test.YtchdplceopegoaaGreatDoorPs06
import Derived.WalkKit
import Derived.Outline
import Derived.WalkLawsBesides
import Derived.Test.YtchdplceopegoaaGreatDoorProg
namespace Go.Proofs.YtchdplceopegoaaGreatDoor
theorem q6q:∀ (t t':Tr) (r r':List Nd),t.Wf→t'.Wf→t.nodes++r=t'.nodes++r'→t=t'∧r=r'
 | .leaf x,t',r,r',h,h',e=>by
  cases t' with
  | leaf y=>simp only [Tr.nodes,List.cons_append,List.nil_append,List.cons.injEq] at e;exact ⟨by rw [e.1],e.2⟩
  | one y a=>
   simp only [Tr.nodes,List.cons_append,List.nil_append,List.cons.injEq] at e
   have h1:=h.2;have h2:=h'.2.1;rw [e.1,h2] at h1;cases h1
  | two y a b=>
   simp only [Tr.nodes,List.cons_append,List.nil_append,List.cons.injEq] at e
   have h1:=h.2;have h2:=h'.2.1;rw [e.1,h2] at h1;cases h1
 | .one x a,t',r,r',h,h',e=>by
  cases t' with
  | leaf y=>
   simp only [Tr.nodes,List.cons_append,List.nil_append,List.cons.injEq] at e
   have h1:=h.2.1;have h2:=h'.2;rw [e.1,h2] at h1;cases h1
  | one y a'=>
   simp only [Tr.nodes,List.cons_append,List.cons.injEq] at e
   obtain ⟨e1,e2⟩:=q6q a a' r r' h.2.2 h'.2.2 e.2
   exact ⟨by rw [e.1,e1],e2⟩
  | two y a' b=>
   simp only [Tr.nodes,List.cons_append,List.cons.injEq] at e
   have h1:=h.2.1;have h2:=h'.2.1;rw [e.1,h2] at h1;cases h1
 | .two x a b,t',r,r',h,h',e=>by
  cases t' with
  | leaf y=>
   simp only [Tr.nodes,List.cons_append,List.nil_append,List.cons.injEq] at e
   have h1:=h.2.1;have h2:=h'.2;rw [e.1,h2] at h1;cases h1
  | one y a'=>
   simp only [Tr.nodes,List.cons_append,List.cons.injEq] at e
   have h1:=h.2.1;have h2:=h'.2.1;rw [e.1,h2] at h1;cases h1
  | two y a' b'=>
   simp only [Tr.nodes,List.cons_append,List.append_assoc,List.cons.injEq] at e
   obtain ⟨e1,e2⟩:=q6q a a' _ _ h.2.2.1 h'.2.2.1 e.2
   obtain ⟨e3,e4⟩:=q6q b b' r r' h.2.2.2 h'.2.2.2 e2
   exact ⟨by rw [e.1,e1,e3],e4⟩
theorem j3a {t t':Tr} (h:t.Wf) (h':t'.Wf) (e:t.nodes=t'.nodes):t=t':=(q6q t t' [] [] h h' (by rw [e])).1
noncomputable def v2q (ds:List Nd) (h:q2n ds=0):Tr:=Classical.choose (z6g h)
theorem z0o {ds:List Nd} (h:q2n ds=0):(v2q ds h).Wf:=(Classical.choose_spec (z6g h)).1
theorem q3z {ds:List Nd} (h:q2n ds=0):ds=(v2q ds h).nodes:=(Classical.choose_spec (z6g h)).2
theorem z6f {ds:List Nd} (h:q2n ds=0) {t:Tr} (ht:t.Wf) (e:ds=t.nodes):v2q ds h=t:=j3a (z0o h) ht ((q3z h).symm.trans e)
open Classical in
noncomputable def flS (ds:List Nd):ByteArray:=if h:q2n ds=0 then (v2q ds h).line else ⟨#[]⟩
open Classical in
noncomputable def flB (ds:List Nd):Bool:=if h:q2n ds=0 then (v2q ds h).isFlat else false
theorem j0w {ds:List Nd} {t:Tr} (ht:t.Wf) (e:ds=t.nodes) (hl:ds.length≤400):q2n ds=0∧flS ds=t.line∧flB ds=t.isFlat:=by
 have h:q2n ds=0:=by rw [e];exact q9z ht (by rw [←e];exact hl)
 refine ⟨h,?_,?_⟩
 ·rw [flS,dif_pos h,z6f h ht e]
 ·rw [flB,dif_pos h,z6f h ht e]
theorem y0t {ds:List Nd} (h:q2n ds≠0):flS ds=⟨#[]⟩∧flB ds=false:=⟨by rw [flS,dif_neg h],by rw [flB,dif_neg h]⟩
theorem j2j {x:Nd} {a c:Tr} (h:x.op=6):Tr.line (.two x a c)=(if (a.isFlat && c.isFlat)=true then a.line++c.line else ⟨#[]⟩)∧Tr.isFlat (.two x a c)=(a.isFlat && c.isFlat):=by
 unfold Tr.line Tr.isFlat
 simp only [Tr.flat,if_pos h]
 cases ha:a.flat with
 | none=>simp
 | some s=>
  cases hc:c.flat with
  | none=>simp
  | some t=>exact ⟨z8f (by simp),by simp⟩
theorem z2w (wd:Nat):∀ (s:List UInt8) (c c':Nat),wd≤c→wd≤c'→(q2z wd c s).1=(q2z wd c' s).1∧(q2z wd c s).2.1=(q2z wd c' s).2.1
 | [],c,c',_,_=>⟨rfl,rfl⟩
 | b::s,c,c',h,h'=>by
  by_cases hb:b=10
  ·simp only [q2z,if_pos hb,and_self]
  ·simp only [q2z,if_neg hb,if_pos h,if_pos h']
   obtain ⟨e1,e2⟩:=z2w wd s (c+1) (c'+1) (by omega) (by omega)
   exact ⟨by rw [e1],e2⟩
theorem k3o (wd c:Nat) (s:List UInt8):(q2z wd c s).1=(q2z wd (min c wd) s).1∧(q2z wd c s).2.1=(q2z wd (min c wd) s).2.1:=by
 rcases Nat.le_total c wd with h | h
 ·rw [Nat.min_eq_left h];exact ⟨rfl,rfl⟩
 ·rw [Nat.min_eq_right h];exact z2w wd s c wd h (Nat.le_refl _)
theorem v5g (wd c:Nat) (ks:List (Nat × Tr)):bst wd c ks=bst wd (min c wd) ks:=by
 unfold bst q3s
 congr 2
 funext p
 rw [(k3o wd c p.1).1,(k3o wd c p.1).2]
theorem z2c (wd:Nat):∀ (s:List UInt8) (c:Nat),(∀ b∈s,b≠10)→q2z wd c s=((c+s.length - wd) - (c - wd),0,c+s.length)
 | [],c,_=>by simp [q2z]
 | b::s,c,h=>by
  have hb:b≠10:=h b (by simp)
  simp only [q2z,if_neg hb,z2c wd s (c+1) (fun x hx=>h x (by simp [hx])),List.length_cons,Prod.mk.injEq,true_and]
  refine ⟨?_,by omega⟩
  split<;>omega
theorem k9v (wd c d:Nat):q2z wd c (10::List.replicate d 32)=(d - wd,1,d):=by
 simp only [q2z,if_pos]
 rw [z2c wd (List.replicate d 32) 0 (by intro b hb;rw [(List.mem_replicate.1 hb).2];decide)]
 simp
/-! ### How much a way may cost at most -/
def Tr.lf:Tr→Nat
 | .leaf _=>1
 | .one _ a=>a.lf
 | .two _ a b=>a.lf+b.lf
def Tr.dsum:Tr→Nat
 | .leaf _=>0
 | .one _ a=>8+a.dsum
 | .two _ a b=>a.dsum+b.dsum
theorem q8h:∀ t:Tr,8*t.lf+t.dsum≤8*t.nodes.length
 | .leaf _=>by simp [Tr.lf,Tr.dsum,Tr.nodes]
 | .one _ a=>by have:=q8h a;simp only [Tr.lf,Tr.dsum,Tr.nodes,List.length_cons];omega
 | .two _ a b=>by have:=q8h a;have:=q8h b;simp only [Tr.lf,Tr.dsum,Tr.nodes,List.length_cons,List.length_append];omega
theorem q8e:∀ (t:Tr) (s:List UInt8),t.Wf→t.flat=some s→s.length≤20*t.lf
 | .leaf x,s,h,e=>by
  obtain ⟨_,_,_,_,h5,_⟩:=q1r h.1
  simp only [Tr.flat] at e
  simp only [Tr.lf]
  split at e
  ·rename_i h1
   cases e
   have:=q3x (h5 h1)
   have e:=q0y x.tx
   omega
  ·split at e
   ·cases e;simp
   ·split at e
    ·cases e
    ·cases e;simp
 | .one x a,s,h,e=>q8e a s h.2.2 e
 | .two x a b,s,h,e=>by
  simp only [Tr.flat] at e
  simp only [Tr.lf]
  split at e
  ·cases ha:a.flat with
   | none=>rw [ha] at e;cases e
   | some u=>
    cases hb:b.flat with
    | none=>rw [ha,hb] at e;cases e
    | some v=>
     rw [ha,hb] at e
     cases e
     have:=q8e a u h.2.2.1 ha
     have:=q8e b v h.2.2.2 hb
     rw [List.length_append]
     omega
  ·have:=q8e a s h.2.2.1 e
   omega
theorem q5q:∀ (t:Tr) (d:Nat) (p:List UInt8 × List Int),t.Wf→p∈t.outs d→p.1.length≤t.lf*(21+d+t.dsum)
 | .leaf x,d,p,h,hp=>by
  obtain ⟨_,_,_,_,h5,_⟩:=q1r h.1
  simp only [Tr.outs,List.mem_singleton] at hp
  subst hp
  simp only [Tr.lf,Tr.dsum]
  split
  ·rename_i h1
   have:=q3x (h5 h1)
   have e:=q0y x.tx
   omega
  ·split
   ·simp
   ·simp;omega
 | .one x a,d,p,h,hp=>by
  obtain ⟨_,_,_,_,_,h6⟩:=q1r h.1
  simp only [Tr.outs] at hp
  simp only [Tr.lf,Tr.dsum]
  split at hp
  ·rename_i h7
   have h1:=q5q a _ p h.2.2 hp
   have h2:a.lf*(21+(d+x.n.toNat)+a.dsum)≤a.lf*(21+d+(8+a.dsum)):=Nat.mul_le_mul_left _ (by have:=h6 h7;omega)
   omega
  ·rcases List.mem_append.1 hp with hp | hp
   ·cases hf:a.flat with
    | none=>rw [hf] at hp;simp at hp
    | some s=>
     rw [hf] at hp
     simp only [List.mem_singleton] at hp
     subst hp
     have h1:=q8e a s h.2.2 hf
     have h2:a.lf*20≤a.lf*(21+d+(8+a.dsum)):=Nat.mul_le_mul_left _ (by omega)
     dsimp only
     omega
   ·obtain ⟨q,hq,rfl⟩:=List.mem_map.1 hp
    have h1:=q5q a d q h.2.2 hq
    have h2:a.lf*(21+d+a.dsum)≤a.lf*(21+d+(8+a.dsum)):=Nat.mul_le_mul_left _ (by omega)
    dsimp only
    omega
 | .two x a b,d,p,h,hp=>by
  simp only [Tr.outs] at hp
  simp only [Tr.lf,Tr.dsum]
  have ma:a.lf*(21+d+a.dsum)≤a.lf*(21+d+(a.dsum+b.dsum)):=Nat.mul_le_mul_left _ (by omega)
  have mb:b.lf*(21+d+b.dsum)≤b.lf*(21+d+(a.dsum+b.dsum)):=Nat.mul_le_mul_left _ (by omega)
  rw [Nat.add_mul]
  split at hp
  ·obtain ⟨u,hu,hp⟩:=List.mem_flatMap.1 hp
   obtain ⟨v,hv,rfl⟩:=List.mem_map.1 hp
   have h1:=q5q a d u h.2.2.1 hu
   have h2:=q5q b d v h.2.2.2 hv
   simp only [List.length_append]
   omega
  ·rcases List.mem_append.1 hp with hp | hp
   ·obtain ⟨q,hq,rfl⟩:=List.mem_map.1 hp
    have h1:=q5q a d q h.2.2.1 hq
    dsimp only
    omega
   ·obtain ⟨q,hq,rfl⟩:=List.mem_map.1 hp
    have h1:=q5q b d q h.2.2.2 hq
    dsimp only
    omega
def lfK:List (Nat × Tr)→Nat
 | []=>0
 | (_,t)::ks=>t.lf+lfK ks
def KB (M:Nat) (ks:List (Nat × Tr)):Prop:=∀ p∈ks,p.1+p.2.dsum≤M∧p.2.Wf
theorem z9u (M:Nat):∀ (ks:List (Nat × Tr)) (p:List UInt8 × List Int),KB M ks→p∈q4j ks→p.1.length≤lfK ks*(21+M)
 | [],p,_,hp=>by simp only [q4j,List.mem_singleton] at hp;subst hp;simp
 | (d,t)::ks,p,hk,hp=>by
  rw [q4j] at hp
  obtain ⟨u,hu,hp⟩:=List.mem_flatMap.1 hp
  obtain ⟨v,hv,rfl⟩:=List.mem_map.1 hp
  obtain ⟨k1,k2⟩:=hk (d,t) (by simp)
  have h1:=q5q t d u k2 hu
  have h2:=z9u M ks v (fun q hq=>hk q (by simp [hq])) hv
  have h3:t.lf*(21+d+t.dsum)≤t.lf*(21+M):=Nat.mul_le_mul_left _ (by dsimp only at k1;omega)
  simp only [lfK,List.length_append,Nat.add_mul]
  omega
theorem k1d (wd:Nat):∀ (s:List UInt8) (c:Nat),(q2z wd c s).1≤s.length∧(q2z wd c s).2.1≤s.length
 | [],c=>by simp [q2z]
 | b::s,c=>by
  simp only [q2z,List.length_cons]
  split
  ·have:=k1d wd s 0
   dsimp only
   omega
  ·have:=k1d wd s (c+1)
   dsimp only
   split<;>omega
def bs (wd c:Nat) (ks:List (Nat × Tr)):Crs:=(bst wd c ks).getD ((0,0),[])
theorem q2r (wd c:Nat) (ks:List (Nat × Tr)):bst wd c ks=some (bs wd c ks):=by
 obtain ⟨a,h⟩:=k3j wd c ks
 rw [bs,h];rfl
theorem y4s (wd c M:Nat) (ks:List (Nat × Tr)) (h:KB M ks):(bs wd c ks).1.1≤lfK ks*(21+M)∧(bs wd c ks).1.2≤lfK ks*(21+M):=by
 obtain ⟨p,q,e,_,_⟩:=z6k (q2r wd c ks)
 have hin:bs wd c ks∈q3s wd c ks:=by rw [e];simp
 obtain ⟨x,hx,hxe⟩:=List.mem_map.1 hin
 rw [←hxe]
 have h1:=z9u M ks x h hx
 have h2:=k1d wd x.1 c
 dsimp only
 omega
theorem most:∀ D,D<401→(400 - D)*(21+8*D)≤400000:=by
 set_option maxRecDepth 100000 in decide
theorem v7i {L M n:Nat} (h:8*L+M≤8*n) (hn:n≤400):L*(21+M)≤400000:=by
 have h1:=most ((M+7) / 8) (by omega)
 have h2:L*(21+M)≤(400 - (M+7) / 8)*(21+8*((M+7) / 8)):=Nat.mul_le_mul (by omega) (by omega)
 omega
theorem y0f (wd c:Nat):bs wd c []=((0,0),[]):=by rw [bs,v5h];rfl
theorem k9g (wd c:Nat) (ks:List (Nat × Tr)):bs wd c ks=bs wd (min c wd) ks:=by rw [bs,v5g];rfl
theorem v5e {wd c d:Nat} {x:Nd} {ks:List (Nat × Tr)} (hx:q0r x=0) (h:x.op=1) (hc:c≤wd):bs wd c ((d,.leaf x)::ks)=q4t (c+x.tx.size - wd) 0 [] (bs wd (min (c+x.tx.size) wd) ks):=by
 have hs:∀ b∈x.tx.data.toList,b≠10:=j6g hx h
 have e:=z6a wd c d x ks x.tx.data.toList (by rw [if_pos h])
 rw [z2c wd _ c hs,q0y,q2r,q2r wd (c+x.tx.size),Option.map_some,Option.some.injEq,k9g wd (c+x.tx.size)] at e
 rw [e,Nat.sub_eq_zero_of_le hc,Nat.sub_zero]
theorem v5d {wd c d:Nat} {x:Nd} {ks:List (Nat × Tr)} (h:x.op≠1∧x.op≠5):bs wd c ((d,.leaf x)::ks)=q4t (d - wd) 1 [] (bs wd (min d wd) ks):=by
 have e:=z6a wd c d x ks (10::List.replicate d 32) (by rw [if_neg h.1,if_neg h.2])
 rw [k9v,q2r,q2r wd d,Option.map_some,Option.some.injEq,k9g wd d] at e
 exact e
theorem v5f {wd c d:Nat} {x:Nd} {ks:List (Nat × Tr)} (h:x.op=5):bs wd c ((d,.leaf x)::ks)=q4t 0 0 [] (bs wd c ks):=by
 have e:=z6a wd c d x ks [] (by rw [if_neg (by omega),if_pos h])
 rw [q2r,q2z,q2r wd c ks,Option.map_some,Option.some.injEq] at e
 exact e
theorem v5a {wd c d:Nat} {x:Nd} {a:Tr} {ks:List (Nat × Tr)} (h:x.op=7):bs wd c ((d,.one x a)::ks)=bs wd c ((d+x.n.toNat,a)::ks):=by rw [bs,j7s wd c d x a ks h];rfl
theorem v4z {wd c d:Nat} {x:Nd} {a b:Tr} {ks:List (Nat × Tr)} (h:x.op=6):bs wd c ((d,.two x a b)::ks)=bs wd c ((d,a)::(d,b)::ks):=by rw [bs,j7r wd c d x a b ks h];rfl
theorem k9f {wd c d:Nat} {x:Nd} {a b:Tr} {ks:List (Nat × Tr)} (h:x.op≠6):bs wd c ((d,.two x a b)::ks)=k4z (q4t 0 0 [0] (bs wd c ((d,a)::ks))) (q4t 0 0 [1] (bs wd c ((d,b)::ks))):=by
 have e:=k5y wd c d x a b ks h
 rw [q2r,q2r wd c ((d,a)::ks),q2r wd c ((d,b)::ks),Option.map_some,Option.map_some,q6f,Option.some.injEq] at e
 exact e
theorem j7p {wd c d:Nat} {x:Nd} {a:Tr} {ks:List (Nat × Tr)} {s:List UInt8} (h:x.op≠7) (ha:a.Wf) (hf:a.flat=some s) (hc:c≤wd) :
  bs wd c ((d,.one x a)::ks)=k4z (q4t (c+s.length - wd) 0 [0] (bs wd (min (c+s.length) wd) ks)) (q4t 0 0 [1] (bs wd c ((d,a)::ks))):=by
 have e:=z8e wd c d x a ks h
 rw [hf] at e
 dsimp only at e
 rw [z2c wd _ c (q6k a s ha hf),q2r,q2r wd (c+s.length),q2r wd c ((d,a)::ks),Option.map_some,Option.map_some,q6f,Option.some.injEq,k9g wd (c+s.length)] at e
 rw [e,Nat.sub_eq_zero_of_le hc,Nat.sub_zero]
theorem v5c {wd c d:Nat} {x:Nd} {a:Tr} {ks:List (Nat × Tr)} (h:x.op≠7) (hf:a.flat=none):bs wd c ((d,.one x a)::ks)=q4t 0 0 [1] (bs wd c ((d,a)::ks)):=by
 have e:=z8e wd c d x a ks h
 rw [hf] at e
 dsimp only at e
 rw [q2r,q2r wd c ((d,a)::ks),Option.map_some,q6f,Option.some.injEq] at e
 exact e
end Go.Proofs.YtchdplceopegoaaGreatDoor
namespace Go.Proofs.YtchdplceopegoaaGreatDoor
open Go Go.RowKit
def j6y:List Wd→List Nat→List (List Wd)
 | _,[]=>[]
 | ws,k::ks=>ws.take k::j6y (ws.drop k) ks
theorem y1c:∀ g:List Wd,jnL (g.map wbS)=jb g
 | []=>rfl
 | [w]=>by simp [jnL,jb,wbS,Lib.join_one]
 | w::u::r=>by
  have ih:=y1c (u::r)
  have e:jb (w::u::r)=w++32::jb (u::r):=rfl
  rw [e,←ih]
  simp [jnL,wbS,Lib.join_cons,Lib.joinTail]
theorem k4h:∀ (ks:List Nat) (ws:List Wd),k1t (ws.map wbS) ks=(j6y ws ks).map fun g=>wbS (jb g)
 | [],_=>rfl
 | k::ks,ws=>by
  have ih:=k4h ks (ws.drop k)
  rw [k1t,j6y,List.map_cons,←List.map_drop,←List.map_take,ih,jnS,y1c]
  rfl
theorem z8u (wd:Nat):∀ (n:Nat) (ws:List Wd),ws.length≤n→(∀ g∈j6y ws (z0n wd (ws.map wbS)),g≠[]∧g.length≤ws.length∧∀ w∈g,w∈ws)∧(j6y ws (z0n wd (ws.map wbS))).flatten=ws∧(ws≠[]→j6y ws (z0n wd (ws.map wbS))≠[])
 | 0,ws,h=>by
  have:ws=[]:=List.eq_nil_of_length_eq_zero (by omega)
  subst this
  rw [List.map_nil,q7h]
  exact ⟨fun g hg=>(by simp [j6y] at hg),rfl,fun h=>absurd rfl h⟩
 | n+1,ws,h=>by
  by_cases h0:ws=[]
  ·subst h0
   rw [List.map_nil,q7h]
   exact ⟨fun g hg=>(by simp [j6y] at hg),rfl,fun h=>absurd rfl h⟩
  ·have h1:ws.map wbS≠[]:=by simpa using h0
   have hp:=z0i wd h1
   rw [List.length_map] at hp
   rw [q6j wd h1]
   generalize agF wd (ws.map wbS)=k at *
   rw [←List.map_drop]
   obtain ⟨i1,i2,_⟩:=z8u wd n (ws.drop k) (by rw [List.length_drop];omega)
   rw [j6y]
   refine ⟨fun g hg=>?_,?_,fun _=>by simp⟩
   ·rcases List.mem_cons.1 hg with rfl | hg
    ·refine ⟨fun e=>?_,by rw [List.length_take];omega,fun w hw=>List.mem_of_mem_take hw⟩
     have:=congrArg List.length e
     rw [List.length_take,List.length_nil] at this
     omega
    ·obtain ⟨a,b,c⟩:=i1 g hg
     rw [List.length_drop] at b
     exact ⟨a,by omega,fun w hw=>List.mem_of_mem_drop (c w hw)⟩
   ·rw [List.flatten_cons,i2,List.take_append_drop]
def ntL (wd:Nat) (tx:ByteArray):List UInt8:=if q0g (btL tx)=[] then [35,10] else (k1t ((q0g (btL tx)).map wbS) (z0n (wd - 2) ((q0g (btL tx)).map wbS))).flatMap fun l=>35::32::(btL l++[10])
def dcL (wd:Nat) (t:List Td):List UInt8:=(q0s t).txt (bs wd 0 [(0,q0s t)]).2++[10]
def z9r (t:List Td) (wd:Int):Int:=if wd<10∨100<wd then 1 else if q0c t≠0 then q0c t else if opT t=9 then 0 else if 400<(q0s t).nodes.length then 3 else 0
def q5b (wd:Nat) (t:List Td):List UInt8:=match t with
 | []=>[]
 | x::_=>if x.op=9 then ntL wd x.tx else dcL wd t
theorem y2l {t:List Td} {wd:Nat} (h:q0c t=0):∃ ws,FmS t (q5b wd t) ws:=by
 cases t with
 | nil=>exact absurd h (by decide)
 | cons x r=>
  by_cases h9:x.op=9
  ·have e:q5b wd (x::r)=ntL wd x.tx:=by rw [q5b,if_pos h9]
   rw [e]
   rcases q2g h with ⟨y,he,ho,hn,hf⟩ | hc
   ·obtain ⟨rfl,rfl⟩:x=y∧r=[]:=by simpa using he
    by_cases hz:btL x.tx=[]
    ·have e2:ntL wd x.tx=[35,10]:=by rw [ntL,if_pos (by rw [q0g,if_pos hz])]
     rw [e2]
     exact ⟨_,.empty rfl h9 hz⟩
    ·have hw:q0g (btL x.tx)≠[]:=by
      rw [q0g,if_neg hz]
      exact q6s _
     obtain ⟨n1,n2⟩:=z1b hf
     obtain ⟨g1,g2,g3⟩:=z8u (wd - 2) _ (q0g (btL x.tx)) (Nat.le_refl _)
     have e2:ntL wd x.tx=(j6y (q0g (btL x.tx)) (z0n (wd - 2) ((q0g (btL x.tx)).map wbS))).flatMap fun g=>lnW g++[10]:=by
      rw [ntL,if_neg hw,k4h,List.flatMap_map]
      rfl
     rw [e2]
     refine ⟨_,.note rfl h9 (g3 hw) (fun g hg=>?_) g2 hz⟩
     obtain ⟨a,b,c⟩:=g1 g hg
     exact ⟨a,by omega,fun w hw=>n2 w (c w hw)⟩
   ·obtain ⟨y,F,he,_,_,_,hy⟩:=hc
    have:x=y:=(List.cons.inj he).1
    subst this
    rcases hy with hy | hy
    ·exact absurd (h9.symm.trans hy.1) (by decide)
    ·exact absurd (h9.symm.trans hy.1) (by decide)
  ·have e:q5b wd (x::r)=dcL wd (x::r):=by rw [q5b,if_neg h9]
   rw [e,dcL]
   have hb:(q0s (x::r)).best wd=some (bs wd 0 [(0,q0s (x::r))]):=by rw [q8v,q2r]
   obtain ⟨_,b2,_⟩:=q7e hb
   generalize (bs wd 0 [(0,q0s (x::r))]).2=u at *
   generalize (q0s (x::r)).txt u=s at *
   unfold Tr.show at b2
   split at b2
   ·split at b2
    ·cases b2
    ·rename_i hl
     cases b2
     exact ⟨_,.doc h9 hl⟩
    ·cases b2
   ·cases b2
theorem v0e {t:List Td} (wd:Nat):∃ u∈(q0s t).ways,dcL wd t=(q0s t).txt u++[10]∧(q0s t).show u = .ok ((q0s t).txt u)∧∀ v∈(q0s t).ways,¬ q3b ((q0s t).cst wd v) ((q0s t).cst wd u):=by
 have hb:(q0s t).best wd=some (bs wd 0 [(0,q0s t)]):=by rw [q8v,q2r]
 obtain ⟨b1,b2,b3,b4⟩:=q7e hb
 exact ⟨_,b1,rfl,b2,fun v hv=>by rw [←b3];exact (b4 v hv).1⟩
theorem v0x {t:Tr} {u:List Int} {r:List UInt8} (h:t.show u = .ok r):t.lay 0 u = .ok (r,[]):=by
 unfold Tr.show at h
 split at h
 ·split at h
  ·cases h
  ·rename_i hl
   cases h
   exact hl
  ·cases h
 ·cases h
theorem z9o {t:List Td} (h:q0c t=0) (h9:opT t=9):∃ x,t=[x]∧x.op=9∧q2u x.tx=0∧q3c t=k1w x.tx:=by
 rcases q2g h with ⟨x,rfl,ho,hn,hf⟩ | ⟨x,F,rfl,_,_,_,hx⟩
 ·have hk:(Fo.nil).len=kdT x:=by simp [kdT,ho,Fo.len]
  have e1:q3c [x]=stX x []:=(q6u (x:=x) (F:=.nil) trivial hk).1
  exact ⟨x,rfl,ho,hf,by rw [e1,k1w];simp [stX,ho]⟩
 ·have h9':x.op=9:=h9
  rcases hx with ⟨hx,_⟩ | ⟨hx,_⟩<;>omega
def q7y (wd:Nat) (ps:List (List Td)):List UInt8:=ps.flatMap (q5b wd)
theorem j4e (wd:Nat):∀ (ps:List (List Td)) (prev:Int),okP prev ps→∃ ws,FmP ps (q7y wd ps) ws
 | [],_,_=>⟨[],.nil⟩
 | t::ps,prev,h=>by
  obtain ⟨ws,h1⟩:=y2l (wd:=wd) h.1
  obtain ⟨us,h2⟩:=j4e wd ps _ h.2.2
  exact ⟨ws++us,.cons h1 h2⟩
theorem j8t {s:ByteArray} {ps:List (List Td)} {k:Int} (h:q6i s ps k 0) (wd:Nat):(q0p ps).2=0∧q6i (wbS (q7y wd ps)) ps 0 0:=by
 obtain ⟨h0,hg,hf⟩:q6d (btL s)=0∧PG false [] (q2x (btL s)) (.ok ps)∧(q0p ps).2=0:=by
  generalize hz:(0:Int)=z at h
  cases h with
  | lex h1=>exact absurd hz.symm h1
  | bad=>cases hz
  | full _ _ h1=>exact absurd hz.symm h1
  | ok h1 h2 h3=>exact ⟨h1,h2,h3⟩
 have h4:=v8o hg ps rfl
 have h5:=(z3h h0).2.2
 have h6:q3j ([]:List (List Td))=0:=rfl
 obtain ⟨ws,hfm⟩:=j4e wd ps 0 (q8k hf).2
 exact ⟨hf,v5z hf (by omega) hfm⟩
def q1f (n:Int):Value:=if n=0 then .nilIface else .iface 24 (.int .i64 n)
theorem q0q:q1f 0 = .nilIface:=rfl
theorem z4o:q1f 1 = .iface 24 (.int .i64 1):=rfl
theorem z8n:q1f 2 = .iface 24 (.int .i64 2):=rfl
theorem k3s:q1f 3 = .iface 24 (.int .i64 3):=rfl
theorem y0k:q1f 4 = .iface 24 (.int .i64 4):=rfl
theorem v2s:q1f 5 = .iface 24 (.int .i64 5):=rfl
theorem q0h {n:Int} (h:n≠0):q1f n = .iface 24 (.int .i64 n):=by simp [q1f,h]
theorem q0w {W w1:World} (hb:Below W.heap.size W w1):(∀ b o,b<W.heap.size→w1.cell? ⟨b,o,none⟩=W.cell? ⟨b,o,none⟩)∧(∀ b o,b<W.heap.size→w1.frozen? ⟨b,o,none⟩=W.frozen? ⟨b,o,none⟩):=
 ⟨fun b o h=>hb.cell (p:=⟨b,o,none⟩) h,fun b o h=>hb.frozen (p:=⟨b,o,none⟩) h⟩
theorem ane {b o b' o':Nat} (h:b≠b'∨o≠o'):(⟨b,o,none⟩:Addr)≠⟨b',o',none⟩:=by
 intro e;simp at e;omega
theorem cso {W:World} {b o b' o':Nat} {v:Value} (h:b≠b'∨o≠o'):(W.setCell ⟨b,o,none⟩ v).cell? ⟨b',o',none⟩=W.cell? ⟨b',o',none⟩:=World.cell?_setCell_other (h:=ane h) ..
theorem css {W:World} {a:Addr} {v u:Value} (h:W.cell? a=some u):(W.setCell a v).cell? a=some v:=World.cell?_setCell_same (h:=h) ..
theorem csf {W:World} {a b:Addr} {v:Value}:(W.setCell a v).frozen? b=W.frozen? b:=World.frozen?_setCell ..
theorem z1k {n:Nat} {w w1 w2:World} {A:Obj} (h1:Below n w w1) (hn:n≤w.heap.size) (hb:Below (w1.alloc A).heap.size (w1.alloc A) w2):Below n w w2:=
 (h1.alloc (by have:=h1.size;omega) _).trans (hb.mono (by have:=h1.size;simp;omega))
theorem q0j {n:Nat} {w w1 w2:World} (h1:Below n w w1) (hn:n≤w.heap.size) (hb:Below w1.heap.size w1 w2):Below n w w2:=
 h1.trans (hb.mono (by have:=h1.size;omega))
theorem hid {p:Prop} (h:p):Hid p:=h
def z2p (B:Nat) (w:World) (a:Option Addr) (ws:List ByteArray):Prop:=
 ∀ i (h:i<ws.length),∃ b o,a=some ⟨b,o,none⟩∧b<B∧w.cell? ⟨b,o+i,none⟩=some (.string ws[i])
theorem z2p.below {B:Nat} {w w':World} {a:Option Addr} {ws:List ByteArray} (h:z2p B w a ws) (hb:Below B w w'):z2p B w' a ws:=by
 intro i hi
 obtain ⟨b,o,e,hlt,c1⟩:=h i hi
 exact ⟨b,o,e,hlt,(hb.cell (p:=⟨b,_,none⟩) hlt).trans c1⟩
theorem z2p.up {B B':Nat} {w:World} {a:Option Addr} {ws:List ByteArray} (h:z2p B w a ws) (hB:B≤B'):z2p B' w a ws:=by
 intro i hi
 obtain ⟨b,o,e,hlt,c1⟩:=h i hi
 exact ⟨b,o,e,by omega,c1⟩
theorem z2p.nil (B:Nat) (w:World) (a:Option Addr):z2p B w a []:=fun i hi=>by simp at hi
theorem z2p.take {B:Nat} {w:World} {a:Option Addr} {ws:List ByteArray} (h:z2p B w a ws) (k:Nat):z2p B w a (ws.take k):=by
 intro i hi
 have hi':i<ws.length:=by simp at hi;omega
 obtain ⟨b,o,e,hlt,c1⟩:=h i hi'
 exact ⟨b,o,e,hlt,by rw [List.getElem_take];exact c1⟩
theorem z2p.drop {B:Nat} {w:World} {b o:Nat} {ws:List ByteArray} (h:z2p B w (some ⟨b,o,none⟩) ws) (k:Nat):z2p B w (some ⟨b,o+k,none⟩) (ws.drop k):=by
 intro i hi
 have hi':k+i<ws.length:=by simp at hi;omega
 obtain ⟨b',o',e,hlt,c1⟩:=h (k+i) hi'
 simp only [Option.some.injEq,Addr.mk.injEq,and_true] at e
 obtain ⟨rfl,rfl⟩:=e
 refine ⟨b,o+k,rfl,hlt,?_⟩
 rw [List.getElem_drop,Nat.add_assoc];exact c1
theorem z2p.some {B:Nat} {w:World} {a:Option Addr} {ws:List ByteArray} (h:z2p B w a ws) (h0:0<ws.length):∃ b o,a=some ⟨b,o,none⟩∧b<B:=by
 obtain ⟨b,o,e,hlt,_⟩:=h 0 h0
 exact ⟨b,o,e,hlt⟩
abbrev Wds (w:World) (a:Option Addr) (ws:List ByteArray):Prop:=z2p w.heap.size w a ws
theorem Wds.below {w w':World} {a:Option Addr} {ws:List ByteArray} (h:Wds w a ws) (hb:Below w.heap.size w w'):Wds w' a ws:=(z2p.below h hb).up hb.size
def q2y (w:World) (a:Option Addr) (ds:List Nd):Prop:=
 ∀ i (h:i<ds.length),∃ b o,a=some ⟨b,o,none⟩∧b<w.heap.size∧w.cell? ⟨b,o+i*3,none⟩=some (.int .i64 ds[i].op)∧w.cell? ⟨b,o+i*3+1,none⟩=some (.string ds[i].tx)∧w.cell? ⟨b,o+i*3+2,none⟩=some (.int .i64 ds[i].n)
theorem q2y.below {w w':World} {a:Option Addr} {ds:List Nd} (h:q2y w a ds) (hb:Below w.heap.size w w'):q2y w' a ds:=by
 intro i hi
 obtain ⟨b,o,e,hlt,c1,c2,c3⟩:=h i hi
 obtain ⟨hc,_⟩:=q0w hb
 have:=hb.size
 exact ⟨b,o,e,by omega,(hc _ _ hlt).trans c1,(hc _ _ hlt).trans c2,(hc _ _ hlt).trans c3⟩
abbrev y6m (x:Nd):Value:=.agg #[.int .i64 x.op,.string x.tx,.int .i64 x.n]
def Tds (w:World) (a:Option Addr) (ds:List Td):Prop:=
 ∀ i (h:i<ds.length),∃ b o,a=some ⟨b,o,none⟩∧b<w.heap.size∧w.cell? ⟨b,o+i*3,none⟩=some (.int .i64 ds[i].op)∧w.cell? ⟨b,o+i*3+1,none⟩=some (.string ds[i].tx)∧w.cell? ⟨b,o+i*3+2,none⟩=some (.int .i64 ds[i].n)
theorem Tds.below {w w':World} {a:Option Addr} {ds:List Td} (h:Tds w a ds) (hb:Below w.heap.size w w'):Tds w' a ds:=by
 intro i hi
 obtain ⟨b,o,e,hlt,c1,c2,c3⟩:=h i hi
 obtain ⟨hc,_⟩:=q0w hb
 have:=hb.size
 exact ⟨b,o,e,by omega,(hc _ _ hlt).trans c1,(hc _ _ hlt).trans c2,(hc _ _ hlt).trans c3⟩
theorem Tds.alloc {w:World} {a:Option Addr} {ds:List Td} (h:Tds w a ds) (o:Obj):Tds (w.alloc o) a ds:=h.below ((Below.refl _ _).alloc (Nat.le_refl _) _)
theorem Tds.nil (w:World) (a:Option Addr):Tds w a []:=fun i hi=>by simp at hi
abbrev tdV (x:Td):Value:=.agg #[.int .i64 x.op,.string x.tx,.int .i64 x.n]
def kdZ (x:Td):Int:=if x.op=3∨x.op=4 then x.n else (kdT x:Int)
theorem y1e {x:Td} (h:q0n x=0):kdZ x=(kdT x:Int):=by
 unfold kdZ
 split
 ·rename_i h1
  rw [kdT,if_pos h1]
  unfold q0n at h
  split at h
  ·cases h
  ·split at h
   ·cases h
   ·omega
 ·rfl
def q8r (t:List Td):Int:=if q0c t≠0 then q0c t else if opT t=9 then 2 else if 400<(q0s t).nodes.length then 3 else 0
def q7k (t:List Td):List Nd:=if q8r t=0 then (q0s t).nodes else []
def k0r (t:List Td):Int:=if q0c t≠0 then q0c t else if opT t=9 then 0 else 2
def txT (t:List Td):ByteArray:=match t with
 | []=>⟨#[]⟩
 | x::_=>x.tx
def k6p (t:List Td):List ByteArray:=if k0r t=0 then (q0g (btL (txT t))).map wbS else []
def z2j (t:List Td) (e:Ending) (w':World):Prop:=∃ A c,e = .returned (.tuple #[.slice A (q7k t).length c,q1f (q8r t)])∧q2y w' A (q7k t)∧(q7k t).length≤c
def z5q (t:List Td) (e:Ending) (w':World):Prop:=∃ A c,e = .returned (.tuple #[.slice A (k6p t).length c,q1f (k0r t)])∧Wds w' A (k6p t)∧(k6p t).length≤c
theorem j1v {t:List Td} (h:q0c t≠0):q8r t=q0c t∧q7k t=[]∧k0r t=q0c t∧k6p t=[]:=by
 have e1:q8r t=q0c t:=by rw [q8r,if_pos h]
 have e2:k0r t=q0c t:=by rw [k0r,if_pos h]
 exact ⟨e1,by rw [q7k,if_neg (by rw [e1];exact h)],e2,by rw [k6p,if_neg (by rw [e2];exact h)]⟩
theorem z6n {t:List Td} (h:q0c t=0) (h9:opT t=9):q8r t=2∧q7k t=[]∧k0r t=0∧k6p t=(q0g (btL (txT t))).map wbS:=by
 have e1:q8r t=2:=by rw [q8r,if_neg (by simp [h]),if_pos h9]
 have e2:k0r t=0:=by rw [k0r,if_neg (by simp [h]),if_pos h9]
 exact ⟨e1,by rw [q7k,if_neg (by rw [e1];decide)],e2,by rw [k6p,if_pos e2]⟩
theorem j8z {t:List Td} (h:q0c t=0) (h9:opT t≠9) (hn:400<(q0s t).nodes.length):q8r t=3∧q7k t=[]∧k0r t=2∧k6p t=[]:=by
 have e1:q8r t=3:=by rw [q8r,if_neg (by simp [h]),if_neg h9,if_pos hn]
 have e2:k0r t=2:=by rw [k0r,if_neg (by simp [h]),if_neg h9]
 exact ⟨e1,by rw [q7k,if_neg (by rw [e1];decide)],e2,by rw [k6p,if_neg (by rw [e2];decide)]⟩
theorem v6k {t:List Td} (h:q0c t=0) (h9:opT t≠9) (hn:¬ 400<(q0s t).nodes.length):q8r t=0∧q7k t=(q0s t).nodes∧k0r t=2∧k6p t=[]:=by
 have e1:q8r t=0:=by rw [q8r,if_neg (by simp [h]),if_neg h9,if_neg hn]
 have e2:k0r t=2:=by rw [k0r,if_neg (by simp [h]),if_neg h9]
 exact ⟨e1,by rw [q7k,if_pos e1],e2,by rw [k6p,if_neg (by rw [e2];decide)]⟩
end Go.Proofs.YtchdplceopegoaaGreatDoor
