/- Texts as one: LnT, LnU, BstP, BstQ, BstR. -/
import Derived.Test.YtchdplceopegoaaGreatDoorPs05
namespace Go.Proofs.YtchdplceopegoaaGreatDoor
open Go
def LnD (D:Tr) (b h:Nat):Prop:=(∀ r,D.flat=some r→r.length≤b)∧∀ deep cs cs' r,D.lay deep cs = .ok (r,cs')→deep+h≤80→r.length≤b
theorem LnD.mono {D:Tr} {b b' h h':Nat} (hd:LnD D b h) (hb:b≤b') (hh:h≤h'):LnD D b' h':=
 ⟨fun r hr=>Nat.le_trans (hd.1 r hr) hb,fun deep cs cs' r hr h1=>Nat.le_trans (hd.2 deep cs cs' r hr (by omega)) hb⟩
theorem z6q (s:List UInt8):LnD (wdD s) s.length 0:=
 ⟨fun r hr=>by cases hr;exact Nat.le_refl _,fun deep cs cs' r hr _=>by cases hr;exact Nat.le_refl _⟩
theorem v6s:LnD blD 81 0:=
 ⟨fun r hr=>by cases hr;decide,fun deep cs cs' r hr h=>by cases hr;simp;omega⟩
theorem y1m:LnD sfD 81 0:=
 ⟨fun r hr=>by cases hr;decide,fun deep cs cs' r hr h=>by cases hr;simp;omega⟩
theorem q8i {a b:Tr} {x y h:Nat} (ha:LnD a x h) (hb:LnD b y h):LnD (twD a b) (x+y) h:=by
 refine ⟨fun r hr=>?_,fun deep cs cs' r hr hh=>?_⟩
 ·simp only [Tr.flat,if_true] at hr
  cases ea:a.flat with
  | none=>rw [ea] at hr;cases hr
  | some s=>
   cases eb:b.flat with
   | none=>rw [ea,eb] at hr;cases hr
   | some t=>
    rw [ea,eb] at hr
    cases hr
    have h1:=ha.1 s ea
    have h2:=hb.1 t eb
    rw [List.length_append];omega
 ·simp only [Tr.lay,if_true] at hr
  cases la:a.lay deep cs with
  | error e=>rw [la] at hr;cases hr
  | ok p=>
   obtain ⟨r1,c1⟩:=p
   rw [la] at hr
   simp only at hr
   cases lb:b.lay deep c1 with
   | error e=>rw [lb] at hr;cases hr
   | ok p2=>
    obtain ⟨r2,c2⟩:=p2
    rw [lb] at hr
    cases hr
    have h1:=ha.2 _ _ _ _ la hh
    have h2:=hb.2 _ _ _ _ lb hh
    rw [List.length_append];omega
theorem v6t {a:Tr} {x h:Nat} (ha:LnD a x h):LnD (dpD a) x (h+2):=
 ⟨fun r hr=>ha.1 r hr,fun deep cs cs' r hr hh=>ha.2 (deep+(2:Int).toNat) cs cs' r hr (by have:(2:Int).toNat=2:=rfl;omega)⟩
theorem v6u {a:Tr} {x h:Nat} (ha:LnD a x h):LnD (grD a) x h:=by
 refine ⟨fun r hr=>ha.1 r hr,fun deep cs cs' r hr hh=>?_⟩
 simp only [Tr.lay] at hr
 rw [if_neg (by decide)] at hr
 cases cs with
 | nil=>cases hr
 | cons c cs=>
  simp only at hr
  split at hr
  ·exact ha.2 _ _ _ _ hr hh
  ·cases hf:a.flat with
   | none=>rw [hf] at hr;cases hr
   | some s=>rw [hf] at hr;cases hr;exact ha.1 _ hf
theorem y1k {x:Td} {d:Tr} {t:Tn} {h:Nat} (hx:x=t.x) (hd:LnD d (90*t.tk.length) h) (l:Nat):LnD (inD l x d) (90*(brk l t).length) h:=by
 unfold inD brk
 rw [hx]
 split
 ·refine (q8i ((z6q [40]).mono (Nat.le_refl _) (Nat.zero_le h)) (q8i hd ((z6q [41]).mono (Nat.le_refl _) (Nat.zero_le h)))).mono ?_ (Nat.le_refl _)
  simp only [List.length_cons,List.length_append,List.length_nil]
  omega
 ·exact hd
inductive Mls (h:Nat):List (Td × Tr)→List Tn→Prop where
 | nil:Mls h [] []
 | cons {p t ps ts}:p.1=t.x→LnD p.2 (90*t.tk.length) h→Mls h ps ts→Mls h (p::ps) (t::ts)
theorem Mls.up {h h':Nat} (hh:h≤h') {ps:List (Td × Tr)} {ts:List Tn} (m:Mls h ps ts):Mls h' ps ts:=by
 induction m with
 | nil=>exact .nil
 | cons e hd _ ih=>exact .cons e (hd.mono (Nat.le_refl _) hh) ih
theorem y1l {h:Nat}:∀ {ps:List (Td × Tr)} {ts:List Tn},Mls h ps ts→ps≠[]→LnD (kdD ps) (90*(cmk ts).length) h
 | _,_,.cons _ hd .nil,_=>by simp only [kdD,cmk,List.append_nil];exact hd
 | _,_,.cons (p:=p0) (t:=t0) (ps:=p::ps) (ts:=t::ts) _ hd (.cons e2 h2 h3),_=>by
  have ih:=y1l (Mls.cons e2 h2 h3) (by simp)
  show LnD (twD (twD p0.2 (wdD [44])) (twD blD (kdD (p::ps)))) _ h
  refine (q8i (q8i hd ((z6q [44]).mono (Nat.le_refl _) (Nat.zero_le h))) (q8i (v6s.mono (Nat.le_refl _) (Nat.zero_le h)) ih)).mono ?_ (Nat.le_refl _)
  have e:(cmk (t0::t::ts)).length=t0.tk.length+1+(cmk (t::ts)).length:=by simp [cmk];omega
  rw [e]
  simp only [List.length_cons,List.length_nil]
  omega
theorem j2l {h:Nat} {ps:List (Td × Tr)} {ts:List Tn} (m:Mls h ps ts) {op cl:List UInt8} (ho:op.length+cl.length≤18):LnD (q2c op cl ps) (90*((cmk ts).length+2)) (h+2):=by
 unfold q2c
 split
 ·refine (z6q _).mono ?_ (Nat.zero_le _)
  rw [List.length_append];omega
 ·rename_i h0
  have hk:=y1l m fun e=>h0 (by rw [e];rfl)
  have z:∀ s:List UInt8,LnD (wdD s) s.length (h+2):=fun s=>(z6q s).mono (Nat.le_refl _) (Nat.zero_le _)
  have zs:LnD sfD 81 (h+2):=y1m.mono (Nat.le_refl _) (Nat.zero_le _)
  refine v6u ((q8i (z op) (q8i (v6t (q8i (y1m.mono (Nat.le_refl _) (Nat.zero_le h)) hk)) (q8i zs (z cl)))).mono ?_ (Nat.le_refl _))
  omega
theorem y5i {h:Nat} {x:Td} {ps:List (Td × Tr)} {ts:List Tn} (m:Mls h ps ts) (hx:exN x) (hk:ps.length=kdT x):LnD (q0l x ps) (90*(q2p x ts).length) (h+2):=by
 have two:kdT x=2→∃ a b c d,ps=[a,b]∧ts=[c,d]∧(a.1=c.x∧LnD a.2 (90*c.tk.length) h)∧(b.1=d.x∧LnD b.2 (90*d.tk.length) h):=fun e=>by
  rw [e] at hk
  cases m with
  | nil=>simp at hk
  | cons h1 h1' h2=>cases h2 with
   | nil=>simp at hk
   | cons h3 h3' h4=>cases h4 with
    | nil=>exact ⟨_,_,_,_,rfl,rfl,⟨h1,h1'⟩,⟨h3,h3'⟩⟩
    | cons=>simp at hk
 have sum:∀ (l q:Nat) (c:UInt8) (a b:Td × Tr) (s t:Tn),(a.1=s.x∧LnD a.2 (90*s.tk.length) h)→(b.1=t.x∧LnD b.2 (90*t.tk.length) h)→LnD (grD (twD (inD l a.1 a.2) (dpD (twD blD (twD (wdD [c,32]) (inD q b.1 b.2)))))) (90*((brk l s).length+1+(brk q t).length)) (h+2):=fun l q c a b s t ha hb=>by
  refine v6u ((q8i ((y1k ha.1 ha.2 l).mono (Nat.le_refl _) (Nat.le_add_right h 2)) (v6t (q8i (v6s.mono (Nat.le_refl _) (Nat.zero_le h)) (q8i ((z6q [c,32]).mono (Nat.le_refl _) (Nat.zero_le h)) (y1k hb.1 hb.2 q))))).mono ?_ (Nat.le_refl _))
  simp only [List.length_cons,List.length_nil]
  omega
 rcases q2e hx with ⟨ho,_,h0,h9,_⟩ | ⟨ho,hn,_⟩ | ⟨ho,hn,_⟩ | ⟨ho,_⟩ | ⟨ho,_,_,h2⟩ | ⟨ho,_,_,h2⟩
 ·rw [show q0l x ps=wdD (q3y x.n.toNat) by simp [q0l,ho],show q2p x ts=[q3y x.n.toNat] by simp [q2p,ho]]
  have h1:=q9c 5 x.n.toNat (by omega)
  exact (z6q _).mono (by simp only [List.length_cons,List.length_nil];omega) (Nat.zero_le _)
 ·rw [show q0l x ps=wdD (btL x.tx) by simp [q0l,ho],show q2p x ts=[btL x.tx] by simp [q2p,ho]]
  have h1:=q1u hn
  exact (z6q _).mono (by simp only [List.length_cons,List.length_nil];omega) (Nat.zero_le _)
 ·rw [show q0l x ps=q2c (btL x.tx++[40]) [41] ps by simp [q0l,ho],show q2p x ts=btL x.tx::[40]::(cmk ts++[[41]]) by simp [q2p,ho]]
  have h1:=q1u hn
  refine (j2l m (by simp only [List.length_append,List.length_cons,List.length_nil];omega)).mono ?_ (Nat.le_refl _)
  simp only [List.length_append,List.length_cons,List.length_nil];omega
 ·rw [show q0l x ps=q2c [91] [93] ps by simp [q0l,ho],show q2p x ts=[91]::(cmk ts++[[93]]) by simp [q2p,ho]]
  refine (j2l m (by decide)).mono ?_ (Nat.le_refl _)
  simp only [List.length_append,List.length_cons,List.length_nil];omega
 ·obtain ⟨a,b,c,d,rfl,rfl,h3,h4⟩:=two h2
  rw [show q0l x [a,b]=grD (twD (inD 0 a.1 a.2) (dpD (twD blD (twD (wdD [43,32]) (inD 1 b.1 b.2))))) by simp [q0l,tw2,ho],show q2p x [c,d]=brk 0 c++[43]::brk 1 d by simp [q2p,two2,ho]]
  refine (sum 0 1 43 a b c d h3 h4).mono ?_ (Nat.le_refl _)
  simp only [List.length_append,List.length_cons];omega
 ·obtain ⟨a,b,c,d,rfl,rfl,h3,h4⟩:=two h2
  rw [show q0l x [a,b]=grD (twD (inD 1 a.1 a.2) (dpD (twD blD (twD (wdD [42,32]) (inD 2 b.1 b.2))))) by simp [q0l,tw2,ho],show q2p x [c,d]=brk 1 c++[42]::brk 2 d by simp [q2p,two2,ho]]
  refine (sum 1 2 42 a b c d h3 h4).mono ?_ (Nat.le_refl _)
  simp only [List.length_append,List.length_cons];omega
theorem j0a:∀ F:Fo,F.ok→F.exs→Mls (2*F.nodes.length) F.dcs F.trs
 | .nil,_,_=>.nil
 | .cons x k n,hok,hex=>by
  have h1:=j0a k hok.2.1 fun y hy=>hex y (by simp [Fo.nodes,hy])
  have h2:=j0a n hok.2.2 fun y hy=>hex y (by simp [Fo.nodes,hy])
  have h3:=y5i h1 (hex x (by simp [Fo.nodes])) (by rw [q8c];exact hok.1)
  have e:(Fo.cons x k n).nodes.length=1+k.nodes.length+n.nodes.length:=by simp only [Fo.nodes,List.length_cons,List.length_append];omega
  exact .cons rfl (h3.mono (Nat.le_refl _) (by omega)) (h2.up (by omega))
theorem v2r {t:List Td} (h:q0c t=0) (h9:opT t≠9) {cs cs':List Int} {r:List UInt8} (hr:(q0s t).lay 0 cs = .ok (r,cs')):r.length≤90*(q6c t).length:=by
 have hl40:=(q2l h).1
 obtain ⟨x,y,k,rfl,hok,hex,hk,hx⟩:=q7r h h9
 have hm:=j0a _ hok hex
 have hd:LnD (q0l y k.dcs) (90*(q0m y k.trs).tk.length) (2*(Fo.cons y k .nil).nodes.length):=by
  cases hm with
  | cons _ h1 _=>exact h1
 have e0:q0s (x::(Fo.cons y k .nil).nodes)=stD x (q0l y k.dcs):=z2h hok hk
 have e1:q6c (x::(Fo.cons y k .nil).nodes)=stK x (Fo.cons y k .nil).trs:=(q6u hok hk).2
 rw [e0] at hr
 rw [e1]
 simp only [List.length_cons] at hl40
 generalize q0l y k.dcs=D at hd hr
 have hH:2*(Fo.cons y k .nil).nodes.length≤78:=by omega
 generalize 2*(Fo.cons y k .nil).nodes.length=H at hd hH
 have z:∀ s:List UInt8,∀ q,LnD (wdD s) s.length q:=fun s q=>(z6q s).mono (Nat.le_refl _) (Nat.zero_le _)
 have hD:=q8i hd (z [59] _)
 rcases hx with ⟨ho,hnm,_⟩ | ⟨ho,_,_⟩
 ·have h8:=q1u hnm
  rw [stD,if_pos ho] at hr
  have h5:=v6u (q8i (z ([108,101,116,32]++btL x.tx++[32,61]) _) (v6t (q8i (v6s.mono (Nat.le_refl _) (Nat.zero_le _)) hD)))
  have h6:=h5.2 0 cs cs' r hr (by omega)
  have e3:(stK x (Fo.cons y k .nil).trs).length=(q0m y k.trs).tk.length+4:=by simp [stK,ho,hdK,Fo.trs]
  rw [e3]
  simp only [List.length_append,List.length_cons,List.length_nil] at h6
  omega
 ·rw [stD,if_neg (by omega)] at hr
  have h6:=hD.2 0 cs cs' r hr (by omega)
  have e3:(stK x (Fo.cons y k .nil).trs).length=(q0m y k.trs).tk.length+1:=by simp [stK,ho,hdK,Fo.trs]
  rw [e3]
  simp only [List.length_cons,List.length_nil] at h6
  omega
theorem y0i (n:Nat):z1w (q3y n)=true:=by
 rcases Nat.eq_zero_or_pos n with h | h
 ·subst h
  rw [show q3y 0=[48] by rw [q3y,dif_pos (by omega)];rfl]
  decide
 ·obtain ⟨c,z,e,_⟩:=z8j n h
  have hf:=z2d n c (by rw [e];simp)
  rw [e]
  simp only [z1w,List.headD_cons]
  have:c≠35:=fun e=>by subst e;revert hf;decide
  simpa using this
theorem k1y {s:ByteArray} (h:q0x s=true):z1w (btL s)=true:=by
 have h1:=(q9o h).1
 simp only [q0x,Bool.and_eq_true,decide_eq_true_eq,List.all_eq_true] at h
 cases e:btL s with
 | nil=>rw [e] at h1;simp at h1
 | cons c z=>
  have hf:=h.2 c (by rw [e];simp)
  simp only [z1w,List.headD_cons]
  have:c≠35:=fun e=>by subst e;revert hf;decide
  simpa using this
theorem v2m {l:Nat} {t:Tn} (h:∀ w∈t.tk,z1w w=true):∀ w∈brk l t,z1w w=true:=by
 unfold brk
 split
 ·intro w hw
  simp at hw
  rcases hw with rfl | hw | rfl
  ·decide
  ·exact h w hw
  ·decide
 ·exact h
theorem v2o:∀ ts:List Tn,(∀ t∈ts,∀ w∈t.tk,z1w w=true)→∀ w∈cmk ts,z1w w=true
 | [],_,w,hw=>by cases hw
 | [t],h,w,hw=>h t (by simp) w (by simpa [cmk] using hw)
 | t::u::r,h,w,hw=>by
  have e:cmk (t::u::r)=t.tk++[44]::cmk (u::r):=rfl
  rw [e] at hw
  rcases List.mem_append.1 hw with hw | hw
  ·exact h t (by simp) w hw
  ·rcases List.mem_cons.1 hw with rfl | hw
   ·decide
   ·exact v2o (u::r) (fun z hz=>h z (by simp at hz ⊢;right;exact hz)) w hw
theorem j5o:∀ F:Fo,F.ok→F.exs→∀ t∈F.trs,∀ w∈t.tk,z1w w=true
 | .nil,_,_,t,ht=>by cases ht
 | .cons x k n,hok,hex,t,ht=>by
  have ihk:=j5o k hok.2.1 fun y hy=>hex y (by simp [Fo.nodes,hy])
  have ihn:=j5o n hok.2.2 fun y hy=>hex y (by simp [Fo.nodes,hy])
  rw [Fo.trs] at ht
  rcases List.mem_cons.1 ht with rfl | ht
  ·show ∀ w∈q2p x k.trs,z1w w=true
   have hc:=v2o k.trs ihk
   have two:∀ (l m:Nat) (c:Wd),z1w c=true→∀ w∈two2 (fun a b=>brk l a++c::brk m b) k.trs,z1w w=true:=fun l m c hcn w hw=>by
    unfold two2 at hw
    split at hw
    ·rename_i a b hab
     rcases List.mem_append.1 hw with hw | hw
     ·exact v2m (ihk a (by rw [hab];simp)) w hw
     ·rcases List.mem_cons.1 hw with rfl | hw
      ·exact hcn
      ·exact v2m (ihk b (by rw [hab];simp)) w hw
    ·cases hw
   rcases q2e (hex x (by simp [Fo.nodes])) with ⟨ho,_⟩ | ⟨ho,hn,_⟩ | ⟨ho,hn,_⟩ | ⟨ho,_⟩ | ⟨ho,_⟩ | ⟨ho,_⟩
   ·rw [show q2p x k.trs=[q3y x.n.toNat] by simp [q2p,ho]]
    intro w hw;simp at hw;subst hw;exact y0i _
   ·rw [show q2p x k.trs=[btL x.tx] by simp [q2p,ho]]
    intro w hw;simp at hw;subst hw;exact k1y hn
   ·rw [show q2p x k.trs=btL x.tx::[40]::(cmk k.trs++[[41]]) by simp [q2p,ho]]
    intro w hw
    simp at hw
    rcases hw with rfl | rfl | hw | rfl
    ·exact k1y hn
    ·decide
    ·exact hc w hw
    ·decide
   ·rw [show q2p x k.trs=[91]::(cmk k.trs++[[93]]) by simp [q2p,ho]]
    intro w hw
    simp at hw
    rcases hw with rfl | hw | rfl
    ·decide
    ·exact hc w hw
    ·decide
   ·rw [show q2p x k.trs=two2 (fun a b=>brk 0 a++[43]::brk 1 b) k.trs by simp [q2p,ho]]
    exact two 0 1 [43] (by decide)
   ·rw [show q2p x k.trs=two2 (fun a b=>brk 1 a++[42]::brk 2 b) k.trs by simp [q2p,ho]]
    exact two 1 2 [42] (by decide)
  ·exact ihn t ht
theorem j9q {ws:List Wd} (h:∀ w∈ws,z1w w=true):many ws=ws.length:=by
 unfold many
 rw [List.filter_eq_self.2 h]
theorem v8v {t:List Td} (h:q0c t=0) (h9:opT t≠9):many (q6c t)=(q6c t).length:=by
 obtain ⟨x,y,k,rfl,hok,hex,hk,hx⟩:=q7r h h9
 have e1:q6c (x::(Fo.cons y k .nil).nodes)=stK x (Fo.cons y k .nil).trs:=(q6u hok hk).2
 have hn:=j5o _ hok hex (q0m y k.trs) (by simp [Fo.trs])
 rw [e1]
 refine j9q fun w hw=>?_
 rcases hx with ⟨ho,hnm,_⟩ | ⟨ho,_,_⟩
 ·rw [show stK x (Fo.cons y k .nil).trs=[108,101,116]::btL x.tx::[61]::((q0m y k.trs).tk++[[59]]) by simp [stK,ho,hdK,Fo.trs]] at hw
  simp at hw
  rcases hw with rfl | rfl | rfl | hw | rfl
  ·decide
  ·exact k1y hnm
  ·decide
  ·exact hn w hw
  ·decide
 ·rw [show stK x (Fo.cons y k .nil).trs=(q0m y k.trs).tk++[[59]] by simp [stK,ho,hdK,Fo.trs]] at hw
  simp at hw
  rcases hw with hw | rfl
  ·exact hn w hw
  ·decide
theorem v6a {t:List Td} (h:q0c t=0) {s:List UInt8} {ws:List Wd} (hf:FmS t s ws):s.length≤90*many (q6c t)+1441∧many ws≤many (q6c t):=by
 cases hf with
 | doc h9 hr=>
  have h1:=v2r h h9 hr
  rw [v8v h h9]
  rw [List.length_append]
  simp only [List.length_cons,List.length_nil]
  exact ⟨by omega,Nat.le_refl _⟩
 | empty=>exact ⟨by simp,by simp [many,z1w]⟩
 | @note x gs he ho hne hg hfl hx=>
  subst he
  have hnf:q2u x.tx=0:=by
   rcases q2g h with ⟨y,e,_,_,hf⟩ | ⟨y,F,e,_,_,hl,hy⟩
   ·cases e;exact hf
   ·rcases hy with ⟨h7,_⟩ | ⟨h7,_⟩<;>(have:x=y:=by injection e)<;>subst this<;>omega
  have h60:=(z1b hnf).1
  rw [←hfl] at h60
  have jl:∀ g:List Wd,(∀ w∈g,w.length≤20)→(jb g).length≤21*g.length:=j1n
  have key:∀ gs:List (List Wd),(∀ g∈gs,GOk g)→(gs.flatMap fun g=>lnW g++[10]).length≤24*gs.flatten.length:=by
   intro gs
   induction gs with
   | nil=>intro _;simp
   | cons g gs ih=>
    intro hg
    have i1:=ih fun z hz=>hg z (by simp [hz])
    have g1:=hg g (by simp)
    have j1:=jl g fun w hw=>(g1.2.2 w hw).2.1
    have p1:=List.length_pos_iff.2 g1.1
    simp only [List.flatMap_cons,List.flatten_cons,List.length_append,List.length_cons,List.length_nil]
    omega
  have k1:=key gs hg
  refine ⟨by omega,?_⟩
  have:many (gs.map lnW)=0:=by
   unfold many
   rw [List.length_eq_zero_iff,List.filter_eq_nil_iff]
   intro w hw
   obtain ⟨g,_,rfl⟩:=List.mem_map.1 hw
   simp [z1w]
  omega
theorem j1f:∀ {ps:List (List Td)} {s:List UInt8} {ws:List Wd} {prev:Int},okP prev ps→FmP ps s ws→s.length≤90*q3j ps+1441*ps.length∧many ws≤q3j ps
 | _,_,_,_,_,.nil=>by simp [many,q3j]
 | t::ps,_,_,_,h,.cons h1 h2=>by
  obtain ⟨a1,a2⟩:=v6a h.1 h1
  obtain ⟨b1,b2⟩:=j1f h.2.2 h2
  have e:q3j (t::ps)=many (q6c t)+q3j ps:=by simp [q3j,q9l]
  rw [e,List.length_append,List.length_cons,q9l]
  exact ⟨by omega,by omega⟩
theorem v5z {ps:List (List Td)} {s:List UInt8} {ws:List Wd} (h:(q0p ps).2=0) (hm:q3j ps≤300) (hf:FmP ps s ws):q6i (wbS s) ps 0 0:=by
 obtain ⟨hl,hok⟩:=q8k h
 obtain ⟨a1,a2⟩:=v2u hok hf 0
 obtain ⟨b1,b2⟩:=j1f hok hf
 have hw:q2x (btL (wbS s))=ws:=a1
 have hle:q6d (btL (wbS s))=0:=by
  have e:btL (wbS s)=s:=rfl
  rw [e]
  unfold q6d
  rw [if_neg (by omega),a2]
  have hw':q2x s=ws:=a1
  rw [hw',if_neg (by simp),if_neg (by omega)]
 refine .ok hle ?_ h
 rw [hw]
 have:=v2v hf 0 false [] hok (fun e=>by cases e)
 simpa using this
end Go.Proofs.YtchdplceopegoaaGreatDoor
namespace Go.Proofs.YtchdplceopegoaaGreatDoor
def q2z (wd:Nat):Nat→List UInt8→Nat × Nat × Nat
 | c,[]=>(0,0,c)
 | c,b::s=>if b=10 then ((q2z wd 0 s).1,(q2z wd 0 s).2.1+1,(q2z wd 0 s).2.2) else ((if wd≤c then 1 else 0)+(q2z wd (c+1) s).1,(q2z wd (c+1) s).2.1,(q2z wd (c+1) s).2.2)
theorem z6b (wd:Nat):∀ (c:Nat) (s t:List UInt8),q2z wd c (s++t)=((q2z wd c s).1+(q2z wd (q2z wd c s).2.2 t).1,(q2z wd c s).2.1+(q2z wd (q2z wd c s).2.2 t).2.1,(q2z wd (q2z wd c s).2.2 t).2.2)
 | c,[],t=>by simp [q2z]
 | c,b::s,t=>by
  simp only [List.cons_append,q2z]
  split
  ·rw [z6b wd 0 s t]
   simp only [Prod.mk.injEq,and_true,true_and]
   omega
  ·rw [z6b wd (c+1) s t]
   simp only [Prod.mk.injEq,and_true]
   omega
abbrev Crs:=(Nat × Nat) × List Int
def q3b (a b:Nat × Nat):Prop:=a.1<b.1∨(a.1=b.1∧a.2<b.2)
instance (a b:Nat × Nat):Decidable (q3b a b):=by unfold q3b;infer_instance
def k4z (a b:Crs):Crs:=if q3b b.1 a.1 then b else a
def q6f:Option Crs→Option Crs→Option Crs
 | none,y=>y
 | x,none=>x
 | some a,some b=>some (k4z a b)
theorem k6x (a b c:Crs):k4z (k4z a b) c=k4z a (k4z b c):=by
 by_cases h1:q3b b.1 a.1<;>by_cases h2:q3b c.1 b.1<;>by_cases h3:q3b c.1 a.1
 all_goals first
  | (simp [k4z,h1,h2,h3];done)
  | (exfalso;unfold q3b at h1 h2 h3;omega)
theorem k2m (x y z:Option Crs):q6f (q6f x y) z=q6f x (q6f y z):=by
 cases x<;>cases y<;>cases z<;>simp [q6f,k6x]
def fm:List Crs→Option Crs
 | []=>none
 | a::l=>q6f (some a) (fm l)
theorem j1c:∀ l m:List Crs,fm (l++m)=q6f (fm l) (fm m)
 | [],m=>by cases h:fm m<;>simp [fm,q6f,h]
 | a::l,m=>by rw [List.cons_append,fm,fm,j1c l m,k2m]
def q4t (o l:Nat) (u:List Int) (a:Crs):Crs:=((o+a.1.1,l+a.1.2),u++a.2)
theorem z9a (o l:Nat) (u:List Int) (a b:Crs):q3b (q4t o l u b).1 (q4t o l u a).1↔q3b b.1 a.1:=by
 unfold q3b q4t
 dsimp only
 omega
theorem j3u (o l:Nat) (u:List Int) (a b:Crs):k4z (q4t o l u a) (q4t o l u b)=q4t o l u (k4z a b):=by
 unfold k4z
 by_cases h:q3b b.1 a.1
 ·rw [if_pos h,if_pos ((z9a o l u a b).2 h)]
 ·rw [if_neg h,if_neg fun k=>h ((z9a o l u a b).1 k)]
theorem z0r (o l:Nat) (u:List Int):∀ az:List Crs,fm (az.map (q4t o l u))=(fm az).map (q4t o l u)
 | []=>rfl
 | a::az=>by
  rw [List.map_cons,fm,z0r o l u az,fm]
  cases fm az with
  | none=>rfl
  | some b=>simp [q6f,j3u]
theorem j1d:∀ {l:List Crs},fm l=none→l=[]
 | [],_=>rfl
 | a::l,h=>by
  rw [fm] at h
  cases hl:fm l<;>rw [hl] at h<;>simp [q6f] at h
theorem z6k:∀ {l:List Crs} {a:Crs},fm l=some a→∃ (p q:List Crs),l=p++a::q∧(∀ b∈p,q3b a.1 b.1)∧∀ b∈q,¬ q3b b.1 a.1
 | b::l,a,h=>by
  rw [fm] at h
  cases hl:fm l with
  | none=>
   rw [hl] at h
   obtain rfl:=j1d hl
   simp only [q6f,Option.some.injEq] at h
   subst h
   exact ⟨[],[],rfl,by simp,by simp⟩
  | some c=>
   rw [hl] at h
   obtain ⟨p,q,rfl,h1,h2⟩:=z6k hl
   simp only [q6f,Option.some.injEq,k4z] at h
   split at h
   ·rename_i hlt
    subst h
    refine ⟨b::p,q,rfl,fun d hd=>?_,h2⟩
    rcases List.mem_cons.1 hd with rfl | hd
    ·exact hlt
    ·exact h1 d hd
   ·rename_i hlt
    subst h
    refine ⟨[],p++c::q,rfl,by simp,fun d hd=>?_⟩
    rcases List.mem_append.1 hd with hd | hd
    ·have:=h1 d hd
     unfold q3b at *
     omega
    ·rcases List.mem_cons.1 hd with rfl | hd
     ·exact hlt
     ·have:=h2 d hd
      unfold q3b at *
      omega
def Tr.outs:Tr→Nat→List (List UInt8 × List Int)
 | .leaf x,deep=>[(if x.op=1 then x.tx.data.toList else if x.op=5 then [] else 10::List.replicate deep 32,[])]
 | .one x a,deep=>if x.op=7 then a.outs (deep+x.n.toNat) else (match a.flat with | none=>[] | some s=>[(s,[0])])++(a.outs deep).map fun p=>(p.1,1::p.2)
 | .two x a b,deep=>if x.op=6 then (a.outs deep).flatMap fun p=>(b.outs deep).map fun q=>(p.1++q.1,p.2++q.2) else ((a.outs deep).map fun p=>(p.1,0::p.2))++(b.outs deep).map fun p=>(p.1,1::p.2)
theorem q2v:∀ (t:Tr) (deep:Nat),(t.outs deep).map (·.2)=t.ways
 | .leaf x,deep=>by simp [Tr.outs,Tr.ways]
 | .one x a,deep=>by
  simp only [Tr.outs,Tr.ways]
  split
  ·exact q2v a _
  ·rw [List.map_append,←q2v a deep]
   congr 1
   ·cases h:a.flat<;>simp [Tr.isFlat,h]
   ·rw [List.map_map,List.map_map];rfl
 | .two x a b,deep=>by
  simp only [Tr.outs,Tr.ways]
  split
  ·rw [←q2v a deep,←q2v b deep,List.map_flatMap,List.flatMap_map]
   congr 1
   funext p
   rw [List.map_map,List.map_map]
   rfl
  ·rw [←q2v a deep,←q2v b deep,List.map_append,List.map_map,List.map_map,List.map_map,List.map_map]
   rfl
theorem q5p:∀ (t:Tr) (deep:Nat) (p:List UInt8 × List Int),p∈t.outs deep→∀ r,t.lay deep (p.2++r) = .ok (p.1,r)
 | .leaf x,deep,p,h,r=>by
  simp only [Tr.outs,List.mem_singleton] at h
  subst h
  simp only [Tr.lay,List.nil_append]
  split
  ·rfl
  ·split<;>rfl
 | .one x a,deep,p,h,r=>by
  simp only [Tr.outs] at h
  simp only [Tr.lay]
  split at h
  ·rename_i h7
   rw [if_pos h7]
   exact q5p a _ p h r
  ·rename_i h7
   rw [if_neg h7]
   rcases List.mem_append.1 h with h | h
   ·cases hf:a.flat with
    | none=>rw [hf] at h;simp at h
    | some s=>
     rw [hf] at h
     simp only [List.mem_singleton] at h
     subst h
     simp
   ·obtain ⟨q,hq,rfl⟩:=List.mem_map.1 h
    simp only [List.cons_append,if_pos]
    exact q5p a deep q hq r
 | .two x a b,deep,p,h,r=>by
  simp only [Tr.outs] at h
  simp only [Tr.lay]
  split at h
  ·rename_i h6
   rw [if_pos h6]
   obtain ⟨u,hu,hp⟩:=List.mem_flatMap.1 h
   obtain ⟨v,hv,rfl⟩:=List.mem_map.1 hp
   dsimp only
   rw [List.append_assoc,q5p a deep u hu (v.2++r)]
   dsimp only
   rw [q5p b deep v hv r]
  ·rename_i h6
   rw [if_neg h6]
   rcases List.mem_append.1 h with h | h
   ·obtain ⟨q,hq,rfl⟩:=List.mem_map.1 h
    simp only [List.cons_append,if_pos]
    exact q5p a deep q hq r
   ·obtain ⟨q,hq,rfl⟩:=List.mem_map.1 h
    simp only [List.cons_append]
    rw [if_neg (by decide)]
    exact q5p b deep q hq r
def q4j:List (Nat × Tr)→List (List UInt8 × List Int)
 | []=>[([],[])]
 | (d,t)::ks=>(t.outs d).flatMap fun p=>(q4j ks).map fun q=>(p.1++q.1,p.2++q.2)
def q3s (wd c:Nat) (ks:List (Nat × Tr)):List Crs:=(q4j ks).map fun p=>(((q2z wd c p.1).1,(q2z wd c p.1).2.1),p.2)
def bst (wd c:Nat) (ks:List (Nat × Tr)):Option Crs:=fm (q3s wd c ks)
theorem v5h (wd c:Nat):bst wd c []=some ((0,0),[]):=by simp [bst,q3s,q4j,q2z,fm,q6f]
theorem z4v (wd c:Nat) (s:List UInt8) (u:List Int) (ks:List (Nat × Tr)):((q4j ks).map fun q=>(s++q.1,u++q.2)).map (fun p=>(((q2z wd c p.1).1,(q2z wd c p.1).2.1),p.2))=(q3s wd (q2z wd c s).2.2 ks).map (q4t (q2z wd c s).1 (q2z wd c s).2.1 u):=by
 unfold q3s
 rw [List.map_map,List.map_map]
 congr 1
 funext q
 simp only [Function.comp,z6b,q4t]
theorem z6a (wd c d:Nat) (x:Nd) (ks:List (Nat × Tr)) (s:List UInt8) (hs:s=if x.op=1 then x.tx.data.toList else if x.op=5 then [] else 10::List.replicate d 32) :
  bst wd c ((d,.leaf x)::ks)=(bst wd (q2z wd c s).2.2 ks).map (q4t (q2z wd c s).1 (q2z wd c s).2.1 []):=by
 unfold bst
 rw [←z0r,←z4v,q3s,q4j,Tr.outs,←hs]
 simp
theorem j7s (wd c d:Nat) (x:Nd) (a:Tr) (ks:List (Nat × Tr)) (h:x.op=7):bst wd c ((d,.one x a)::ks)=bst wd c ((d+x.n.toNat,a)::ks):=by
 unfold bst q3s
 rw [q4j,q4j,Tr.outs,if_pos h]
theorem z3f (wd c d:Nat) (k:Int) (a:Tr) (ks:List (Nat × Tr)):((((a.outs d).map fun p=>(p.1,k::p.2)).flatMap fun p=>(q4j ks).map fun q=>(p.1++q.1,p.2++q.2)).map (fun p=>(((q2z wd c p.1).1,(q2z wd c p.1).2.1),p.2)))=(q3s wd c ((d,a)::ks)).map (q4t 0 0 [k]):=by
 unfold q3s
 rw [q4j,List.flatMap_map,List.map_map,List.map_flatMap,List.map_flatMap]
 congr 1
 funext p
 rw [List.map_map,List.map_map]
 congr 1
 funext q
 simp [Function.comp,q4t]
theorem z8e (wd c d:Nat) (x:Nd) (a:Tr) (ks:List (Nat × Tr)) (h:x.op≠7) :
  bst wd c ((d,.one x a)::ks)=q6f (match a.flat with | none=>none | some s=>(bst wd (q2z wd c s).2.2 ks).map (q4t (q2z wd c s).1 (q2z wd c s).2.1 [0])) ((bst wd c ((d,a)::ks)).map (q4t 0 0 [1])):=by
 unfold bst
 rw [←z0r,←z3f]
 rw [q3s,q4j,Tr.outs,if_neg h,List.flatMap_append,List.map_append,j1c]
 congr 1
 cases hf:a.flat with
 | none=>rfl
 | some s=>
  dsimp only
  rw [←z0r,←z4v]
  simp
theorem j7r (wd c d:Nat) (x:Nd) (a b:Tr) (ks:List (Nat × Tr)) (h:x.op=6):bst wd c ((d,.two x a b)::ks)=bst wd c ((d,a)::(d,b)::ks):=by
 unfold bst q3s
 rw [q4j,q4j,q4j,Tr.outs,if_pos h,List.flatMap_assoc]
 congr 2
 congr 1
 funext p
 rw [List.flatMap_map,List.map_flatMap]
 congr 1
 funext q
 rw [List.map_map]
 congr 1
 funext z
 simp [Function.comp,List.append_assoc]
theorem k5y (wd c d:Nat) (x:Nd) (a b:Tr) (ks:List (Nat × Tr)) (h:x.op≠6) :
  bst wd c ((d,.two x a b)::ks)=q6f ((bst wd c ((d,a)::ks)).map (q4t 0 0 [0])) ((bst wd c ((d,b)::ks)).map (q4t 0 0 [1])):=by
 unfold bst
 rw [←z0r,←z0r,←z3f,←z3f,q3s,q4j,Tr.outs,if_neg h,List.flatMap_append,List.map_append,j1c]
theorem v8n (t:Tr) (deep:Nat):t.outs deep≠[]:=fun h=>by
 have:=q2v t deep
 rw [h] at this
 exact z3w t this.symm
theorem k4q:∀ ks:List (Nat × Tr),q4j ks≠[]
 | []=>by simp [q4j]
 | (d,t)::ks=>by
  have h1:=v8n t d
  have h2:=k4q ks
  obtain ⟨p,ps,e⟩:=List.exists_cons_of_ne_nil h1
  rw [q4j,e]
  simp [h2]
theorem k3j (wd c:Nat) (ks:List (Nat × Tr)):∃ a,bst wd c ks=some a:=by
 cases h:bst wd c ks with
 | some a=>exact ⟨a,rfl⟩
 | none=>
  have:=j1d h
  unfold q3s at this
  exact absurd (List.map_eq_nil_iff.1 this) (k4q ks)
def Tr.txt (t:Tr) (u:List Int):List UInt8:=match t.show u with | .ok s=>s | .error _=>[]
theorem j3p {t:Tr} {p:List UInt8 × List Int} (h:p∈t.outs 0):t.show p.2 = .ok p.1:=by
 have hw:p.2∈t.ways:=by rw [←q2v t 0];exact List.mem_map.2 ⟨p,h,rfl⟩
 have hl:=q5p t 0 p h []
 rw [List.append_nil] at hl
 unfold Tr.show
 rw [if_pos (k8l.2 (q6y t _ hw)),hl]
theorem v0h {t:Tr} {p:List UInt8 × List Int} (h:p∈t.outs 0):t.txt p.2=p.1:=by rw [Tr.txt,j3p h]
def Tr.cst (t:Tr) (wd:Nat) (u:List Int):Nat × Nat:=((q2z wd 0 (t.txt u)).1,(q2z wd 0 (t.txt u)).2.1)
theorem k6n (t:Tr) (wd:Nat):q3s wd 0 [(0,t)]=t.ways.map fun u=>(t.cst wd u,u):=by
 have h1:q4j [(0,t)]=t.outs 0:=by simp [q4j]
 unfold q3s
 rw [h1,←q2v t 0,List.map_map]
 refine List.map_congr_left fun p hp=>?_
 simp only [Function.comp,Tr.cst,v0h hp]
def Tr.best (t:Tr) (wd:Nat):Option Crs:=fm (t.ways.map fun u=>(t.cst wd u,u))
theorem q8v (t:Tr) (wd:Nat):t.best wd=bst wd 0 [(0,t)]:=by rw [Tr.best,←k6n];rfl
theorem k8x (t:Tr) (wd:Nat):∃ a,t.best wd=some a:=by rw [q8v];exact k3j wd 0 _
theorem z4j:∀ u:List Int,¬ q2i u u
 | []=>by simp [q2i]
 | a::u=>by simp only [q2i,if_pos];exact z4j u
theorem z2r:∀ {u v:List Int},q2i u v→¬ q2i v u
 | a::u,b::v,h=>by
  simp only [q2i] at h ⊢
  by_cases e:a=b
  ·subst e
   rw [if_pos rfl] at h ⊢
   exact z2r h
  ·rw [if_neg e] at h
   rw [if_neg fun k=>e k.symm]
   omega
theorem q7e {t:Tr} {wd:Nat} {a:Crs} (h:t.best wd=some a):a.2∈t.ways∧t.show a.2 = .ok (t.txt a.2)∧a.1=t.cst wd a.2∧∀ w∈t.ways,¬ q3b (t.cst wd w) a.1∧(t.cst wd w=a.1→¬ q2i w a.2):=by
 obtain ⟨p,q,e,h1,h2⟩:=z6k h
 obtain ⟨p',r,e1,e2,e3⟩:=List.map_eq_append_iff.1 e
 obtain ⟨x,q',e4,e5,e6⟩:=List.map_eq_cons_iff.1 e3
 subst e4 e2 e6 e5
 have hin:x∈t.ways:=by rw [e1];simp
 have hr:=z0c t
 rw [e1] at hr
 refine ⟨hin,?_,rfl,fun w hw=>?_⟩
 ·obtain ⟨s,hs⟩:=(j4m t x).2 hin
  simp only [Tr.txt,hs]
 ·rw [e1] at hw
  dsimp only
  rcases List.mem_append.1 hw with hw | hw
  ·have:=h1 _ (List.mem_map.2 ⟨w,hw,rfl⟩)
   dsimp only at this
   refine ⟨?_,fun k=>?_⟩
   ·unfold q3b at *
    omega
   ·rw [k] at this
    unfold q3b at this
    omega
  ·rcases List.mem_cons.1 hw with rfl | hw
   ·refine ⟨?_,fun _=>z4j _⟩
    unfold q3b
    omega
   ·refine ⟨h2 _ (List.mem_map.2 ⟨w,hw,rfl⟩),fun _=>z2r ?_⟩
    exact (List.pairwise_cons.1 (List.pairwise_append.1 hr).2.1).1 w hw
end Go.Proofs.YtchdplceopegoaaGreatDoor
