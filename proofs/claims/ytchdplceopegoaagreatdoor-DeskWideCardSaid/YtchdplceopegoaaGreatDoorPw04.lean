/- Texts as one: LayR, SynK, LnP, SynU, SynN. -/
import Derived.Test.YtchdplceopegoaaGreatDoorPw02
namespace Go.Proofs.YtchdplceopegoaaGreatDoor
open Go
def hdD (ps:List (Td × Tr)):Tr:=match ps with
 | p::_=>p.2
 | []=>wdD []
def q0z (t:List Td):Tr:=match k7p t with
 | .nil=>wdD []
 | .cons x k _=>stD x (hdD k.dcs)
theorem z6j {x:Td} {F:Fo} (h:F.ok) (hl:F.len=kdT x):q0z (x::F.nodes)=stD x (hdD F.dcs):=by
 rw [q0z,v1h h hl]
structure y0r (t:List Td):Prop where
 f:(q0z t).flat=some (q2y t)
 w:(q0z t).Wf
 e:(q0z t).noE
 n:(q0z t).nodes.length≤900
theorem v5i {F:Fo} (hl:F.len=1):∃ y k,F = .cons y k .nil:=by
 cases F with
 | nil=>cases hl
 | cons y k n=>cases n with
  | nil=>exact ⟨y,k,rfl⟩
  | cons _ _ _=>simp [Fo.len] at hl
theorem z1f {t:List Td} (h:q0c t=0) (h9:opT t≠9):∃ (x y:Td) (k:Fo),t=x::(Fo.cons y k .nil).nodes∧(Fo.cons y k .nil).ok∧(Fo.cons y k .nil).exs∧(Fo.cons y k .nil).len=kdT x∧((x.op=7∧q1c x.tx=true∧x.n=0)∨(x.op=8∧x.tx=⟨#[]⟩∧x.n=0)):=by
 rcases q5l h with ⟨x,rfl,ho,_⟩ | ⟨x,F,rfl,hok,hex,hl,hx⟩
 ·exact absurd ho h9
 ·obtain ⟨y,k,rfl⟩:=v5i hl
  refine ⟨x,y,k,rfl,hok,hex,?_,hx⟩
  rw [hl]
  unfold kdT
  rcases hx with ⟨ho,_⟩ | ⟨ho,_⟩<;>rw [ho]<;>rfl
theorem z7l {t:List Td} (h:q0c t=0) (h9:opT t≠9):y0r t:=by
 have hl40:=(q2i h).1
 obtain ⟨x,y,k,rfl,hok,hex,hk,hx⟩:=z1f h h9
 have hm:=z5b _ hok hex
 have hw:=k8q _ hok hex
 have he:=k0d (.cons y k .nil)
 have hn:=z7j (.cons y k .nil)
 have e0:q0z (x::(Fo.cons y k .nil).nodes)=stD x (q0m y k.dcs):=z6j hok hk
 have e1:q2y (x::(Fo.cons y k .nil).nodes)=stX x (Fo.cons y k .nil).trs:=(z2n hok hk).1
 have hf:(q0m y k.dcs).flat=some (q0r y k.trs).tx:=by
  cases hm with
  | cons h1 _=>exact h1.2
 have hw1:(q0m y k.dcs).Wf:=hw (y,q0m y k.dcs) (by simp [Fo.dcs])
 have he1:(q0m y k.dcs).noE:=he (y,q0m y k.dcs) (by simp [Fo.dcs])
 have hn1:(q0m y k.dcs).nodes.length+5≤20*(Fo.cons y k .nil).nodes.length:=by
  rw [Fo.dcs,q3f] at hn
  have:z3h Fo.nil.dcs=0:=rfl
  exact Nat.le_trans (Nat.le_add_right _ _) hn
 simp only [List.length_cons] at hl40
 generalize q0m y k.dcs=D at e0 hf hw1 he1 hn1
 have w59:(wdD [59]).Wf:=z0v (by decide) (by decide) (by decide)
 have n1:(1:Int)≠4:=by decide
 have n2:(2:Int)≠4:=by decide
 rcases hx with ⟨ho,hnm,_⟩ | ⟨ho,_,_⟩
 ·obtain ⟨m1,m2,m3⟩:=z2h hnm
  have e2:stD x D=grD (twD (wdD ([108,101,116,32]++btL x.tx++[32,61])) (dpD (twD blD (twD D (wdD [59]))))):=by rw [stD,if_pos ho]
  refine ⟨?_,?_,?_,?_⟩
  ·rw [e0,e1,e2,j6f,q5d (z2b _) (by rw [j6e];exact q5d j6d (q5d hf (z2b _)))]
   simp [stX,ho,hdT,Fo.trs]
  ·rw [e0,e2]
   refine j9h (q5p (z0v (by simp) (by simp only [List.length_append,List.length_cons,List.length_nil];omega) fun c hc=>?_) (j9g (q5p j9f (q5p hw1 w59))))
   rcases List.mem_append.1 hc with hc | hc
   ·rcases List.mem_append.1 hc with hc | hc
    ·simp at hc;rcases hc with rfl | rfl | rfl | rfl<;>decide
    ·exact m3 c hc
   ·simp at hc;rcases hc with rfl | rfl<;>decide
  ·rw [e0,e2];exact ⟨rfl,n1,rfl,n2,rfl,he1,n1⟩
  ·rw [e0,e2]
   simp only [Tr.nodes,List.length_cons,List.length_append,List.length_nil]
   omega
 ·have e2:stD x D=twD D (wdD [59]):=by rw [stD,if_neg (by omega)]
  refine ⟨?_,?_,?_,?_⟩
  ·rw [e0,e1,e2,q5d hf (z2b _)]
   simp [stX,ho,hdT,Fo.trs]
  ·rw [e0,e2];exact q5p hw1 w59
  ·rw [e0,e2];exact ⟨rfl,he1,n1⟩
  ·rw [e0,e2]
   simp only [Tr.nodes,List.length_cons,List.length_append,List.length_nil]
   omega
theorem k8w {t:List Td} (h:q0c t=0) (h9:opT t≠9) {ws:List Int} {r:List UInt8} (hs:(q0z t).show ws = .ok r):r.filter dnB=(q2y t).filter dnB:=by
 have hd:=z7l h h9
 unfold Tr.show at hs
 split at hs
 ·cases hl:(q0z t).lay 0 ws with
  | error e=>rw [hl] at hs;cases hs
  | ok p=>
   obtain ⟨r',ws'⟩:=p
   rw [hl] at hs
   have h1:=q6b _ _ hd.e hd.w hd.f 0 ws ws' r' hl
   cases ws' with
   | nil=>cases hs;exact h1
   | cons a b=>cases hs
 ·cases hs
def v3e (a b:UInt8):Bool:=(q3a a && q3a b) || (q3w a && q3w b)
def z8z (b:UInt8):Bool:=!q3a b && !q3w b
def k0h (s rest:List UInt8):Prop:=∀ a b,s.getLast? = some a→rest.head? = some b→v3e a b=false
theorem k5d {a b:UInt8} (h:z8z b=true):v3e a b=false:=by
 simp only [z8z,Bool.and_eq_true,Bool.not_eq_true'] at h
 simp [v3e,h.1,h.2]
theorem k9v {a b:UInt8} (h:z8z a=true):v3e a b=false:=by
 simp only [z8z,Bool.and_eq_true,Bool.not_eq_true'] at h
 simp [v3e,h.1,h.2]
theorem q2g {s:List UInt8} {b:UInt8} (h:z8z b=true) (r:List UInt8):k0h s (b::r):=fun _ c _ hc=>by
 simp only [List.head?_cons,Option.some.injEq] at hc
 subst hc
 exact k5d h
theorem k4x {a:UInt8} (h:z8z a=true) (s r:List UInt8):k0h (s++[a]) r:=fun c _ hc _=>by
 simp only [List.getLast?_append,List.getLast?_singleton,Option.some_or,Option.some.injEq] at hc
 subst hc
 exact k9v h
def Lx (s:List UInt8) (ws:List Wd):Prop:=∀ rest i,k0h s rest→(lxW (s++rest) i).map (·.2)=ws++(lxW rest (i+s.length)).map (·.2)∧lxF (s++rest) i=lxF rest (i+s.length)
theorem Lx.nil:Lx [] []:=fun rest i _=>by simp
theorem Lx.app {s t:List UInt8} {ws us:List Wd} (h1:Lx s ws) (h2:Lx t us) (h:k0h s t):Lx (s++t) (ws++us):=by
 intro rest i hr
 have hst:k0h s (t++rest):=by
  intro a b ha hb
  cases t with
  | nil=>
   rw [List.append_nil] at hr
   exact hr a b ha hb
  | cons c t=>exact h a b ha hb
 have htr:k0h t rest:=by
  intro a b ha hb
  refine hr a b ?_ hb
  rw [List.getLast?_append,ha];rfl
 obtain ⟨a1,a2⟩:=h1 (t++rest) i hst
 obtain ⟨b1,b2⟩:=h2 rest (i+s.length) htr
 rw [List.append_assoc,a1,a2,b1,b2,List.length_append,Nat.add_assoc]
 exact ⟨by simp,rfl⟩
theorem Lx.blank {c:UInt8} (h:spB c=true):Lx [c] []:=by
 intro rest i _
 rw [List.cons_append,List.nil_append,lxW,lxF,z8k rest i h]
 exact ⟨by simp [lxW],by simp [lxF]⟩
theorem Lx.tok {c:UInt8} {r:List UInt8} (hs:spB c=false) (h:∀ rest,k0h (c::r) rest→q4g (c::r++rest)=true∧q0o (c::r++rest)=(c::r).length) (ht:q1a (c::r)=c::r):Lx (c::r) [c::r]:=by
 intro rest i hr
 obtain ⟨h1,h2⟩:=h rest hr
 rw [List.cons_append] at h1 h2
 have ed:(c::(r++rest)).drop (q0o (c::(r++rest)))=rest:=by rw [h2,←List.cons_append,List.drop_left]
 have ew:tkW (c::(r++rest))=c::r:=by rw [tkW,h2,←List.cons_append,List.take_left,ht]
 rw [List.cons_append,lxW,lxF,z4b i hs h1,ed,ew,h2]
 exact ⟨rfl,rfl⟩
theorem k4c {p:UInt8→Bool}:∀ (r rest:List UInt8),(∀ x∈r,p x=true)→(∀ b,rest.head? = some b→p b=false)→(r++rest).takeWhile p=r
 | [],rest,_,h=>by
  cases rest with
  | nil=>rfl
  | cons b t=>rw [List.nil_append,List.takeWhile_cons,if_neg (by simp [h b rfl])]
 | a::r,rest,h,h2=>by
  rw [List.cons_append,List.takeWhile_cons,if_pos (h a (by simp)),k4c r rest (fun x hx=>h x (by simp [hx])) h2]
theorem k2x {s:List UInt8} (h:s≠[]):∃ a,s.getLast? = some a∧a∈s:=by
 refine ⟨s.getLast h,List.getLast?_eq_some_getLast h,List.getLast_mem h⟩
theorem j3q {p:UInt8→Bool} (hp:∀ x,p x=true→x≠32) {l:List UInt8} (h:∀ x∈l,p x=true):q1a l=l:=by
 rcases List.eq_nil_or_concat l with rfl | ⟨v,c,rfl⟩
 ·rfl
 ·rw [List.concat_eq_append] at h ⊢
  exact q1i v (hp c (h c (by simp)))
theorem v7z {c:UInt8} (h:q3a c=true):spB c=false:=by
 have h1:c≠32:=z8g h
 have h2:c≠10:=by rintro rfl;revert h;decide
 simp [spB,h1,h2]
theorem v7h {c:UInt8} (h:q3w c=true):spB c=false:=by
 have h1:c≠32:=z7q h
 have h2:c≠10:=by rintro rfl;revert h;decide
 simp [spB,h1,h2]
theorem Lx.name {w:Wd} (h:∀ x∈w,q3a x=true) (h0:w≠[]) (h8:w.length≤8):Lx w [w]:=by
 cases w with
 | nil=>exact absurd rfl h0
 | cons c r=>
  have hc:=h c (by simp)
  refine Lx.tok (v7z hc) (fun rest hr=>?_) (j3q (fun _=>z8g) h)
  obtain ⟨a,ha,hm⟩:=k2x (s:=c::r) (by simp)
  have hb:∀ b,rest.head? = some b→q3a b=false:=fun b hb=>by
   have:=hr a b ha hb
   simp only [v3e,h a hm,Bool.true_and,Bool.or_eq_false_iff] at this
   exact this.1
  have e:=k4c r rest (fun x hx=>h x (by simp [hx])) hb
  rw [List.cons_append]
  simp only [q4g,q0o,hc,if_true,e]
  simp only [List.length_cons] at h8 ⊢
  exact ⟨decide_eq_true h8,trivial⟩
theorem Lx.num (n:Nat) (hn:n≤999999):Lx (q4m n) [q4m n]:=by
 have hf:=z5c n
 have h6:=q8d 5 n (by omega)
 have hz:∀ c r,q4m n=c::r→(c != 48 || r.length == 0)=true:=fun c r e=>by
  rcases Nat.eq_zero_or_pos n with h | h
  ·subst h
   rw [q4m,dif_pos (by omega)] at e
   cases e;rfl
  ·obtain ⟨d,z,e2,hd⟩:=k8r n h
   rw [e,List.cons.injEq] at e2
   rw [e2.1];simp [hd]
 cases hd:q4m n with
 | nil=>exact absurd hd (k0e n)
 | cons c r=>
  rw [hd] at hf h6
  have hc:=hf c (by simp)
  have hlow:q3a c=false:=k0j hc
  refine Lx.tok (v7h hc) (fun rest hr=>?_) (j3q (fun _=>z7q) hf)
  obtain ⟨a,ha,hm⟩:=k2x (s:=c::r) (by simp)
  have hb:∀ b,rest.head? = some b→q3w b=false:=fun b hb=>by
   have:=hr a b ha hb
   simp only [v3e,hf a hm,Bool.true_and,Bool.or_eq_false_iff] at this
   exact this.2
  have e:=k4c r rest (fun x hx=>hf x (by simp [hx])) hb
  rw [List.cons_append]
  simp only [q4g,q0o,hc,hlow,if_true,Bool.false_eq_true,if_false,e]
  simp only [List.length_cons] at h6 ⊢
  exact ⟨by rw [decide_eq_true h6,hz c r hd];rfl,trivial⟩
theorem Lx.mark {c:UInt8} (h:y0m c=true):Lx [c] [[c]]:=by
 have hc:spB c=false∧q3a c=false∧q3w c=false∧(c == 35)=false∧c≠32:=by
  simp only [y0m,v8d,List.any_cons,List.any_nil,Bool.or_false,Bool.or_eq_true,beq_iff_eq] at h
  rcases h with h | h | h | h | h | h | h | h | h<;>(subst h;decide)
 obtain ⟨h1,h2,h3,h4,h5⟩:=hc
 refine Lx.tok h1 (fun rest _=>?_) (q1i [] h5)
 rw [List.cons_append]
 simp only [q4g,q0o,h2,h3,h4,Bool.false_eq_true,if_false]
 exact ⟨h,rfl⟩
theorem Lx.pre {c:UInt8} {t:List UInt8} {ws us:List Wd} (h1:Lx [c] ws) (hc:z8z c=true) (h2:Lx t us):Lx (c::t) (ws++us):=
 Lx.app h1 h2 (k4x hc [] t)
theorem Lx.post {c:UInt8} {s:List UInt8} {ws us:List Wd} (h1:Lx s ws) (hc:z8z c=true) (h2:Lx [c] us):Lx (s++[c]) (ws++us):=
 Lx.app h1 h2 (q2g hc [])
theorem k3c {t:Tn} (h:Lx t.tx t.tk) (l:Nat):Lx (brx l t) (brk l t):=by
 unfold brx brk
 split
 ·exact Lx.pre (Lx.mark (c:=40) rfl) rfl (Lx.post h rfl (Lx.mark (c:=41) rfl))
 ·exact h
theorem v8a:∀ ks:List Tn,(∀ t∈ks,Lx t.tx t.tk)→Lx (cmx ks) (cmk ks)
 | [],_=>Lx.nil
 | [t],h=>by simpa [cmx,cmk] using h t (by simp)
 | t::u::r,h=>by
  have ih:=v8a (u::r) fun x hx=>h x (by simp [hx])
  rw [cmx,cmk]
  have h3:Lx (44::32::cmx (u::r)) ([44]::cmk (u::r)):=by
   have:=Lx.pre (Lx.mark (c:=44) rfl) rfl (Lx.pre (Lx.blank (c:=32) rfl) rfl ih)
   simpa using this
  exact Lx.app (h t (by simp)) h3 (q2g rfl _)
theorem j1a:∀ F:Fo,F.ok→F.exs→∀ t∈F.trs,Lx t.tx t.tk
 | .nil,_,_,t,ht=>by cases ht
 | .cons x k n,hok,hex,t,ht=>by
  have hexk:k.exs:=fun y hy=>hex y (by simp [Fo.nodes,hy])
  have hexn:n.exs:=fun y hy=>hex y (by simp [Fo.nodes,hy])
  have ihk:=j1a k hok.2.1 hexk
  rw [Fo.trs] at ht
  rcases List.mem_cons.1 ht with rfl | ht
  ·have hlen:k.trs.length=kdT x:=by rw [z0e];exact hok.1
   have hc:=v8a k.trs ihk
   rcases q3c (hex x (by simp [Fo.nodes])) with ⟨ho,htx,hn0,hn1,hk⟩ | ⟨ho,hnm,hn0,hk⟩ | ⟨ho,hnm,hn0,hn1,hk⟩ | ⟨ho,htx,hn0,hn1,hk⟩ | ⟨ho,htx,hn0,hk⟩ | ⟨ho,htx,hn0,hk⟩
   ·have h1:(q0r x k.trs).tx=q4m x.n.toNat:=by simp [q0r,q2r,ho]
    have h2:(q0r x k.trs).tk=[q4m x.n.toNat]:=by simp [q0r,q9e,ho]
    rw [h1,h2]
    exact Lx.num _ (by omega)
   ·obtain ⟨c,z,e,_,_,h8,hall⟩:=q6v (w:=btL x.tx) hnm
    have h1:(q0r x k.trs).tx=btL x.tx:=by simp [q0r,q2r,ho]
    have h2:(q0r x k.trs).tk=[btL x.tx]:=by simp [q0r,q9e,ho]
    rw [h1,h2]
    exact Lx.name hall (by rw [e];simp) h8
   ·obtain ⟨c,z,e,_,_,h8,hall⟩:=q6v (w:=btL x.tx) hnm
    have h1:(q0r x k.trs).tx=btL x.tx++40::(cmx k.trs++[41]):=by simp [q0r,q2r,ho]
    have h2:(q0r x k.trs).tk=[btL x.tx]++([[40]]++(cmk k.trs++[[41]])):=by simp [q0r,q9e,ho]
    rw [h1,h2]
    exact Lx.app (Lx.name hall (by rw [e];simp) h8) (Lx.pre (Lx.mark (c:=40) rfl) rfl (Lx.post hc rfl (Lx.mark (c:=41) rfl))) (q2g rfl _)
   ·have h1:(q0r x k.trs).tx=91::(cmx k.trs++[93]):=by simp [q0r,q2r,ho]
    have h2:(q0r x k.trs).tk=[[91]]++(cmk k.trs++[[93]]):=by simp [q0r,q9e,ho]
    rw [h1,h2]
    exact Lx.pre (Lx.mark (c:=91) rfl) rfl (Lx.post hc rfl (Lx.mark (c:=93) rfl))
   ·obtain ⟨a,b,hab⟩:=v6h (hlen.trans hk)
    rw [hab] at ihk ⊢
    have h1:(q0r x [a,b]).tx=brx 0 a++32::43::32::brx 1 b:=by simp [q0r,q2r,two2,ho]
    have h2:(q0r x [a,b]).tk=brk 0 a++([]++([[43]]++([]++brk 1 b))):=by simp [q0r,q9e,two2,ho]
    rw [h1,h2]
    exact Lx.app (k3c (ihk a (by simp)) 0) (Lx.pre (Lx.blank (c:=32) rfl) rfl (Lx.pre (Lx.mark (c:=43) rfl) rfl (Lx.pre (Lx.blank (c:=32) rfl) rfl (k3c (ihk b (by simp)) 1)))) (q2g rfl _)
   ·obtain ⟨a,b,hab⟩:=v6h (hlen.trans hk)
    rw [hab] at ihk ⊢
    have h1:(q0r x [a,b]).tx=brx 1 a++32::42::32::brx 2 b:=by simp [q0r,q2r,two2,ho]
    have h2:(q0r x [a,b]).tk=brk 1 a++([]++([[42]]++([]++brk 2 b))):=by simp [q0r,q9e,two2,ho]
    rw [h1,h2]
    exact Lx.app (k3c (ihk a (by simp)) 1) (Lx.pre (Lx.blank (c:=32) rfl) rfl (Lx.pre (Lx.mark (c:=42) rfl) rfl (Lx.pre (Lx.blank (c:=32) rfl) rfl (k3c (ihk b (by simp)) 2)))) (q2g rfl _)
  ·exact j1a n hok.2.2 hexn t ht
def z3f (t l:Wd):Wd:=(if l≠[]∧t≠[] then t++[32] else t)++l
def ntx (ws:List Wd):Wd:=ws.foldl z3f []
def z2i (w:Wd):Wd:=ntx (q0k (w.drop 1))
def jb:List Wd→Wd
 | []=>[]
 | w::r=>w++match r with
  | []=>[]
  | _::_=>32::jb r
theorem z7w:∀ s:List UInt8,jb (q4v s)=s
 | []=>rfl
 | c::r=>by
  have ih:=z7w r
  by_cases hc:c=32
  ·subst hc
   rw [q4w]
   cases hs:q4v r with
   | nil=>exact absurd hs (q7o r)
   | cons w ws=>
    rw [hs] at ih
    simp [jb,←ih]
  ·cases hs:q4v r with
   | nil=>exact absurd hs (q7o r)
   | cons w ws=>
    rw [q4x hc hs]
    rw [hs] at ih
    rw [←ih]
    simp [jb]
theorem k9t:∀ (ws:List Wd) (t:Wd),(∀ w∈ws,w≠[])→t≠[]→ws.foldl z3f t=t++(match ws with | []=>[] | _::_=>32::jb ws)
 | [],t,_,_=>by simp
 | w::r,t,h,ht=>by
  have hw:=h w (by simp)
  have e:z3f t w=t++32::w:=by simp [z3f,hw,ht]
  rw [List.foldl_cons,e,k9t r _ (fun x hx=>h x (by simp [hx])) (by simp)]
  cases r with
  | nil=>simp [jb]
  | cons u r=>simp [jb]
theorem v0x {ws:List Wd} (h:∀ w∈ws,w≠[]):ntx ws=jb ws:=by
 cases ws with
 | nil=>rfl
 | cons w r=>
  have hw:=h w (by simp)
  have e:z3f [] w=w:=by simp [z3f]
  rw [ntx,List.foldl_cons,e,k9t r w (fun x hx=>h x (by simp [hx])) hw]
  cases r<;>simp [jb]
theorem j1p (ws:List Wd):ntx ([]::ws)=ntx ws:=by
 have e:z3f [] []=[]:=by simp [z3f]
 rw [ntx,List.foldl_cons,e];rfl
theorem z6a {tx:ByteArray} (h:q3k tx=0):(q0k (btL tx)).length≤60∧∀ w∈q0k (btL tx),w≠[]∧w.length≤20∧∀ b∈w,q9b b=true:=by
 obtain ⟨h1,h2⟩:=q7s h
 refine ⟨by simpa using h1,fun w hw=>?_⟩
 have h3:=h2 (wbS w) (List.mem_map.2 ⟨w,hw,rfl⟩)
 have hl:(wbS w).size=w.length:=by rw [←q0b];rfl
 simp only [okW,Bool.and_eq_true,decide_eq_true_eq,List.all_eq_true,hl] at h3
 refine ⟨fun e=>?_,h3.1.2,h3.2⟩
 rw [e] at h3;simp at h3
def k6u (tx:ByteArray):Wd:=if tx.size=0 then [35] else [35,32]++btL tx
theorem q8t {tx:ByteArray}:tx.size=0↔btL tx=[]:=by
 rw [←q0b]
 exact List.length_eq_zero_iff
theorem k5l {tx:ByteArray} (h:q3k tx=0):z2i (k6u tx)=btL tx:=by
 obtain ⟨_,h2⟩:=z6a h
 unfold k6u z2i
 by_cases h0:tx.size=0
 ·rw [if_pos h0,q8t.1 h0];rfl
 ·rw [if_neg h0]
  have hne:btL tx≠[]:=fun e=>h0 (q8t.2 e)
  have e1:([35,32]++btL tx).drop 1=32::btL tx:=rfl
  have e2:q0k (btL tx)=q4v (btL tx):=by rw [q0k,if_neg hne]
  rw [e1,q0k,if_neg (by simp),q4w,j1p,v0x (fun w hw=>(h2 w (by rw [e2];exact hw)).1),z7w]
theorem z5l {p:UInt8→Bool} (h32:p 32=true):∀ ws:List Wd,(∀ w∈ws,∀ b∈w,p b=true)→∀ b∈jb ws,p b=true
 | [],_,b,hb=>by cases hb
 | [w],h,b,hb=>by
  have e:jb [w]=w:=by simp [jb]
  rw [e] at hb
  exact h w (by simp) b hb
 | w::u::r,h,b,hb=>by
  have e:jb (w::u::r)=w++32::jb (u::r):=by simp [jb]
  rw [e] at hb
  rcases List.mem_append.1 hb with hb | hb
  ·exact h w (by simp) b hb
  ·rcases List.mem_cons.1 hb with rfl | hb
   ·exact h32
   ·exact z5l h32 (u::r) (fun x hx=>h x (by simp [hx])) b hb
theorem k9z:∀ (ws:List Wd),ws≠[]→(∀ w∈ws,w≠[])→∃ v c,jb ws=v++[c]∧∃ w∈ws,c∈w
 | [],h,_=>absurd rfl h
 | [w],_,h=>by
  have hw:=h w (by simp)
  rcases List.eq_nil_or_concat w with e | ⟨v,c,e⟩
  ·exact absurd e hw
  ·exact ⟨v,c,by rw [jb,e];simp,w,by simp,by rw [e];simp⟩
 | w::u::r,_,h=>by
  obtain ⟨v,c,e,x,hx,hc⟩:=k9z (u::r) (by simp) fun y hy=>h y (by simp [hy])
  exact ⟨w++32::v,c,by rw [jb];simp [e],x,by simp [hx],hc⟩
theorem j7n {tx:ByteArray} (h:q3k tx=0):q3i (k6u tx):=by
 obtain ⟨_,h2⟩:=z6a h
 unfold k6u
 by_cases h0:tx.size=0
 ·rw [if_pos h0]
  exact ⟨35,[],rfl,rfl,rfl,rfl,rfl⟩
 ·rw [if_neg h0]
  have hne:btL tx≠[]:=fun e=>h0 (q8t.2 e)
  have e2:q0k (btL tx)=q4v (btL tx):=by rw [q0k,if_neg hne]
  rw [e2] at h2
  have hj:=z7w (btL tx)
  have hpr:∀ b∈btL tx,prB b=true∧nlB b=true:=by
   intro b hb
   rw [←hj] at hb
   have:=z5l (p:=fun b=>prB b && nlB b) rfl (q4v (btL tx)) (fun w hw b hb=>by
    have h3:=(h2 w hw).2.2 b hb
    simp only [q9b,Bool.and_eq_true,decide_eq_true_eq] at h3
    simp only [prB,nlB,Bool.and_eq_true,decide_eq_true_eq,bne_iff_ne,ne_eq]
    refine ⟨by omega,?_⟩
    rintro rfl
    simp at h3) b hb
   simpa using this
  have htw:(32::btL tx).takeWhile nlB=32::btL tx:=by
   have:=k4c (p:=nlB) (32::btL tx) [] (fun x hx=>by
    rcases List.mem_cons.1 hx with rfl | hx
    ·rfl
    ·exact (hpr x hx).2) (fun b hb=>by cases hb)
   rw [List.append_nil] at this
   exact this
  refine ⟨35,32::btL tx,rfl,rfl,?_,?_,?_⟩
  ·simp only [q4g]
   rw [htw]
   simp only [q3a,q3w]
   show List.all _ _=true
   rw [List.all_eq_true]
   intro x hx
   rcases List.mem_cons.1 hx with rfl | hx
   ·rfl
   ·exact (hpr x hx).1
  ·simp only [q0o]
   rw [htw];rfl
  ·obtain ⟨v,c,e,w,hw,hc⟩:=k9z (q4v (btL tx)) (q7o _) (fun w hw=>(h2 w hw).1)
   rw [hj] at e
   have hc32:c≠32:=by
    rintro rfl
    have:=(h2 w hw).2.2 32 hc
    revert this;decide
   have e3:(35::32::btL tx)=(35::32::v)++[c]:=by rw [e];rfl
   rw [e3]
   exact q1i _ hc32
inductive Rp where
 | ok (ps:List (List Td)):Rp
 | bad (rest:List Wd):Rp
abbrev z0t:Wd:=[108,101,116]
def ntT (t:Wd):Td:=⟨9,wbS t,0⟩
def k6t (w:Wd):Td:=⟨7,wbS w,0⟩
def doT:Td:=⟨8,⟨#[]⟩,0⟩
def z3x (acc:List (List Td)):Wd:=match acc.getLast? with
 | some (x::_)=>btL x.tx
 | _=>[]
def v1u (pv:Bool) (acc:List (List Td)) (t:Wd):List (List Td):=if pv then acc.dropLast++[[ntT (z3f (z3x acc) t)]] else acc++[[ntT t]]
inductive PG:Bool→List (List Td)→List Wd→Rp→Prop where
 | done {pv acc}:PG pv acc [] (.ok acc)
 | note {pv acc w ts r}:w.headD 0=35→PG true (v1u pv acc (z2i w)) ts r→PG pv acc (w::ts) r
 | letN {pv acc ts}:(∀ w,ts.head? = some w→nmW w=false)→PG pv acc (z0t::ts) (.bad ts)
 | letE {pv acc nm ts}:nmW nm=true→ts.head?≠some [61]→PG pv acc (z0t::nm::ts) (.bad ts)
 | letB {pv acc nm ts u}:nmW nm=true→PR (.level 0) ts (.bad u)→PG pv acc (z0t::nm::[61]::ts) (.bad u)
 | letX {pv acc nm ts m ns u}:nmW nm=true→PR (.level 0) ts (.ok m ns u)→u.head?≠some [59]→PG pv acc (z0t::nm::[61]::ts) (.bad u)
 | letO {pv acc nm ts m ns u r}:nmW nm=true→PR (.level 0) ts (.ok m ns ([59]::u))→PG false (acc++[k6t nm::ns]) u r→PG pv acc (z0t::nm::[61]::ts) r
 | doB {pv acc w ts u}:w.headD 0≠35→w≠z0t→PR (.level 0) (w::ts) (.bad u)→PG pv acc (w::ts) (.bad u)
 | doX {pv acc w ts m ns u}:w.headD 0≠35→w≠z0t→PR (.level 0) (w::ts) (.ok m ns u)→u.head?≠some [59]→PG pv acc (w::ts) (.bad u)
 | doO {pv acc w ts m ns u r}:w.headD 0≠35→w≠z0t→PR (.level 0) (w::ts) (.ok m ns ([59]::u))→PG false (acc++[doT::ns]) u r→PG pv acc (w::ts) r
theorem q7e:z0t.headD 0≠35:=by decide
theorem q7f {pv:Bool} {acc:List (List Td)} {ts:List Wd} {r:Rp} (h:PG pv acc ts r):∀ {r':Rp},PG pv acc ts r'→r=r':=by
 induction h with
 | done=>intro r' h';cases h';rfl
 | note h0 _ ih=>intro r' h';cases h' with
  | note _ h2=>exact ih h2
  | letN=>exact absurd h0 q7e
  | letE=>exact absurd h0 q7e
  | letB=>exact absurd h0 q7e
  | letX=>exact absurd h0 q7e
  | letO=>exact absurd h0 q7e
  | doB h2=>exact absurd h0 h2
  | doX h2=>exact absurd h0 h2
  | doO h2=>exact absurd h0 h2
 | letN h0=>intro r' h';cases h' with
  | note h2=>exact absurd h2 q7e
  | letN=>rfl
  | letE h2=>rw [h0 _ rfl] at h2;cases h2
  | letB h2=>rw [h0 _ rfl] at h2;cases h2
  | letX h2=>rw [h0 _ rfl] at h2;cases h2
  | letO h2=>rw [h0 _ rfl] at h2;cases h2
  | doB _ h2=>exact absurd rfl h2
  | doX _ h2=>exact absurd rfl h2
  | doO _ h2=>exact absurd rfl h2
 | letE h0 h1=>intro r' h';cases h' with
  | note h2=>exact absurd h2 q7e
  | letN h2=>rw [h2 _ rfl] at h0;cases h0
  | letE=>rfl
  | letB=>simp at h1
  | letX=>simp at h1
  | letO=>simp at h1
  | doB _ h2=>exact absurd rfl h2
  | doX _ h2=>exact absurd rfl h2
  | doO _ h2=>exact absurd rfl h2
 | letB h0 h1=>intro r' h';cases h' with
  | note h2=>exact absurd h2 q7e
  | letN h2=>rw [h2 _ rfl] at h0;cases h0
  | letE _ h2=>simp at h2
  | letB _ h2=>cases q2h h1 h2;rfl
  | letX _ h2=>cases q2h h1 h2
  | letO _ h2=>cases q2h h1 h2
  | doB _ h2=>exact absurd rfl h2
  | doX _ h2=>exact absurd rfl h2
  | doO _ h2=>exact absurd rfl h2
 | letX h0 h1 h3=>intro r' h';cases h' with
  | note h2=>exact absurd h2 q7e
  | letN h2=>rw [h2 _ rfl] at h0;cases h0
  | letE _ h2=>simp at h2
  | letB _ h2=>cases q2h h1 h2
  | letX _ h2 _=>cases q2h h1 h2;rfl
  | letO _ h2 _=>cases q2h h1 h2;simp at h3
  | doB _ h2=>exact absurd rfl h2
  | doX _ h2=>exact absurd rfl h2
  | doO _ h2=>exact absurd rfl h2
 | letO h0 h1 _ ih=>intro r' h';cases h' with
  | note h2=>exact absurd h2 q7e
  | letN h2=>rw [h2 _ rfl] at h0;cases h0
  | letE _ h2=>simp at h2
  | letB _ h2=>cases q2h h1 h2
  | letX _ h2 h4=>cases q2h h1 h2;simp at h4
  | letO _ h2 h4=>cases q2h h1 h2;exact ih h4
  | doB _ h2=>exact absurd rfl h2
  | doX _ h2=>exact absurd rfl h2
  | doO _ h2=>exact absurd rfl h2
 | doB h0 h1 h3=>intro r' h';cases h' with
  | note h2=>exact absurd h2 h0
  | letN=>exact absurd rfl h1
  | letE=>exact absurd rfl h1
  | letB=>exact absurd rfl h1
  | letX=>exact absurd rfl h1
  | letO=>exact absurd rfl h1
  | doB _ _ h2=>cases q2h h3 h2;rfl
  | doX _ _ h2=>cases q2h h3 h2
  | doO _ _ h2=>cases q2h h3 h2
 | doX h0 h1 h3 h4=>intro r' h';cases h' with
  | note h2=>exact absurd h2 h0
  | letN=>exact absurd rfl h1
  | letE=>exact absurd rfl h1
  | letB=>exact absurd rfl h1
  | letX=>exact absurd rfl h1
  | letO=>exact absurd rfl h1
  | doB _ _ h2=>cases q2h h3 h2
  | doX _ _ h2 _=>cases q2h h3 h2;rfl
  | doO _ _ h2 _=>cases q2h h3 h2;simp at h4
 | doO h0 h1 h3 _ ih=>intro r' h';cases h' with
  | note h2=>exact absurd h2 h0
  | letN=>exact absurd rfl h1
  | letE=>exact absurd rfl h1
  | letB=>exact absurd rfl h1
  | letX=>exact absurd rfl h1
  | letO=>exact absurd rfl h1
  | doB _ _ h2=>cases q2h h3 h2
  | doX _ _ h2 h4=>cases q2h h3 h2;simp at h4
  | doO _ _ h2 h4=>cases q2h h3 h2;exact ih h4
end Go.Proofs.YtchdplceopegoaaGreatDoor
