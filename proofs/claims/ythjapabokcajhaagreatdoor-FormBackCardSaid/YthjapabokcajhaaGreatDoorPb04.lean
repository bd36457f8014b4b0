/- Texts as one: SynU, SynN, SynO, SynJ, SynW. -/
import Derived.Test.YthjapabokcajhaaGreatDoorPb01
import Derived.Test.YthjapabokcajhaaGreatDoorPb03
namespace Go.Proofs.YthjapabokcajhaaGreatDoor
open Go
theorem z5u:∀ (f g:Fo),(f.app g).trs=f.trs++g.trs
 | .nil,g=>rfl
 | .cons x k n,g=>by simp [Fo.app,Fo.trs,z5u n g]
def z1h (ns:List Td) (t:Tn):Prop:=∃ F:Fo,F.ok∧F.trs=[t]∧F.nodes=ns∧∀ x∈ns,x.op<7
theorem v9e (t:Tn) (a b:Nat) (h:a≤b):(brk a t).length≤(brk b t).length:=by
 unfold brk
 split
 ·rw [if_pos (by omega)];exact Nat.le_refl _
 ·split
  ·simp;omega
  ·exact Nat.le_refl _
theorem v3x (t:Tn) (b:Nat):(brk b t).length≤(brk 0 t).length+2:=by
 rw [q3f]
 unfold brk
 split
 ·simp
 ·omega
def y4a (x:Td):Fo:=.cons x .nil .nil
theorem y0f {x:Td} (h:kdT x=0) (h7:x.op<7):z1h [x] (q1u x []):=
 ⟨y4a x,⟨h.symm,trivial,trivial⟩,rfl,rfl,fun y hy=>by rw [List.mem_singleton] at hy;rw [hy];exact h7⟩
theorem v7l {x:Td} {K:Fo} (hk:K.ok) (h:K.len=kdT x) (h7:x.op<7) (ha:∀ y∈K.nodes,y.op<7):z1h (x::K.nodes) (q1u x K.trs):=
 ⟨.cons x K .nil,⟨h,hk,trivial⟩,rfl,by simp [Fo.nodes],fun y hy=>by
  rcases List.mem_cons.1 hy with rfl | hy
  ·exact h7
  ·exact ha y hy⟩
theorem y3y {k:Nat} (hk:k<2):kdT (sgT k)=2:=by
 rcases Nat.lt_or_ge k 1 with h | h
 ·obtain rfl:k=0:=by omega
  rfl
 ·obtain rfl:k=1:=by omega
  rfl
theorem two1 {k:Nat} (hk:k<2) {a b:List Td} {s t:Tn} (ha:z1h a s) (hb:z1h b t):z1h (sgT k::(a++b)) (q1u (sgT k) [s,t]):=by
 obtain ⟨F,f1,f2,f3,f4⟩:=ha
 obtain ⟨G,g1,g2,g3,g4⟩:=hb
 have hl:(F.app G).len=2:=by rw [←q4x,z5u,f2,g2];rfl
 have h:=v7l (x:=sgT k) (K:=F.app G) (k8a f1 g1) (by rw [hl,y3y hk]) (by show (5:Int)+k<7;omega) (fun y hy=>by
  rw [q8o,f3,g3] at hy
  rcases List.mem_append.1 hy with hy | hy
  ·exact f4 y hy
  ·exact g4 y hy)
 rw [q8o,f3,g3,z5u,f2,g2] at h
 exact h
theorem v8j {k:Nat} (hk:k<2) (s t:Tn):(brk k (q1u (sgT k) [s,t])).length=(brk k s).length+1+(brk (k+1) t).length:=by
 rcases Nat.lt_or_ge k 1 with h | h
 ·obtain rfl:k=0:=by omega
  rw [q3f]
  simp [q1u,q3h,sgT,two2];omega
 ·obtain rfl:k=1:=by omega
  rw [brk,if_neg (by simp [q1u,prc,sgT])]
  simp [q1u,q3h,sgT,two2];omega
theorem k0w:∀ ks:List Tn,(cmk ks).length+1=(ks.map fun t=>t.tk.length+1).sum+(if ks=[] then 1 else 0)
 | []=>rfl
 | [t]=>by simp [cmk]
 | t::u::r=>by
  have ih:=k0w (u::r)
  rw [z1n,cmt,List.length_append,List.length_cons,List.map_cons,List.sum_cons]
  rw [if_neg (by simp)] at ih ⊢
  omega
theorem k9b (ks:List Tn) (t:Tn):(cmk (ks++[t])).length=(cmk ks).length+t.tk.length+(if ks=[] then 0 else 1):=by
 have h1:=k0w (ks++[t])
 have h2:=k0w ks
 rw [if_neg (by simp),List.map_append,List.sum_append] at h1
 simp only [List.map_cons,List.map_nil,List.sum_cons,List.sum_nil] at h1
 by_cases h:ks=[]
 ·rw [if_pos h] at h2 ⊢;omega
 ·rw [if_neg h] at h2 ⊢;omega
theorem q4g {w:Wd} (h:z1i w=true) (ts:List Wd):many (w::ts)=many ts+1:=by
 simp [many,h]
theorem v7n (k:Nat):z1i (sgn k)=true:=by
 unfold sgn
 split<;>rfl
theorem v7m {w:Wd} (h:k0m w=true):z1i w=true:=by
 have:=(z2d (.inr (.inr (.inl h)))).2.2.2.2
 simpa [z1i] using this
theorem z7a {w:Wd} (h:nmW w=true):z1i w=true:=by
 have:=(z2d (.inr (.inr (.inr h)))).2.2.2.2
 simpa [z1i] using this
def y3h (j:Job) (ts:List Wd):Rs→Prop
 | .bad _=>True
 | .ok m ns u=>match j with
  | .level k=>∃ t,z1h ns t∧(brk k t).length+many u≤many ts
  | .single=>∃ t,z1h ns t∧(brk 2 t).length+many u≤many ts
  | .loop k acc=>k<2→∀ t0,z1h acc t0→∃ t,z1h ns t∧(brk k t).length+many u≤(brk k t0).length+many ts
  | .args e n acc=>z1i e=true→∀ F:Fo,F.ok→F.len=n→F.nodes=acc→(∀ x∈acc,x.op<7)→∃ G:Fo,G.ok∧G.len=m∧G.nodes=ns∧(∀ x∈ns,x.op<7)∧(cmk G.trs).length+1+many u≤(cmk F.trs).length+many ts
theorem j0r {F:Fo} {acc ns:List Td} {t:Tn} (hF:F.ok) (hn:F.nodes=acc) (ha:∀ x∈acc,x.op<7) (ht:z1h ns t):∃ G:Fo,G.ok∧G.len=F.len+1∧G.nodes=acc++ns∧(∀ x∈acc++ns,x.op<7)∧G.trs=F.trs++[t]:=by
 obtain ⟨T,t1,t2,t3,t4⟩:=ht
 refine ⟨F.app T,k8a hF t1,?_,by rw [q8o,hn,t3],fun x hx=>?_,by rw [z5u,t2]⟩
 ·rw [k7z,←q4x T,t2];rfl
 ·rcases List.mem_append.1 hx with hx | hx
  ·exact ha x hx
  ·exact t4 x hx
theorem j3l {j:Job} {ts:List Wd} {r:Rs} (h:PR j ts r):y3h j ts r:=by
 induction h with
 | lev2 _ ih=>rename_i r _;cases r with
  | bad=>trivial
  | ok m ns u=>exact ih
 | levB=>trivial
 | levO h0 _ _ ih1 ih2=>rename_i k _ _ _ _ r _ _;cases r with
  | bad=>trivial
  | ok m ns u=>
   obtain ⟨t0,a1,a2⟩:=ih1
   obtain ⟨t,b1,b2⟩:=ih2 h0 t0 a1
   have:=v9e t0 k (k+1) (by omega)
   exact ⟨t,b1,by omega⟩
 | lopE _=>exact fun _ t0 h=>⟨t0,h,Nat.le_refl _⟩
 | lopB=>trivial
 | lopO _ _ ih1 ih2=>rename_i r _ _;cases r with
  | bad=>trivial
  | ok m ns u=>
   intro hk t0 h0
   obtain ⟨t1,a1,a2⟩:=ih1
   obtain ⟨t,b1,b2⟩:=ih2 hk _ (two1 hk h0 a1)
   rw [v8j hk] at b2
   exact ⟨t,b1,by rw [q4g (v7n _)];omega⟩
 | sinN=>trivial
 | sPB=>trivial
 | sPC _ ih=>
  obtain ⟨t,a1,a2⟩:=ih
  have:=v3x t 2
  exact ⟨t,a1,by rw [q4g (w:=[41]) rfl] at a2;rw [q4g (w:=[40]) rfl];omega⟩
 | sPX=>trivial
 | sLB=>trivial
 | sLO _ ih=>
  rename_i ts n ns u _
  obtain ⟨G,g1,g2,g3,g4,g5⟩:=ih rfl .nil trivial rfl rfl (fun x hx=>by cases hx)
  have hkd:kdT (lsT n)=n:=by simp [kdT,lsT]
  refine ⟨q1u (lsT n) G.trs,?_,?_⟩
  ·rw [←g3]
   exact v7l g1 (by rw [hkd];exact g2) (by show (4:Int)<7;omega) (by rw [g3];exact g4)
  ·rw [brk,if_neg (by simp [q1u,prc,lsT])]
   have e:(q1u (lsT n) G.trs).tk.length=(cmk G.trs).length+2:=by simp [q1u,q3h,lsT]
   have e0:(cmk Fo.nil.trs).length=0:=rfl
   rw [e,q4g (w:=[91]) rfl]
   omega
 | sNum h0=>
  rename_i w ts
  refine ⟨q1u (v2e w) [],y0f (by simp [kdT,v2e]) (by show (1:Int)<7;omega),?_⟩
  rw [brk,if_neg (by simp [q1u,prc,v2e]),q4g (v7m h0)]
  simp [q1u,q3h,v2e];omega
 | sName h0 _=>
  rename_i w ts _
  refine ⟨q1u (nmT w) [],y0f (by simp [kdT,nmT]) (by show (2:Int)<7;omega),?_⟩
  rw [brk,if_neg (by simp [q1u,prc,nmT]),q4g (z7a h0)]
  simp [q1u,q3h,nmT];omega
 | sCB=>trivial
 | sCO h0 _ ih=>
  rename_i w ts n ns u _
  obtain ⟨G,g1,g2,g3,g4,g5⟩:=ih rfl .nil trivial rfl rfl (fun x hx=>by cases hx)
  have hkd:kdT (clT w n)=n:=by simp [kdT,clT]
  refine ⟨q1u (clT w n) G.trs,?_,?_⟩
  ·rw [←g3]
   exact v7l g1 (by rw [hkd];exact g2) (by show (3:Int)<7;omega) (by rw [g3];exact g4)
  ·rw [brk,if_neg (by simp [q1u,prc,clT])]
   have e:(q1u (clT w n) G.trs).tk.length=(cmk G.trs).length+3:=by simp [q1u,q3h,clT]
   have e0:(cmk Fo.nil.trs).length=0:=rfl
   rw [e,q4g (z7a h0),q4g (w:=[40]) rfl]
   omega
 | sBad=>trivial
 | aEnd=>exact fun he F hF hl hn ha=>⟨F,hF,hl,hn,ha,by rw [q4g he];omega⟩
 | aSep=>trivial
 | aB0=>trivial
 | aO0 _ _ _ ih1 ih2=>rename_i r _ _ _;cases r with
  | bad=>trivial
  | ok m ns u=>
   intro he F hF hl hn ha
   obtain ⟨t,a1,a2⟩:=ih1
   obtain ⟨G,g1,g2,g3,g4,g5⟩:=j0r hF hn ha a1
   obtain ⟨H,h1,h2,h3,h4,h5⟩:=ih2 he G g1 (by omega) g3 g4
   have hnil:F.trs=[]:=List.eq_nil_of_length_eq_zero (by rw [q4x];exact hl)
   rw [g5,k9b,if_pos hnil] at h5
   rw [q3f] at a2
   exact ⟨H,h1,h2,h3,h4,by omega⟩
 | aB=>trivial
 | aO _ _ _ ih1 ih2=>rename_i r _ _ _;cases r with
  | bad=>trivial
  | ok m ns u=>
   intro he F hF hl hn ha
   obtain ⟨t,a1,a2⟩:=ih1
   obtain ⟨G,g1,g2,g3,g4,g5⟩:=j0r hF hn ha a1
   obtain ⟨H,h1,h2,h3,h4,h5⟩:=ih2 he G g1 (by omega) g3 g4
   have hne:F.trs≠[]:=fun e=>by
    have:=q4x F
    rw [e,hl] at this;simp at this
   rw [g5,k9b,if_neg hne] at h5
   rw [q3f] at a2
   exact ⟨H,h1,h2,h3,h4,by rw [q4g (w:=[44]) rfl];omega⟩
end Go.Proofs.YthjapabokcajhaaGreatDoor
namespace Go.Proofs.YthjapabokcajhaaGreatDoor
open Go
def q9x (t l:Wd):Wd:=(if l≠[]∧t≠[] then t++[32] else t)++l
def ntx (ws:List Wd):Wd:=ws.foldl q9x []
def q4n (w:Wd):Wd:=ntx (q0h (w.drop 1))
def jb:List Wd→Wd
 | []=>[]
 | w::r=>w++match r with
  | []=>[]
  | _::_=>32::jb r
theorem z2s:∀ s:List UInt8,jb (q4w s)=s
 | []=>rfl
 | c::r=>by
  have ih:=z2s r
  by_cases hc:c=32
  ·subst hc
   rw [q5h]
   cases hs:q4w r with
   | nil=>exact absurd hs (q5y r)
   | cons w ws=>
    rw [hs] at ih
    simp [jb,←ih]
  ·cases hs:q4w r with
   | nil=>exact absurd hs (q5y r)
   | cons w ws=>
    rw [q5i hc hs]
    rw [hs] at ih
    rw [←ih]
    simp [jb]
theorem j0s:∀ (ws:List Wd) (t:Wd),(∀ w∈ws,w≠[])→t≠[]→ws.foldl q9x t=t++(match ws with | []=>[] | _::_=>32::jb ws)
 | [],t,_,_=>by simp
 | w::r,t,h,ht=>by
  have hw:=h w (by simp)
  have e:q9x t w=t++32::w:=by simp [q9x,hw,ht]
  rw [List.foldl_cons,e,j0s r _ (fun x hx=>h x (by simp [hx])) (by simp)]
  cases r with
  | nil=>simp [jb]
  | cons u r=>simp [jb]
theorem v2p {ws:List Wd} (h:∀ w∈ws,w≠[]):ntx ws=jb ws:=by
 cases ws with
 | nil=>rfl
 | cons w r=>
  have hw:=h w (by simp)
  have e:q9x [] w=w:=by simp [q9x]
  rw [ntx,List.foldl_cons,e,j0s r w (fun x hx=>h x (by simp [hx])) hw]
  cases r<;>simp [jb]
theorem j2u (ws:List Wd):ntx ([]::ws)=ntx ws:=by
 have e:q9x [] []=[]:=by simp [q9x]
 rw [ntx,List.foldl_cons,e];rfl
theorem z0q {tx:ByteArray} (h:q2t tx=0):(q0h (btL tx)).length≤60∧∀ w∈q0h (btL tx),w≠[]∧w.length≤20∧∀ b∈w,q7r b=true:=by
 obtain ⟨h1,h2⟩:=q8i h
 refine ⟨by simpa using h1,fun w hw=>?_⟩
 have h3:=h2 (wbS w) (List.mem_map.2 ⟨w,hw,rfl⟩)
 have hl:(wbS w).size=w.length:=by rw [←q0b];rfl
 simp only [okW,Bool.and_eq_true,decide_eq_true_eq,List.all_eq_true,hl] at h3
 refine ⟨fun e=>?_,h3.1.2,h3.2⟩
 rw [e] at h3;simp at h3
def k0l (tx:ByteArray):Wd:=if tx.size=0 then [35] else [35,32]++btL tx
theorem q9n {tx:ByteArray}:tx.size=0↔btL tx=[]:=by
 rw [←q0b]
 exact List.length_eq_zero_iff
theorem z5a {tx:ByteArray} (h:q2t tx=0):q4n (k0l tx)=btL tx:=by
 obtain ⟨_,h2⟩:=z0q h
 unfold k0l q4n
 by_cases h0:tx.size=0
 ·rw [if_pos h0,q9n.1 h0];rfl
 ·rw [if_neg h0]
  have hne:btL tx≠[]:=fun e=>h0 (q9n.2 e)
  have e1:([35,32]++btL tx).drop 1=32::btL tx:=rfl
  have e2:q0h (btL tx)=q4w (btL tx):=by rw [q0h,if_neg hne]
  rw [e1,q0h,if_neg (by simp),q5h,j2u,v2p (fun w hw=>(h2 w (by rw [e2];exact hw)).1),z2s]
theorem z6m {p:UInt8→Bool} (h32:p 32=true):∀ ws:List Wd,(∀ w∈ws,∀ b∈w,p b=true)→∀ b∈jb ws,p b=true
 | [],_,b,hb=>by cases hb
 | [w],h,b,hb=>by
  have e:jb [w]=w:=by simp [jb]
  rw [e] at hb
  exact h w (by simp) b hb
 | w::u::r,h,b,hb=>by
  have e:jb (w::u::r)=w++32::jb (u::r):=by simp [jb]
  rw [e] at hb
  rcases List.mem_append.1 hb with hb | hb
  ·exact h w (by simp) b hb
  ·rcases List.mem_cons.1 hb with rfl | hb
   ·exact h32
   ·exact z6m h32 (u::r) (fun x hx=>h x (by simp [hx])) b hb
theorem j0z:∀ (ws:List Wd),ws≠[]→(∀ w∈ws,w≠[])→∃ v c,jb ws=v++[c]∧∃ w∈ws,c∈w
 | [],h,_=>absurd rfl h
 | [w],_,h=>by
  have hw:=h w (by simp)
  rcases List.eq_nil_or_concat w with e | ⟨v,c,e⟩
  ·exact absurd e hw
  ·exact ⟨v,c,by rw [jb,e];simp,w,by simp,by rw [e];simp⟩
 | w::u::r,_,h=>by
  obtain ⟨v,c,e,x,hx,hc⟩:=j0z (u::r) (by simp) fun y hy=>h y (by simp [hy])
  exact ⟨w++32::v,c,by rw [jb];simp [e],x,by simp [hx],hc⟩
theorem k3w {tx:ByteArray} (h:q2t tx=0):q3p (k0l tx):=by
 obtain ⟨_,h2⟩:=z0q h
 unfold k0l
 by_cases h0:tx.size=0
 ·rw [if_pos h0]
  exact ⟨35,[],rfl,rfl,rfl,rfl,rfl⟩
 ·rw [if_neg h0]
  have hne:btL tx≠[]:=fun e=>h0 (q9n.2 e)
  have e2:q0h (btL tx)=q4w (btL tx):=by rw [q0h,if_neg hne]
  rw [e2] at h2
  have hj:=z2s (btL tx)
  have hpr:∀ b∈btL tx,prB b=true∧nlB b=true:=by
   intro b hb
   rw [←hj] at hb
   have:=z6m (p:=fun b=>prB b && nlB b) rfl (q4w (btL tx)) (fun w hw b hb=>by
    have h3:=(h2 w hw).2.2 b hb
    simp only [q7r,Bool.and_eq_true,decide_eq_true_eq] at h3
    simp only [prB,nlB,Bool.and_eq_true,decide_eq_true_eq,bne_iff_ne,ne_eq]
    refine ⟨by omega,?_⟩
    rintro rfl
    simp at h3) b hb
   simpa using this
  have htw:(32::btL tx).takeWhile nlB=32::btL tx:=by
   have:=k4t (p:=nlB) (32::btL tx) [] (fun x hx=>by
    rcases List.mem_cons.1 hx with rfl | hx
    ·rfl
    ·exact (hpr x hx).2) (fun b hb=>by cases hb)
   rw [List.append_nil] at this
   exact this
  refine ⟨35,32::btL tx,rfl,rfl,?_,?_,?_⟩
  ·simp only [q4r]
   rw [htw]
   simp only [q3g,q4e]
   show List.all _ _=true
   rw [List.all_eq_true]
   intro x hx
   rcases List.mem_cons.1 hx with rfl | hx
   ·rfl
   ·exact (hpr x hx).1
  ·simp only [q0q]
   rw [htw];rfl
  ·obtain ⟨v,c,e,w,hw,hc⟩:=j0z (q4w (btL tx)) (q5y _) (fun w hw=>(h2 w hw).1)
   rw [hj] at e
   have hc32:c≠32:=by
    rintro rfl
    have:=(h2 w hw).2.2 32 hc
    revert this;decide
   have e3:(35::32::btL tx)=(35::32::v)++[c]:=by rw [e];rfl
   rw [e3]
   exact q1j _ hc32
inductive Rp where
 | ok (ps:List (List Td)):Rp
 | bad (rest:List Wd):Rp
abbrev z2v:Wd:=[108,101,116]
def ntT (t:Wd):Td:=⟨9,wbS t,0⟩
def z4w (w:Wd):Td:=⟨7,wbS w,0⟩
def doT:Td:=⟨8,⟨#[]⟩,0⟩
def q4l (acc:List (List Td)):Wd:=match acc.getLast? with
 | some (x::_)=>btL x.tx
 | _=>[]
def k2s (pv:Bool) (acc:List (List Td)) (t:Wd):List (List Td):=if pv then acc.dropLast++[[ntT (q9x (q4l acc) t)]] else acc++[[ntT t]]
inductive PG:Bool→List (List Td)→List Wd→Rp→Prop where
 | done {pv acc}:PG pv acc [] (.ok acc)
 | note {pv acc w ts r}:w.headD 0=35→PG true (k2s pv acc (q4n w)) ts r→PG pv acc (w::ts) r
 | letN {pv acc ts}:(∀ w,ts.head? = some w→nmW w=false)→PG pv acc (z2v::ts) (.bad ts)
 | letE {pv acc nm ts}:nmW nm=true→ts.head?≠some [61]→PG pv acc (z2v::nm::ts) (.bad ts)
 | letB {pv acc nm ts u}:nmW nm=true→PR (.level 0) ts (.bad u)→PG pv acc (z2v::nm::[61]::ts) (.bad u)
 | letX {pv acc nm ts m ns u}:nmW nm=true→PR (.level 0) ts (.ok m ns u)→u.head?≠some [59]→PG pv acc (z2v::nm::[61]::ts) (.bad u)
 | letO {pv acc nm ts m ns u r}:nmW nm=true→PR (.level 0) ts (.ok m ns ([59]::u))→PG false (acc++[z4w nm::ns]) u r→PG pv acc (z2v::nm::[61]::ts) r
 | doB {pv acc w ts u}:w.headD 0≠35→w≠z2v→PR (.level 0) (w::ts) (.bad u)→PG pv acc (w::ts) (.bad u)
 | doX {pv acc w ts m ns u}:w.headD 0≠35→w≠z2v→PR (.level 0) (w::ts) (.ok m ns u)→u.head?≠some [59]→PG pv acc (w::ts) (.bad u)
 | doO {pv acc w ts m ns u r}:w.headD 0≠35→w≠z2v→PR (.level 0) (w::ts) (.ok m ns ([59]::u))→PG false (acc++[doT::ns]) u r→PG pv acc (w::ts) r
theorem q7u:z2v.headD 0≠35:=by decide
theorem q9h {pv:Bool} {acc:List (List Td)} {ts:List Wd} {r:Rp} (h:PG pv acc ts r):∀ {r':Rp},PG pv acc ts r'→r=r':=by
 induction h with
 | done=>intro r' h';cases h';rfl
 | note h0 _ ih=>intro r' h';cases h' with
  | note _ h2=>exact ih h2
  | letN=>exact absurd h0 q7u
  | letE=>exact absurd h0 q7u
  | letB=>exact absurd h0 q7u
  | letX=>exact absurd h0 q7u
  | letO=>exact absurd h0 q7u
  | doB h2=>exact absurd h0 h2
  | doX h2=>exact absurd h0 h2
  | doO h2=>exact absurd h0 h2
 | letN h0=>intro r' h';cases h' with
  | note h2=>exact absurd h2 q7u
  | letN=>rfl
  | letE h2=>rw [h0 _ rfl] at h2;cases h2
  | letB h2=>rw [h0 _ rfl] at h2;cases h2
  | letX h2=>rw [h0 _ rfl] at h2;cases h2
  | letO h2=>rw [h0 _ rfl] at h2;cases h2
  | doB _ h2=>exact absurd rfl h2
  | doX _ h2=>exact absurd rfl h2
  | doO _ h2=>exact absurd rfl h2
 | letE h0 h1=>intro r' h';cases h' with
  | note h2=>exact absurd h2 q7u
  | letN h2=>rw [h2 _ rfl] at h0;cases h0
  | letE=>rfl
  | letB=>simp at h1
  | letX=>simp at h1
  | letO=>simp at h1
  | doB _ h2=>exact absurd rfl h2
  | doX _ h2=>exact absurd rfl h2
  | doO _ h2=>exact absurd rfl h2
 | letB h0 h1=>intro r' h';cases h' with
  | note h2=>exact absurd h2 q7u
  | letN h2=>rw [h2 _ rfl] at h0;cases h0
  | letE _ h2=>simp at h2
  | letB _ h2=>cases q2l h1 h2;rfl
  | letX _ h2=>cases q2l h1 h2
  | letO _ h2=>cases q2l h1 h2
  | doB _ h2=>exact absurd rfl h2
  | doX _ h2=>exact absurd rfl h2
  | doO _ h2=>exact absurd rfl h2
 | letX h0 h1 h3=>intro r' h';cases h' with
  | note h2=>exact absurd h2 q7u
  | letN h2=>rw [h2 _ rfl] at h0;cases h0
  | letE _ h2=>simp at h2
  | letB _ h2=>cases q2l h1 h2
  | letX _ h2 _=>cases q2l h1 h2;rfl
  | letO _ h2 _=>cases q2l h1 h2;simp at h3
  | doB _ h2=>exact absurd rfl h2
  | doX _ h2=>exact absurd rfl h2
  | doO _ h2=>exact absurd rfl h2
 | letO h0 h1 _ ih=>intro r' h';cases h' with
  | note h2=>exact absurd h2 q7u
  | letN h2=>rw [h2 _ rfl] at h0;cases h0
  | letE _ h2=>simp at h2
  | letB _ h2=>cases q2l h1 h2
  | letX _ h2 h4=>cases q2l h1 h2;simp at h4
  | letO _ h2 h4=>cases q2l h1 h2;exact ih h4
  | doB _ h2=>exact absurd rfl h2
  | doX _ h2=>exact absurd rfl h2
  | doO _ h2=>exact absurd rfl h2
 | doB h0 h1 h3=>intro r' h';cases h' with
  | note h2=>exact absurd h2 h0
  | letN=>exact absurd rfl h1
  | letE=>exact absurd rfl h1
  | letB=>exact absurd rfl h1
  | letX=>exact absurd rfl h1
  | letO=>exact absurd rfl h1
  | doB _ _ h2=>cases q2l h3 h2;rfl
  | doX _ _ h2=>cases q2l h3 h2
  | doO _ _ h2=>cases q2l h3 h2
 | doX h0 h1 h3 h4=>intro r' h';cases h' with
  | note h2=>exact absurd h2 h0
  | letN=>exact absurd rfl h1
  | letE=>exact absurd rfl h1
  | letB=>exact absurd rfl h1
  | letX=>exact absurd rfl h1
  | letO=>exact absurd rfl h1
  | doB _ _ h2=>cases q2l h3 h2
  | doX _ _ h2 _=>cases q2l h3 h2;rfl
  | doO _ _ h2 _=>cases q2l h3 h2;simp at h4
 | doO h0 h1 h3 _ ih=>intro r' h';cases h' with
  | note h2=>exact absurd h2 h0
  | letN=>exact absurd rfl h1
  | letE=>exact absurd rfl h1
  | letB=>exact absurd rfl h1
  | letX=>exact absurd rfl h1
  | letO=>exact absurd rfl h1
  | doB _ _ h2=>cases q2l h3 h2
  | doX _ _ h2 h4=>cases q2l h3 h2;simp at h4
  | doO _ _ h2 h4=>cases q2l h3 h2;exact ih h4
end Go.Proofs.YthjapabokcajhaaGreatDoor
namespace Go.Proofs.YthjapabokcajhaaGreatDoor
open Go
def okP:Int→List (List Td)→Prop
 | _,[]=>True
 | prev,t::r=>q0f t=0∧¬ (opT t=9∧prev=9)∧okP (opT t) r
theorem v2r:∀ (ps:List (List Td)) (prev:Int) (k:Nat),(q5v prev k ps).2=0→okP prev ps
 | [],_,_,_=>trivial
 | t::r,prev,k,h=>by
  rw [q5v] at h
  split at h
  ·rename_i h1;exact absurd h h1
  ·rename_i h1
   split at h
   ·cases h
   ·rename_i h2
    exact ⟨by omega,h2,v2r r _ _ h⟩
theorem q6t {ps:List (List Td)} (h:(q1f ps).2=0):ps.length≤20∧okP 0 ps:=by
 unfold q1f at h
 split at h
 ·cases h
 ·exact ⟨by omega,v2r ps 0 0 h⟩
theorem k4j:∀ (ps:List (List Td)) (prev:Int) (pv:Bool) (acc:List (List Td)),okP prev ps→(pv=true→prev=9)→PG pv acc (ps.flatMap q6w) (.ok (acc++ps))
 | [],_,_,acc,_,_=>by simpa using PG.done
 | t::r,prev,pv,acc,h,hpv=>by
  have ih:∀ pv',(pv'=true→opT t=9)→PG pv' (acc++[t]) (r.flatMap q6w) (.ok (acc++[t]++r)):=fun pv' h'=>k4j r (opT t) pv' (acc++[t]) h.2.2 h'
  have e0:acc++t::r=acc++[t]++r:=by simp
  rw [e0,List.flatMap_cons]
  rcases q4a h.1 with ⟨x,rfl,ho,hn,hnf⟩ | ⟨x,F,rfl,hok,hex,hl,hx⟩
  ·have e1:q6w [x]=[k0l x.tx]:=by
    have hk:(Fo.nil).len=kdT x:=by unfold kdT;rw [ho];rfl
    have:=z1k (x:=x) (F:=.nil) trivial hk
    rw [show ([x]:List Td)=x::Fo.nil.nodes from rfl,this.2]
    simp [stK,ho,k0l]
   rw [e1]
   have hpf:pv=false:=by
    cases pv with
    | false=>rfl
    | true=>exact absurd ⟨ho,hpv rfl⟩ h.2.1
   have hx:x=ntT (btL x.tx):=z0t ho rfl hn
   refine .note (by unfold k0l;split<;>rfl) ?_
   rw [z5a hnf,hpf]
   have e2:k2s false acc (btL x.tx)=acc++[[x]]:=by
    rw [k2s]
    simp only [Bool.false_eq_true,if_false]
    rw [←hx]
   rw [e2]
   exact ih true (fun _=>ho)
  ·have hkd:F.len=kdT x:=by
    rw [hl]
    unfold kdT
    rcases hx with ⟨h,_⟩ | ⟨h,_⟩<;>rw [h]<;>rfl
   obtain ⟨_,e2⟩:=z1k hok hkd
   have htl:F.trs.length=1:=by rw [q4x];exact hl
   obtain ⟨t,ht⟩:∃ t,F.trs=[t]:=by
    match F.trs,htl with
    | [t],_=>exact ⟨t,rfl⟩
   have hr:=q9k F hok hex t (by rw [ht];simp)
   have hns:t.ns=F.nodes:=by
    have:=q9t F
    rw [ht] at this
    simpa using this
   have hlv:=z6s hr (rest:=[59]::r.flatMap q6w) (by simp) (by simp) (by simp)
   rw [hns] at hlv
   rw [e2,ht]
   rcases hx with ⟨ho,hnm,hn⟩ | ⟨ho,htx,hn⟩
   ·have q2:stK x [t]++r.flatMap q6w=z2v::btL x.tx::[61]::(t.tk++[59]::r.flatMap q6w):=by simp [stK,ho,hdK]
    have hx:x=z4w (btL x.tx):=z0t ho rfl hn
    rw [q2]
    refine .letO hnm hlv ?_
    rw [←hx]
    exact ih false (fun h=>by cases h)
   ·have q2:stK x [t]++r.flatMap q6w=t.tk++[59]::r.flatMap q6w:=by simp [stK,ho,hdK]
    have hx:x=doT:=z0t ho htx hn
    obtain ⟨w,z,ew,hw⟩:=hr.b
    have hne:=z2d hw
    rw [q2]
    rw [ew,List.cons_append] at hlv ⊢
    refine .doO hne.2.2.2.2 hne.2.2.2.1 hlv ?_
    rw [←hx]
    exact ih false (fun h=>by cases h)
theorem j2e (a:List Wd):many a≤a.length:=List.length_filter_le _ _
theorem k2f {nm:Wd} {ns:List Td} {t:Tn} (h:z1h ns t):many (q6w (z4w nm::ns))≤t.tk.length+4:=by
 obtain ⟨F,f1,f2,f3,_⟩:=h
 have hkd:F.len=kdT (z4w nm):=by rw [←q4x,f2];rfl
 have e:=(z1k f1 hkd).2
 rw [f3] at e
 have h1:=j2e (q6w (z4w nm::ns))
 have h2:(q6w (z4w nm::ns)).length=t.tk.length+4:=by rw [e,f2];simp [stK,z4w,hdK]
 omega
theorem k6y {ns:List Td} {t:Tn} (h:z1h ns t):many (q6w (doT::ns))≤t.tk.length+1:=by
 obtain ⟨F,f1,f2,f3,_⟩:=h
 have hkd:F.len=kdT doT:=by rw [←q4x,f2];rfl
 have e:=(z1k f1 hkd).2
 rw [f3] at e
 have h1:=j2e (q6w (doT::ns))
 have h2:(q6w (doT::ns)).length=t.tk.length+1:=by rw [e,f2];simp [stK,doT,hdK]
 omega
theorem z1c (w:Wd):many (q6w [ntT w])=0:=by
 have hk:(Fo.nil).len=kdT (ntT w):=rfl
 have:=(z1k (x:=ntT w) (F:=.nil) trivial hk).2
 rw [show ([ntT w]:List Td)=ntT w::Fo.nil.nodes from rfl,this]
 simp only [stK,ntT]
 by_cases h:(wbS w).size=0<;>simp [h,many,z1i]
def q3k (ps:List (List Td)):Nat:=many (ps.flatMap q6w)
theorem q6r (a b:List (List Td)):q3k (a++b)=q3k a+q3k b:=by simp [q3k,q9c]
theorem k6f (a:List (List Td)):q3k a.dropLast≤q3k a:=by
 rcases List.eq_nil_or_concat a with rfl | ⟨v,c,rfl⟩
 ·exact Nat.le_refl _
 ·rw [List.concat_eq_append,List.dropLast_concat,q6r];omega
theorem v7u {pv:Bool} {acc:List (List Td)} {ts:List Wd} {r:Rp} (h:PG pv acc ts r):∀ ps,r = .ok ps→q3k ps≤q3k acc+many ts:=by
 induction h with
 | done=>intro ps e;cases e;omega
 | note _ _ ih=>
  intro ps e
  rename_i pv acc w ts r _ _
  have h1:=ih ps e
  have h2:q3k (k2s pv acc (q4n w))≤q3k acc:=by
   unfold k2s
   split
   ·have:=k6f acc
    rw [q6r]
    have h3:q3k [[ntT (q9x (q4l acc) (q4n w))]]=0:=by
     have:=z1c (q9x (q4l acc) (q4n w))
     simpa [q3k] using this
    omega
   ·rw [q6r]
    have h3:q3k [[ntT (q4n w)]]=0:=by
     have:=z1c (q4n w)
     simpa [q3k] using this
    omega
  have h4:many ts≤many (w::ts):=by
   have:many (w::ts)=many [w]+many ts:=q9c [w] ts
   omega
  omega
 | letN _=>intro ps e;cases e
 | letE _ _=>intro ps e;cases e
 | letB _ _=>intro ps e;cases e
 | letX _ _ _=>intro ps e;cases e
 | letO hn hp _ ih=>
  intro ps e
  rename_i pv acc nm ts m ns u r _
  have h1:=ih ps e
  obtain ⟨t,t1,t2⟩:=j3l hp
  have h2:=k2f (nm:=nm) t1
  have h3:q3k [z4w nm::ns]=many (q6w (z4w nm::ns)):=by simp [q3k]
  rw [q6r,h3] at h1
  rw [q3f,q4g (w:=[59]) rfl] at t2
  rw [q4g (w:=z2v) rfl,q4g (z7a hn),q4g (w:=[61]) rfl]
  omega
 | doB _ _ _=>intro ps e;cases e
 | doX _ _ _ _=>intro ps e;cases e
 | doO _ _ hp _ ih=>
  intro ps e
  rename_i pv acc w ts m ns u r _ _ _
  have h1:=ih ps e
  obtain ⟨t,t1,t2⟩:=j3l hp
  have h2:=k6y t1
  have h3:q3k [doT::ns]=many (q6w (doT::ns)):=by simp [q3k]
  rw [q6r,h3] at h1
  rw [q3f,q4g (w:=[59]) rfl] at t2
  omega
end Go.Proofs.YthjapabokcajhaaGreatDoor
namespace Go.Proofs.YthjapabokcajhaaGreatDoor
open Go
theorem j1a:∀ ws:List Wd,(∀ w∈ws,w.length≤20)→(jb ws).length≤21*ws.length
 | [],_=>by simp [jb]
 | [w],h=>by
  have:=h w (by simp)
  simp [jb];omega
 | w::u::r,h=>by
  have h1:=h w (by simp)
  have h2:=j1a (u::r) fun x hx=>h x (by simp [hx])
  rw [jb,List.length_append]
  simp only [List.length_cons] at h2 ⊢
  omega
theorem j8y {tx:ByteArray} (h:q2t tx=0):tx.size≤1300:=by
 by_cases h0:btL tx=[]
 ·have:=q0b tx
  rw [h0] at this
  simp at this;omega
 ·obtain ⟨h1,h2⟩:=z0q h
  have e2:q0h (btL tx)=q4w (btL tx):=by rw [q0h,if_neg h0]
  rw [e2] at h1 h2
  have h3:=j1a _ fun w hw=>(h2 w hw).2.1
  rw [z2s] at h3
  rw [←q0b]
  omega
end Go.Proofs.YthjapabokcajhaaGreatDoor
namespace Go.Proofs.YthjapabokcajhaaGreatDoor
open Go
def y4l (s:ByteArray) (u:List Wd):Nat:=((z7o (btL s))[(q2w (btL s)).length - u.length]?).getD s.size
inductive q7q (s:ByteArray):List (List Td)→Int→Int→Prop where
 | lex (h:q6g (btL s)≠0):q7q s [] ((z9a (btL s):Nat):Int) (q6g (btL s))
 | bad {u} (h:q6g (btL s)=0) (hg:PG false [] (q2w (btL s)) (.bad u)):q7q s [] ((y4l s u:Nat):Int) 5
 | full {qs} (h:q6g (btL s)=0) (hg:PG false [] (q2w (btL s)) (.ok qs)) (hf:(q1f qs).2≠0):q7q s [] 0 (q1f qs).2
 | ok {qs} (h:q6g (btL s)=0) (hg:PG false [] (q2w (btL s)) (.ok qs)) (hf:(q1f qs).2=0):q7q s qs 0 0
theorem q1l {s:ByteArray} {p p':List (List Td)} {k k' f f':Int} (h:q7q s p k f) (h':q7q s p' k' f'):p=p'∧k=k'∧f=f':=by
 cases h with
 | lex h1=>cases h' with
  | lex _=>exact ⟨rfl,rfl,rfl⟩
  | bad h2=>exact absurd h2 h1
  | full h2=>exact absurd h2 h1
  | ok h2=>exact absurd h2 h1
 | bad h1 hg=>cases h' with
  | lex h2=>exact absurd h1 h2
  | bad _ hg'=>cases q9h hg hg';exact ⟨rfl,rfl,rfl⟩
  | full _ hg'=>cases q9h hg hg'
  | ok _ hg'=>cases q9h hg hg'
 | full h1 hg hf=>cases h' with
  | lex h2=>exact absurd h1 h2
  | bad _ hg'=>cases q9h hg hg'
  | full _ hg'=>cases q9h hg hg';exact ⟨rfl,rfl,rfl⟩
  | ok _ hg' hf'=>cases q9h hg hg';exact absurd hf' hf
 | ok h1 hg hf=>cases h' with
  | lex h2=>exact absurd h1 h2
  | bad _ hg'=>cases q9h hg hg'
  | full _ hg' hf'=>cases q9h hg hg';exact absurd hf hf'
  | ok _ hg'=>cases q9h hg hg';exact ⟨rfl,rfl,rfl⟩
theorem z3b:∀ (ps:List (List Td)) (prev:Int),okP prev ps→∀ t∈ps,q0f t=0
 | t::r,prev,h,x,hx=>by
  rcases List.mem_cons.1 hx with rfl | hx
  ·exact h.1
  ·exact z3b r _ h.2.2 x hx
end Go.Proofs.YthjapabokcajhaaGreatDoor
