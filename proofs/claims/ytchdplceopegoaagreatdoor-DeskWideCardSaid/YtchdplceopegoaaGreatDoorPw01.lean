/- Texts as one: TreP, SynP, SynR. -/
import Derived.Test.YtchdplceopegoaaGreatDoorPw00
namespace Go.Proofs.YtchdplceopegoaaGreatDoor
open Go
structure Td where
 op:Int
 tx:ByteArray
 n:Int
def kdT (x:Td):Nat:=if x.op=3∨x.op=4 then x.n.toNat else if x.op=5∨x.op=6 then 2 else if x.op=7∨x.op=8 then 1 else 0
def k0b:List Td→Nat→Option Nat
 | _,0=>some 0
 | [],_+1=>none
 | x::r,m+1=>(k0b r (kdT x+m)).map (· + 1)
theorem q8b (ds:List Td):k0b ds 0=some 0:=by cases ds<;>rfl
theorem q6o (m:Nat):k0b [] (m+1)=none:=rfl
theorem q4o (x:Td) (r:List Td) (m:Nat):k0b (x::r) (m+1)=(k0b r (kdT x+m)).map (· + 1):=rfl
theorem k8g:∀ (ds:List Td) (m k:Nat),k0b ds m=some k→m≤k∧k≤ds.length
 | ds,0,k,h=>by rw [q8b] at h;cases h;simp
 | [],m+1,k,h=>by rw [q6o] at h;cases h
 | x::r,m+1,k,h=>by
  rw [q4o,Option.map_eq_some_iff] at h
  obtain ⟨j,h1,rfl⟩:=h
  have:=k8g r _ j h1
  simp
  omega
theorem k2i:∀ (ds:List Td) (a b:Nat),k0b ds (a+b)=(k0b ds a).bind fun k=>(k0b (ds.drop k) b).map (k + ·)
 | ds,0,b=>by
  rw [q8b]
  simp
 | [],a+1,b=>by rw [show a+1+b=(a+b)+1 by omega,q6o,q6o];rfl
 | x::r,a+1,b=>by
  rw [show a+1+b=(a+b)+1 by omega,q4o,q4o,show kdT x+(a+b)=(kdT x+a)+b by omega,k2i r _ b]
  cases k0b r (kdT x+a) with
  | none=>rfl
  | some k=>
   simp only [Option.bind_some,Option.map_some,List.drop_succ_cons]
   cases k0b (r.drop k) b with
   | none=>rfl
   | some j=>simp;omega
def z0s (ds:List Td) (i m:Nat):Option Nat:=(k0b (ds.drop i) m).map (i + ·)
theorem k9b (ds:List Td) (i:Nat):z0s ds i 0=some i:=by simp [z0s,q8b]
theorem z1d (ds:List Td) (i m:Nat) (h:ds.length≤i):z0s ds i (m+1)=none:=by
 rw [z0s,List.drop_eq_nil_of_le h,q6o];rfl
theorem k9a (ds:List Td) (i m:Nat) (h:i<ds.length):z0s ds i (m+1)=z0s ds (i+1) (kdT ds[i]+m):=by
 rw [z0s,List.drop_eq_getElem_cons h,q4o,z0s]
 cases k0b (ds.drop (i+1)) (kdT ds[i]+m) with
 | none=>rfl
 | some k=>simp;omega
def q1c (s:ByteArray):Bool:=decide (1≤s.size) && decide (s.size≤8) && decide (btL s≠[108,101,116]) && (btL s).all q3a
def q4v:List UInt8→List (List UInt8)
 | []=>[[]]
 | c::r=>if c=32 then []::q4v r else match q4v r with
  | []=>[[c]]
  | w::ws=>(c::w)::ws
theorem q7o (s:List UInt8):q4v s≠[]:=by
 cases s with
 | nil=>simp [q4v]
 | cons c r=>
  simp only [q4v]
  split
  ·simp
  ·split<;>simp
theorem q4w (r:List UInt8):q4v (32::r)=[]::q4v r:=by simp [q4v]
theorem q4x {c:UInt8} (h:c≠32) {r w:List UInt8} {ws:List (List UInt8)} (hr:q4v r=w::ws):q4v (c::r)=(c::w)::ws:=by
 simp only [q4v,if_neg h,hr]
theorem j8n (u r:List UInt8) (h:∀ b∈u,b≠32):q4v (u++32::r)=u::q4v r:=by
 induction u with
 | nil=>exact q4w r
 | cons c u ih=>
  have ih':=ih fun b hb=>h b (by simp [hb])
  rw [List.cons_append,q4x (h c (by simp)) ih']
theorem j8o (u:List UInt8) (h:∀ b∈u,b≠32):q4v u=[u]:=by
 induction u with
 | nil=>rfl
 | cons c u ih=>rw [q4x (h c (by simp)) (ih fun b hb=>h b (by simp [hb]))]
def q0k (s:List UInt8):List (List UInt8):=if s=[] then [] else q4v s
def q3k (s:ByteArray):Int:=q1h ((q0k (btL s)).map wbS)
def q1z (op:Int):Bool:=decide (op=2) || decide (op=3) || decide (op=7) || decide (op=9)
def q0l (x:Td):Int:=
 if x.op<1∨9<x.op then 1
 else if (x.op=1∧(x.n<0∨999999<x.n))∨((x.op=3∨x.op=4)∧(x.n<0∨6<x.n)) then 1
 else if (x.op≠1∧x.op≠3∧x.op≠4∧x.n≠0)∨(q1z x.op=false∧0<x.tx.size) then 2
 else if x.op=9 then q3k x.tx
 else if q1z x.op=true∧q1c x.tx=false then 5 else 0
def j4x:List Td→Int
 | []=>0
 | x::r=>if q0l x=0 then j4x r else q0l x
theorem k2t:∀ (ds:List Td),(∀ x∈ds,q0l x=0)→j4x ds=0
 | [],_=>rfl
 | x::r,h=>by rw [j4x,if_pos (h x (by simp)),k2t r fun y hy=>h y (by simp [hy])]
theorem z7t:∀ (ds:List Td),j4x ds=0→∀ x∈ds,q0l x=0
 | [],_=>by simp
 | x::r,h=>by
  rw [j4x] at h
  split at h
  ·rename_i h0
   intro y hy
   rcases List.mem_cons.1 hy with rfl | hy
   ·exact h0
   ·exact z7t r h y hy
  ·rename_i h0
   exact absurd h h0
theorem k9u:∀ (ds:List Td) (k:Nat) (h:k<ds.length),(∀ x∈ds.take k,q0l x=0)→q0l ds[k]≠0→j4x ds=q0l ds[k]
 | x::r,0,_,_,h=>by
  have h':q0l x≠0:=h
  rw [j4x,if_neg h'];rfl
 | x::r,k+1,hk,ha,h=>by
  rw [j4x,if_pos (ha x (by simp)),k9u r k (by simpa using hk) (fun y hy=>ha y (by simp [hy])) h]
  rfl
def j3k (ds:List Td):Bool:=match ds with
 | []=>true
 | x::r=>decide (7≤x.op) && r.all fun y=>decide (y.op<7)
def q0c (ds:List Td):Int:=
 if 40<ds.length then 3 else if j4x ds≠0 then j4x ds else if z0s ds 0 1=some ds.length∧j3k ds=true then 0 else 2
theorem q2i {ds:List Td} (h:q0c ds=0):ds.length≤40∧(∀ x∈ds,q0l x=0)∧z0s ds 0 1=some ds.length∧j3k ds=true:=by
 unfold q0c at h
 split at h
 ·cases h
 ·split at h
  ·rename_i h1;exact absurd h h1
  ·rename_i h0 h1
   split at h
   ·rename_i h2
    exact ⟨by omega,z7t ds (by omega),h2.1,h2.2⟩
   ·cases h
theorem v7q {x:Td} (h:q0l x=0):kdT x≤6:=by
 unfold q0l at h
 split at h
 ·cases h
 ·split at h
  ·cases h
  ·rename_i h1 h2
   unfold kdT
   split
   ·omega
   ·split
    ·omega
    ·split<;>omega
inductive Fo where
 | nil:Fo
 | cons (x:Td) (k n:Fo):Fo
def Fo.len:Fo→Nat
 | .nil=>0
 | .cons _ _ n=>n.len+1
def Fo.nodes:Fo→List Td
 | .nil=>[]
 | .cons x k n=>x::(k.nodes++n.nodes)
def Fo.ok:Fo→Prop
 | .nil=>True
 | .cons x k n=>k.len=kdT x∧k.ok∧n.ok
def Fo.app:Fo→Fo→Fo
 | .nil,g=>g
 | .cons x k n,g=>.cons x k (n.app g)
theorem v3c:∀ (l:Nat) (ds:List Td) (m k:Nat),ds.length≤l→k0b ds m=some k→∃ F:Fo,F.ok∧F.len=m∧F.nodes=ds.take k
 | l,ds,0,k,_,h=>by
  rw [q8b] at h
  cases h
  exact ⟨.nil,trivial,rfl,by simp [Fo.nodes]⟩
 | 0,ds,m+1,k,hl,h=>by
  have:ds=[]:=List.eq_nil_of_length_eq_zero (by omega)
  subst this
  rw [q6o] at h;cases h
 | l+1,[],m+1,k,hl,h=>by rw [q6o] at h;cases h
 | l+1,x::r,m+1,k,hl,h=>by
  rw [q4o,Option.map_eq_some_iff] at h
  obtain ⟨j,h1,rfl⟩:=h
  rw [k2i] at h1
  cases h2:k0b r (kdT x) with
  | none=>rw [h2] at h1;cases h1
  | some a=>
   rw [h2,Option.bind_some,Option.map_eq_some_iff] at h1
   obtain ⟨b,h3,rfl⟩:=h1
   obtain ⟨K,k1,k2,k3⟩:=v3c l r (kdT x) a (by simp at hl;omega) h2
   obtain ⟨N,n1,n2,n3⟩:=v3c l (r.drop a) m b (by simp at hl ⊢;omega) h3
   refine ⟨.cons x K N,⟨k2,k1,n1⟩,by simp [Fo.len,n2],?_⟩
   have ha:=(k8g _ _ _ h2).2
   rw [Fo.nodes,k3,n3,List.take_succ_cons,List.cons.injEq]
   refine ⟨rfl,?_⟩
   rw [List.take_add]
abbrev Wd:=List UInt8
def q4m (n:Nat):Wd:=if h:n≤9 then [UInt8.ofNat (48+n)] else q4m (n / 10)++[UInt8.ofNat (48+n % 10)]
termination_by n
decreasing_by omega
def j1q (w:Wd):Nat:=w.foldl (fun a c=>a*10+(c.toNat - 48)) 0
theorem z5e {n:Nat} (h:n≤9):(UInt8.ofNat (48+n)).toNat=48+n:=by
 rw [UInt8.toNat_ofNat']
 omega
theorem j7p (n:Nat):j1q (q4m n)=n:=by
 induction n using Nat.strongRecOn with
 | ind n ih=>
  rw [q4m]
  split
  ·rename_i h
   simp only [j1q,List.foldl_cons,List.foldl_nil,z5e h];omega
  ·rename_i h
   have h2:=ih (n / 10) (by omega)
   unfold j1q at h2 ⊢
   rw [List.foldl_append,h2]
   simp only [List.foldl_cons,List.foldl_nil,z5e (show n % 10≤9 by omega)]
   omega
theorem z5c (n:Nat):∀ c∈q4m n,q3w c=true:=by
 induction n using Nat.strongRecOn with
 | ind n ih=>
  have hd:∀ k,k≤9→q3w (UInt8.ofNat (48+k))=true:=fun k hk=>by
   simp only [q3w,z5e hk];simp;omega
  rw [q4m]
  split
  ·rename_i h
   intro c hc
   rw [List.mem_singleton] at hc
   rw [hc];exact hd n h
  ·rename_i h
   intro c hc
   rcases List.mem_append.1 hc with hc | hc
   ·exact ih (n / 10) (by omega) c hc
   ·rw [List.mem_singleton] at hc
    rw [hc];exact hd _ (by omega)
theorem k0e (n:Nat):q4m n≠[]:=by
 rw [q4m]
 split<;>simp
theorem q8d:∀ (k n:Nat),n<10 ^ (k+1)→(q4m n).length≤k+1
 | k,n,h=>by
  rw [q4m]
  split
  ·simp
  ·rename_i h9
   cases k with
   | zero=>simp at h;omega
   | succ k=>
    have:=q8d k (n / 10) (by rw [Nat.pow_succ] at h;omega)
    simp only [List.length_append,List.length_cons,List.length_nil];omega
theorem k8r (n:Nat) (h:0<n):∃ c z,q4m n=c::z∧c≠48:=by
 induction n using Nat.strongRecOn with
 | ind n ih=>
  rw [q4m]
  split
  ·rename_i h9
   refine ⟨_,[],rfl,fun e=>?_⟩
   have:=congrArg UInt8.toNat e
   rw [z5e h9] at this
   simp at this;omega
  ·obtain ⟨c,z,e,hc⟩:=ih (n / 10) (by omega) (by omega)
   exact ⟨c,z++[UInt8.ofNat (48+n % 10)],by rw [e];rfl,hc⟩
structure Tn where
 x:Td
 ns:List Td
 tk:List Wd
 tx:List UInt8
def prc (x:Td):Nat:=if x.op=5 then 0 else if x.op=6 then 1 else 2
def brk (l:Nat) (t:Tn):List Wd:=if prc t.x<l then [40]::(t.tk++[[41]]) else t.tk
def brx (l:Nat) (t:Tn):List UInt8:=if prc t.x<l then 40::(t.tx++[41]) else t.tx
def cmk:List Tn→List Wd
 | []=>[]
 | t::r=>t.tk++match r with
  | []=>[]
  | _::_=>[44]::cmk r
def cmx:List Tn→List UInt8
 | []=>[]
 | t::r=>t.tx++match r with
  | []=>[]
  | _::_=>44::32::cmx r
def two2 {α:Type} (f:Tn→Tn→List α):List Tn→List α
 | [a,b]=>f a b
 | _=>[]
def q9e (x:Td) (ks:List Tn):List Wd:=
 if x.op=1 then [q4m x.n.toNat]
 else if x.op=2 then [btL x.tx]
 else if x.op=3 then btL x.tx::[40]::(cmk ks++[[41]])
 else if x.op=4 then [91]::(cmk ks++[[93]])
 else if x.op=5 then two2 (fun a b=>brk 0 a++[43]::brk 1 b) ks
 else two2 (fun a b=>brk 1 a++[42]::brk 2 b) ks
def q2r (x:Td) (ks:List Tn):List UInt8:=
 if x.op=1 then q4m x.n.toNat
 else if x.op=2 then btL x.tx
 else if x.op=3 then btL x.tx++40::(cmx ks++[41])
 else if x.op=4 then 91::(cmx ks++[93])
 else if x.op=5 then two2 (fun a b=>brx 0 a++32::43::32::brx 1 b) ks
 else two2 (fun a b=>brx 1 a++32::42::32::brx 2 b) ks
def q0r (x:Td) (ks:List Tn):Tn:=⟨x,x::ks.flatMap (·.ns),q9e x ks,q2r x ks⟩
def Fo.trs:Fo→List Tn
 | .nil=>[]
 | .cons x k n=>q0r x k.trs::n.trs
theorem z0e:∀ F:Fo,F.trs.length=F.len
 | .nil=>rfl
 | .cons _ _ n=>by simp [Fo.trs,Fo.len,z0e n]
theorem q8z:∀ F:Fo,F.trs.flatMap (·.ns)=F.nodes
 | .nil=>rfl
 | .cons x k n=>by
  rw [Fo.trs,List.flatMap_cons,q8z n,q0r,q8z k]
  simp [Fo.nodes]
def exN (x:Td):Prop:=q0l x=0∧x.op<7
def Fo.exs (F:Fo):Prop:=∀ x∈F.nodes,exN x
theorem q3c {x:Td} (h:exN x):(x.op=1∧x.tx=⟨#[]⟩∧0≤x.n∧x.n≤999999∧kdT x=0)∨(x.op=2∧q1c x.tx=true∧x.n=0∧kdT x=0)
  ∨(x.op=3∧q1c x.tx=true∧0≤x.n∧x.n≤6∧kdT x=x.n.toNat)∨(x.op=4∧x.tx=⟨#[]⟩∧0≤x.n∧x.n≤6∧kdT x=x.n.toNat)
  ∨(x.op=5∧x.tx=⟨#[]⟩∧x.n=0∧kdT x=2)∨(x.op=6∧x.tx=⟨#[]⟩∧x.n=0∧kdT x=2):=by
 obtain ⟨h0,h7⟩:=h
 have hem:∀ s:ByteArray,¬ 0<s.size→s=⟨#[]⟩:=fun s hs=>by
  apply ByteArray.ext
  apply Array.toList_inj.1
  exact List.eq_nil_of_length_eq_zero (by have:=q0b s;simp only [btL] at this;omega)
 unfold q0l at h0
 split at h0
 ·cases h0
 ·rename_i h1
  split at h0
  ·cases h0
  ·rename_i h2
   split at h0
   ·cases h0
   ·rename_i h3
    have h9:¬ x.op=9:=by omega
    rw [if_neg h9] at h0
    split at h0
    ·cases h0
    ·rename_i h4
     have ho:x.op=1∨x.op=2∨x.op=3∨x.op=4∨x.op=5∨x.op=6:=by omega
     rcases ho with e | e | e | e | e | e
     ·refine .inl ⟨e,hem _ (fun hh=>h3 (.inr ⟨by rw [e];rfl,hh⟩)),by omega,by omega,by unfold kdT;rw [e];rfl⟩
     ·refine .inr (.inl ⟨e,?_,by omega,by unfold kdT;rw [e];rfl⟩)
      cases hn:q1c x.tx with
      | true=>rfl
      | false=>exact absurd ⟨by rw [e];rfl,hn⟩ h4
     ·refine .inr (.inr (.inl ⟨e,?_,by omega,by omega,by unfold kdT;rw [if_pos (.inl e)]⟩))
      cases hn:q1c x.tx with
      | true=>rfl
      | false=>exact absurd ⟨by rw [e];rfl,hn⟩ h4
     ·exact .inr (.inr (.inr (.inl ⟨e,hem _ (fun hh=>h3 (.inr ⟨by rw [e];rfl,hh⟩)),by omega,by omega,by unfold kdT;rw [if_pos (.inr e)]⟩)))
     ·exact .inr (.inr (.inr (.inr (.inl ⟨e,hem _ (fun hh=>h3 (.inr ⟨by rw [e];rfl,hh⟩)),by omega,by unfold kdT;rw [e];rfl⟩))))
     ·exact .inr (.inr (.inr (.inr (.inr ⟨e,hem _ (fun hh=>h3 (.inr ⟨by rw [e];rfl,hh⟩)),by omega,by unfold kdT;rw [e];rfl⟩))))
inductive Job where
 | level (k:Nat):Job
 | loop (k:Nat) (acc:List Td):Job
 | single:Job
 | args (e:Wd) (n:Nat) (acc:List Td):Job
inductive Rs where
 | ok (n:Nat) (ns:List Td) (rest:List Wd):Rs
 | bad (rest:List Wd):Rs
def sgn (k:Nat):Wd:=if k=0 then [43] else [42]
def sgT (k:Nat):Td:=⟨5+k,⟨#[]⟩,0⟩
def k1b (w:Wd):Bool:=q3w (w.headD 0)
def nmW (w:Wd):Bool:=q1c (wbS w)
def y0l (w:Wd):Td:=⟨1,⟨#[]⟩,(j1q w:Nat)⟩
def nmT (w:Wd):Td:=⟨2,wbS w,0⟩
def clT (w:Wd) (n:Nat):Td:=⟨3,wbS w,(n:Nat)⟩
def lsT (n:Nat):Td:=⟨4,⟨#[]⟩,(n:Nat)⟩
inductive PR:Job→List Wd→Rs→Prop where
 | lev2 {ts r}:PR .single ts r→PR (.level 2) ts r
 | levB {k ts u}:k<2→PR (.level (k+1)) ts (.bad u)→PR (.level k) ts (.bad u)
 | levO {k ts m ns u r}:k<2→PR (.level (k+1)) ts (.ok m ns u)→PR (.loop k ns) u r→PR (.level k) ts r
 | lopE {k acc ts}:ts.head?≠some (sgn k)→PR (.loop k acc) ts (.ok 0 acc ts)
 | lopB {k acc ts u}:PR (.level (k+1)) ts (.bad u)→PR (.loop k acc) (sgn k::ts) (.bad u)
 | lopO {k acc ts m ns u r}:PR (.level (k+1)) ts (.ok m ns u)→PR (.loop k (sgT k::(acc++ns))) u r→PR (.loop k acc) (sgn k::ts) r
 | sinN:PR .single [] (.bad [])
 | sPB {ts u}:PR (.level 0) ts (.bad u)→PR .single ([40]::ts) (.bad u)
 | sPC {ts m ns u}:PR (.level 0) ts (.ok m ns ([41]::u))→PR .single ([40]::ts) (.ok 0 ns u)
 | sPX {ts m ns u}:PR (.level 0) ts (.ok m ns u)→u.head?≠some [41]→PR .single ([40]::ts) (.bad u)
 | sLB {ts u}:PR (.args [93] 0 []) ts (.bad u)→PR .single ([91]::ts) (.bad u)
 | sLO {ts n ns u}:PR (.args [93] 0 []) ts (.ok n ns u)→PR .single ([91]::ts) (.ok 0 (lsT n::ns) u)
 | sNum {w ts}:k1b w=true→PR .single (w::ts) (.ok 0 [y0l w] ts)
 | sName {w ts}:nmW w=true→ts.head?≠some [40]→PR .single (w::ts) (.ok 0 [nmT w] ts)
 | sCB {w ts u}:nmW w=true→PR (.args [41] 0 []) ts (.bad u)→PR .single (w::[40]::ts) (.bad u)
 | sCO {w ts n ns u}:nmW w=true→PR (.args [41] 0 []) ts (.ok n ns u)→PR .single (w::[40]::ts) (.ok 0 (clT w n::ns) u)
 | sBad {w ts}:w≠[40]→w≠[91]→k1b w=false→nmW w=false→PR .single (w::ts) (.bad (w::ts))
 | aEnd {e n acc ts}:PR (.args e n acc) (e::ts) (.ok n acc ts)
 | aSep {e n acc ts}:ts.head?≠some e→ts.head?≠some [44]→PR (.args e (n+1) acc) ts (.bad ts)
 | aB0 {e acc ts u}:ts.head?≠some e→PR (.level 0) ts (.bad u)→PR (.args e 0 acc) ts (.bad u)
 | aO0 {e acc ts m ns u r}:ts.head?≠some e→PR (.level 0) ts (.ok m ns u)→PR (.args e 1 (acc++ns)) u r→PR (.args e 0 acc) ts r
 | aB {e n acc ts u}:e≠[44]→PR (.level 0) ts (.bad u)→PR (.args e (n+1) acc) ([44]::ts) (.bad u)
 | aO {e n acc ts m ns u r}:e≠[44]→PR (.level 0) ts (.ok m ns u)→PR (.args e (n+2) (acc++ns)) u r→PR (.args e (n+1) acc) ([44]::ts) r
theorem q4e {w:Wd} (h:k1b w=true):nmW w=false:=by
 cases hn:nmW w with
 | false=>rfl
 | true=>
  exfalso
  unfold nmW q1c at hn
  simp only [Bool.and_eq_true,List.all_eq_true,decide_eq_true_eq] at hn
  cases w with
  | nil=>simp [wbS,ByteArray.size] at hn
  | cons c z=>
   have h1:=hn.2 c (by show c∈(c::z);simp)
   have h2:q3w c=true:=h
   have:=k0j h2
   rw [h1] at this;cases this
theorem v8t:k1b [40]=false:=by decide
theorem v8u:k1b [91]=false:=by decide
theorem v4i:nmW [40]=false:=by decide
theorem v4j:nmW [91]=false:=by decide
theorem q2h {j:Job} {ts:List Wd} {r:Rs} (h:PR j ts r):∀ {r':Rs},PR j ts r'→r=r':=by
 have n40:=v8t
 have n91:=v8u
 have a40:=v4i
 have a91:=v4j
 induction h with
 | lev2 _ ih=>intro r' h';cases h' with
  | lev2 h2=>exact ih h2
  | levB h0=>omega
  | levO h0=>omega
 | levB h0 _ ih=>intro r' h';cases h' with
  | lev2 h2=>omega
  | levB _ h2=>exact ih h2
  | levO _ h2 _=>cases ih h2
 | levO h0 _ _ ih1 ih2=>intro r' h';cases h' with
  | lev2 h2=>omega
  | levB _ h2=>cases ih1 h2
  | levO _ h2 h3=>cases ih1 h2;exact ih2 h3
 | lopE h0=>intro r' h';cases h' with
  | lopE _=>rfl
  | lopB _=>simp at h0
  | lopO _ _=>simp at h0
 | lopB _ ih=>intro r' h';cases h' with
  | lopE h0=>simp at h0
  | lopB h2=>exact ih h2
  | lopO h2 _=>cases ih h2
 | lopO _ _ ih1 ih2=>intro r' h';cases h' with
  | lopE h0=>simp at h0
  | lopB h2=>cases ih1 h2
  | lopO h2 h3=>cases ih1 h2;exact ih2 h3
 | sinN=>intro r' h';cases h';rfl
 | sPB _ ih=>intro r' h';cases h' with
  | sPB h2=>exact ih h2
  | sPC h2=>cases ih h2
  | sPX h2 _=>cases ih h2
  | sNum h2=>rw [n40] at h2;cases h2
  | sName h2 _=>rw [a40] at h2;cases h2
  | sCB h2 _=>rw [a40] at h2;cases h2
  | sCO h2 _=>rw [a40] at h2;cases h2
  | sBad h2=>exact absurd rfl h2
 | sPC _ ih=>intro r' h';cases h' with
  | sPB h2=>cases ih h2
  | sPC h2=>cases ih h2;rfl
  | sPX h2 h3=>cases ih h2;simp at h3
  | sNum h2=>rw [n40] at h2;cases h2
  | sName h2 _=>rw [a40] at h2;cases h2
  | sCB h2 _=>rw [a40] at h2;cases h2
  | sCO h2 _=>rw [a40] at h2;cases h2
  | sBad h2=>exact absurd rfl h2
 | sPX _ h0 ih=>intro r' h';cases h' with
  | sPB h2=>cases ih h2
  | sPC h2=>cases ih h2;simp at h0
  | sPX h2 h3=>cases ih h2;rfl
  | sNum h2=>rw [n40] at h2;cases h2
  | sName h2 _=>rw [a40] at h2;cases h2
  | sCB h2 _=>rw [a40] at h2;cases h2
  | sCO h2 _=>rw [a40] at h2;cases h2
  | sBad h2=>exact absurd rfl h2
 | sLB _ ih=>intro r' h';cases h' with
  | sLB h2=>exact ih h2
  | sLO h2=>cases ih h2
  | sNum h2=>rw [n91] at h2;cases h2
  | sName h2 _=>rw [a91] at h2;cases h2
  | sCB h2 _=>rw [a91] at h2;cases h2
  | sCO h2 _=>rw [a91] at h2;cases h2
  | sBad _ h2=>exact absurd rfl h2
 | sLO _ ih=>intro r' h';cases h' with
  | sLB h2=>cases ih h2
  | sLO h2=>cases ih h2;rfl
  | sNum h2=>rw [n91] at h2;cases h2
  | sName h2 _=>rw [a91] at h2;cases h2
  | sCB h2 _=>rw [a91] at h2;cases h2
  | sCO h2 _=>rw [a91] at h2;cases h2
  | sBad _ h2=>exact absurd rfl h2
 | sNum h0=>
  have hn:=q4e h0
  intro r' h';cases h' with
  | sPB h2=>rw [n40] at h0;cases h0
  | sPC h2=>rw [n40] at h0;cases h0
  | sPX h2 h3=>rw [n40] at h0;cases h0
  | sLB h2=>rw [n91] at h0;cases h0
  | sLO h2=>rw [n91] at h0;cases h0
  | sNum h2=>rfl
  | sName h2 _=>rw [hn] at h2;cases h2
  | sCB h2 _=>rw [hn] at h2;cases h2
  | sCO h2 _=>rw [hn] at h2;cases h2
  | sBad _ _ h2=>rw [h0] at h2;cases h2
 | sName h0 h1=>
  intro r' h';cases h' with
  | sPB h2=>rw [a40] at h0;cases h0
  | sPC h2=>rw [a40] at h0;cases h0
  | sPX h2 h3=>rw [a40] at h0;cases h0
  | sLB h2=>rw [a91] at h0;cases h0
  | sLO h2=>rw [a91] at h0;cases h0
  | sNum h2=>rw [q4e h2] at h0;cases h0
  | sName h2 _=>rfl
  | sCB h2 _=>simp at h1
  | sCO h2 _=>simp at h1
  | sBad _ _ _ h2=>rw [h0] at h2;cases h2
 | sCB h0 _ ih=>
  intro r' h';cases h' with
  | sPB h2=>rw [a40] at h0;cases h0
  | sPC h2=>rw [a40] at h0;cases h0
  | sPX h2 h3=>rw [a40] at h0;cases h0
  | sLB h2=>rw [a91] at h0;cases h0
  | sLO h2=>rw [a91] at h0;cases h0
  | sNum h2=>rw [q4e h2] at h0;cases h0
  | sName _ h2=>simp at h2
  | sCB _ h2=>exact ih h2
  | sCO _ h2=>cases ih h2
  | sBad _ _ _ h2=>rw [h0] at h2;cases h2
 | sCO h0 _ ih=>
  intro r' h';cases h' with
  | sPB h2=>rw [a40] at h0;cases h0
  | sPC h2=>rw [a40] at h0;cases h0
  | sPX h2 h3=>rw [a40] at h0;cases h0
  | sLB h2=>rw [a91] at h0;cases h0
  | sLO h2=>rw [a91] at h0;cases h0
  | sNum h2=>rw [q4e h2] at h0;cases h0
  | sName _ h2=>simp at h2
  | sCB _ h2=>cases ih h2
  | sCO _ h2=>cases ih h2;rfl
  | sBad _ _ _ h2=>rw [h0] at h2;cases h2
 | sBad h0 h1 h3 h4=>
  intro r' h';cases h' with
  | sPB h2=>exact absurd rfl h0
  | sPC h2=>exact absurd rfl h0
  | sPX h2 _=>exact absurd rfl h0
  | sLB h2=>exact absurd rfl h1
  | sLO h2=>exact absurd rfl h1
  | sNum h2=>rw [h3] at h2;cases h2
  | sName h2 _=>rw [h4] at h2;cases h2
  | sCB h2 _=>rw [h4] at h2;cases h2
  | sCO h2 _=>rw [h4] at h2;cases h2
  | sBad _ _ _ h2=>rfl
 | aEnd=>
  intro r' h';cases h' with
  | aEnd=>rfl
  | aSep h2 _=>simp at h2
  | aB0 h2 _=>simp at h2
  | aO0 h2 _ _=>simp at h2
  | aB h2 _=>exact absurd rfl h2
  | aO h2 _ _=>exact absurd rfl h2
 | aSep h0 h1=>
  intro r' h';cases h' with
  | aEnd=>simp at h0
  | aSep h2 _=>rfl
  | aB h2 _=>simp at h1
  | aO h2 _ _=>simp at h1
 | aB0 h0 _ ih=>
  intro r' h';cases h' with
  | aEnd=>simp at h0
  | aB0 _ h2=>exact ih h2
  | aO0 _ h2 _=>cases ih h2
 | aO0 h0 _ _ ih1 ih2=>
  intro r' h';cases h' with
  | aEnd=>simp at h0
  | aB0 _ h2=>cases ih1 h2
  | aO0 _ h2 h3=>cases ih1 h2;exact ih2 h3
 | aB h0 _ ih=>
  intro r' h';cases h' with
  | aEnd=>exact absurd rfl h0
  | aSep _ h2=>simp at h2
  | aB _ h2=>exact ih h2
  | aO _ h2 _=>cases ih h2
 | aO h0 _ _ ih1 ih2=>
  intro r' h';cases h' with
  | aEnd=>exact absurd rfl h0
  | aSep _ h2=>simp at h2
  | aB _ h2=>cases ih1 h2
  | aO _ h2 h3=>cases ih1 h2;exact ih2 h3
def Rs.rest:Rs→List Wd
 | .ok _ _ u=>u
 | .bad u=>u
def Job.eats:Job→Nat
 | .level _=>1
 | .single=>1
 | _=>0
theorem q1y {α:Type} {u ts:List α} (w:α) (h:u <:+ ts):u <:+ w::ts:=h.trans (List.suffix_cons w ts)
theorem q8q {j:Job} {ts:List Wd} {r:Rs} (h:PR j ts r):r.rest <:+ ts∧∀ m ns u,r = .ok m ns u→u.length+j.eats≤ts.length:=by
 induction h with
 | lev2 _ ih=>exact ih
 | levB _ _ ih=>exact ⟨ih.1,fun _ _ _ e=>by cases e⟩
 | levO _ _ _ ih1 ih2=>
  have h1:=ih1.2 _ _ _ rfl
  refine ⟨ih2.1.trans ih1.1,fun m ns u e=>?_⟩
  have h2:=ih2.2 _ _ _ e
  simp only [Job.eats] at h1 h2 ⊢;omega
 | lopE _=>exact ⟨List.suffix_refl _,fun _ _ _ e=>by cases e;simp [Job.eats]⟩
 | lopB _ ih=>exact ⟨q1y _ ih.1,fun _ _ _ e=>by cases e⟩
 | lopO _ _ ih1 ih2=>
  have h1:=ih1.2 _ _ _ rfl
  refine ⟨q1y _ (ih2.1.trans ih1.1),fun m ns u e=>?_⟩
  have h2:=ih2.2 _ _ _ e
  simp only [Job.eats,List.length_cons] at h1 h2 ⊢;omega
 | sinN=>exact ⟨List.suffix_refl _,fun _ _ _ e=>by cases e⟩
 | sPB _ ih=>exact ⟨q1y _ ih.1,fun _ _ _ e=>by cases e⟩
 | sPC _ ih=>
  have h1:=ih.2 _ _ _ rfl
  refine ⟨q1y _ ((List.suffix_cons _ _).trans ih.1),fun m ns u e=>?_⟩
  cases e
  simp only [Job.eats,List.length_cons] at h1 ⊢;omega
 | sPX _ _ ih=>exact ⟨q1y _ ih.1,fun _ _ _ e=>by cases e⟩
 | sLB _ ih=>exact ⟨q1y _ ih.1,fun _ _ _ e=>by cases e⟩
 | sLO _ ih=>
  have h1:=ih.2 _ _ _ rfl
  refine ⟨q1y _ ih.1,fun m ns u e=>?_⟩
  cases e
  simp only [Job.eats,List.length_cons] at h1 ⊢;omega
 | sNum _=>exact ⟨List.suffix_cons _ _,fun _ _ _ e=>by cases e;simp [Job.eats]⟩
 | sName _ _=>exact ⟨List.suffix_cons _ _,fun _ _ _ e=>by cases e;simp [Job.eats]⟩
 | sCB _ _ ih=>exact ⟨q1y _ (q1y _ ih.1),fun _ _ _ e=>by cases e⟩
 | sCO _ _ ih=>
  have h1:=ih.2 _ _ _ rfl
  refine ⟨q1y _ (q1y _ ih.1),fun m ns u e=>?_⟩
  cases e
  simp only [Job.eats,List.length_cons] at h1 ⊢;omega
 | sBad _ _ _ _=>exact ⟨List.suffix_refl _,fun _ _ _ e=>by cases e⟩
 | aEnd=>exact ⟨List.suffix_cons _ _,fun _ _ _ e=>by cases e;simp [Job.eats]⟩
 | aSep _ _=>exact ⟨List.suffix_refl _,fun _ _ _ e=>by cases e⟩
 | aB0 _ _ ih=>exact ⟨ih.1,fun _ _ _ e=>by cases e⟩
 | aO0 _ _ _ ih1 ih2=>
  have h1:=ih1.2 _ _ _ rfl
  refine ⟨ih2.1.trans ih1.1,fun m ns u e=>?_⟩
  have h2:=ih2.2 _ _ _ e
  simp only [Job.eats] at h1 h2 ⊢;omega
 | aB _ _ ih=>exact ⟨q1y _ ih.1,fun _ _ _ e=>by cases e⟩
 | aO _ _ _ ih1 ih2=>
  have h1:=ih1.2 _ _ _ rfl
  refine ⟨q1y _ (ih2.1.trans ih1.1),fun m ns u e=>?_⟩
  have h2:=ih2.2 _ _ _ e
  simp only [Job.eats,List.length_cons] at h1 h2 ⊢;omega
end Go.Proofs.YtchdplceopegoaaGreatDoor
