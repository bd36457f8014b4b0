import Derived.Test.YthcpdohdppkmkaaGreatDoorPl00
open Go.Proofs.Tryz
namespace Go.Proofs.YthcpdohdppkmkaaGreatDoor
open Go
inductive Fo where
 | nil:Fo
 | cons (x:Td) (k n:Fo):Fo
def Fo.len:Fo->Nat
 | .nil=>0
 | .cons _ _ n=>n.len+1
def Fo.N:Fo->List Td
 | .nil=>[]
 | .cons x k n=>x::(k.N++n.N)
def Fo.ok:Fo->Prop
 | .nil=>True
 | .cons x k n=>k.len=kdT x/\k.ok/\n.ok
def Fo.app:Fo->Fo->Fo
 | .nil,g=>g
 | .cons x k n,g=>.cons x k (n.app g)
theorem y1f:∀(l:Nat)(ds:List Td)(m k:Nat),ds.length<=l->z5u ds m=some k->∃F:Fo,F.ok/\F.len=m/\F.N=ds.take k
 | l,ds,0,k,_,h=>by
  rw[q7o]at h;cases h;exact⟨.nil,trivial,rfl,by simp[Fo.N]⟩
 | 0,ds,m+1,k,hl,h=>by
  have:ds=[]:=List.eq_nil_of_length_eq_zero (by omega)
  subst this;rw[q8h]at h;cases h
 | l+1,[],m+1,k,hl,h=>by rw[q8h]at h;cases h
 | l+1,x::r,m+1,k,hl,h=>by
  rw[q5b,Option.map_eq_some_iff]at h;obtain⟨j,h1,rfl⟩:=h;rw[z7x]at h1;cases h2:z5u r (kdT x)with
  | none=>rw[h2]at h1;cases h1
  | some a=>
   rw[h2,Option.bind_some,Option.map_eq_some_iff]at h1;obtain⟨b,h3,rfl⟩:=h1;obtain⟨K,k1,k2,k3⟩:=y1f l r (kdT x) a (by simp at hl;omega) h2;obtain⟨N,n1,n2,n3⟩:=y1f l (r.drop a) m b (by simp at hl⊢;omega) h3;refine⟨.cons x K N,⟨k2,k1,n1⟩,by simp[Fo.len,n2],?_⟩;have ha:=(k3h _ _ _ h2).2;rw[Fo.N,k3,n3,List.take_succ_cons,List.cons.injEq];refine⟨rfl,?_⟩;rw[List.take_add]
theorem j4o:∀(F:Fo),F.ok->∀(r:List Td)(m:Nat),z5u (F.N++r) (F.len+m)=(z5u r m).map (F.N.length+·)
 | .nil,_,r,m=>by simp[Fo.N,Fo.len]
 | .cons x k n,h,r,m=>by
  have e1:=j4o n h.2.2 r m;have e2:=j4o k h.2.1 (n.N++r) (n.len+m);rw[e1,h.1]at e2;have e3:(Fo.cons x k n).len+m=(n.len+m)+1:=by simp only[Fo.len];omega
  rw[e3,Fo.N,List.cons_append,q5b,List.append_assoc,e2];cases z5u r m with
  | none=>rfl
  | some j=>simp;omega
abbrev Wd:=List UInt8
def q7m(n:Nat):Wd:=if h:n<=9 then [UInt8.ofNat (48+n)]else q7m (n / 10)++[UInt8.ofNat (48+n % 10)]
termination_by n
decreasing_by omega
def z8w(w:Wd):Nat:=w.foldl (fun a c=>a*10+(c.toNat-48)) 0
theorem y0u{n:Nat}(h:n<=9):(UInt8.ofNat (48+n)).toNat=48+n:=by
 rw[UInt8.toNat_ofNat'];omega
theorem v2w(n:Nat):∀c∈q7m n,q2a c=true:=by
 induction n using Nat.strongRecOn with
 | ind n ih=>
  have B:∀k,k<=9->q2a (UInt8.ofNat (48+k))=true:=fun k hk=>by
   simp only[q2a,y0u hk];simp;omega
  rw[q7m]
  split
  ·rename_i h;intro c A;rw[List.mem_singleton]at A;rw[A];exact B n h
  ·rename_i h;intro c A;rcases List.mem_append.1 A with A|A
   ·exact ih (n / 10) (by omega) c A
   ·rw[List.mem_singleton]at A;rw[A];exact B _ (by omega)
theorem y0s(n:Nat):q7m n≠[]:=by
 rw[q7m]
 split<;>simp
theorem z8a:∀(k n:Nat),n<10 ^ (k+1)->(q7m n).length<=k+1
 | k,n,h=>by
  rw[q7m]
  split
  ·simp
  ·rename_i h9;cases k with
   | zero=>simp at h;omega
   | succ k=>
    have:=z8a k (n / 10) (by rw[Nat.pow_succ]at h;omega)
    simp only[List.length_append,List.length_cons,List.length_nil];omega
structure Tn where
 x:Td
 ns:List Td
 tk:List Wd
 tx:List UInt8
def prc(x:Td):Nat:=if x.op=5 then 0 else if x.op=6 then 1 else 2
def brk(l:Nat)(t:Tn):List Wd:=if prc t.x<l then [40]::(t.tk++[[41]])else t.tk
def brx(l:Nat)(t:Tn):List UInt8:=if prc t.x<l then 40::(t.tx++[41])else t.tx
def cmk:List Tn->List Wd
 | []=>[]
 | t::r=>t.tk++match r with
  | []=>[]
  | _::_=>[44]::cmk r
def cmx:List Tn->List UInt8
 | []=>[]
 | t::r=>t.tx++match r with
  | []=>[]
  | _::_=>44::32::cmx r
def two2{α:Type}(f:Tn->Tn->List α):List Tn->List α
 | [a,b]=>f a b
 | _=>[]
def g0o(x:Td)(ks:List Tn):List Wd:=
 if x.op=1 then [q7m x.n.toNat]
 else if x.op=2 then [btL x.tx]
 else if x.op=3 then btL x.tx::[40]::(cmk ks++[[41]])
 else if x.op=4 then [91]::(cmk ks++[[93]])
 else if x.op=5 then two2 (fun a b=>brk 0 a++[43]::brk 1 b) ks
 else two2 (fun a b=>brk 1 a++[42]::brk 2 b) ks
def k8h(x:Td)(ks:List Tn):List UInt8:=
 if x.op=1 then q7m x.n.toNat
 else if x.op=2 then btL x.tx
 else if x.op=3 then btL x.tx++40::(cmx ks++[41])
 else if x.op=4 then 91::(cmx ks++[93])
 else if x.op=5 then two2 (fun a b=>brx 0 a++32::43::32::brx 1 b) ks
 else two2 (fun a b=>brx 1 a++32::42::32::brx 2 b) ks
def y9s(x:Td)(ks:List Tn):Tn:=⟨x,x::ks.flatMap (·.ns),g0o x ks,k8h x ks⟩
def Fo.R:Fo->List Tn
 | .nil=>[]
 | .cons x k n=>y9s x k.R::n.R
def exN(x:Td):Prop:=q0q x=0/\x.op<7
def Fo.exs(F:Fo):Prop:=∀x∈F.N,exN x
theorem q6d{x:Td}(h:exN x):(x.op=1/\x.tx=⟨#[]⟩/\0<=x.n/\x.n<=999999/\kdT x=0)\/(x.op=2/\q0p x.tx=true/\x.n=0/\kdT x=0)
  \/(x.op=3/\q0p x.tx=true/\0<=x.n/\x.n<=6/\kdT x=x.n.toNat)\/(x.op=4/\x.tx=⟨#[]⟩/\0<=x.n/\x.n<=6/\kdT x=x.n.toNat)
  \/(x.op=5/\x.tx=⟨#[]⟩/\x.n=0/\kdT x=2)\/(x.op=6/\x.tx=⟨#[]⟩/\x.n=0/\kdT x=2):=by
 obtain⟨A,G⟩:=h
 have B:∀s:ByteArray,¬0<s.size->s=⟨#[]⟩:=fun s hs=>by
  apply ByteArray.ext;apply Array.toList_inj.1;exact List.eq_nil_of_length_eq_zero (by have:=q0b s;simp only[btL]at this;omega)
 unfold q0q at A
 split at A
 ·cases A
 ·rename_i h1
  split at A
  ·cases A
  ·rename_i h2
   split at A
   ·cases A
   ·rename_i h3;have D:¬x.op=9:=by omega
    rw[if_neg D]at A
    split at A
    ·cases A
    ·rename_i h4;have E:x.op=1\/x.op=2\/x.op=3\/x.op=4\/x.op=5\/x.op=6:=by omega
     rcases E with e|e|e|e|e|e
     ·refine .inl ⟨e,B _ (fun hh=>h3 (.inr ⟨by rw[e];rfl,hh⟩)),by omega,by omega,by unfold kdT;rw[e];rfl⟩
     ·refine .inr (.inl ⟨e,?_,by omega,by unfold kdT;rw[e];rfl⟩);cases C:q0p x.tx with
      | true=>rfl
      | false=>exact absurd ⟨by rw[e];rfl,C⟩ h4
     ·refine .inr (.inr (.inl ⟨e,?_,by omega,by omega,by unfold kdT;rw[if_pos (.inl e)]⟩));cases C:q0p x.tx with
      | true=>rfl
      | false=>exact absurd ⟨by rw[e];rfl,C⟩ h4
     ·exact .inr (.inr (.inr (.inl ⟨e,B _ (fun hh=>h3 (.inr ⟨by rw[e];rfl,hh⟩)),by omega,by omega,by unfold kdT;rw[if_pos (.inr e)]⟩)))
     ·exact .inr (.inr (.inr (.inr (.inl ⟨e,B _ (fun hh=>h3 (.inr ⟨by rw[e];rfl,hh⟩)),by omega,by unfold kdT;rw[e];rfl⟩))))
     ·exact .inr (.inr (.inr (.inr (.inr ⟨e,B _ (fun hh=>h3 (.inr ⟨by rw[e];rfl,hh⟩)),by omega,by unfold kdT;rw[e];rfl⟩))))
inductive Job where
 | level (k:Nat):Job
 | loop (k:Nat) (acc:List Td):Job
 | single:Job
 | args (e:Wd) (n:Nat) (acc:List Td):Job
inductive Rs where
 | ok (n:Nat) (ns:List Td) (rest:List Wd):Rs
 | bad (rest:List Wd):Rs
def sgn(k:Nat):Wd:=if k=0 then [43]else [42]
def sgT(k:Nat):Td:=⟨5+k,⟨#[]⟩,0⟩
def z0g(w:Wd):Bool:=q2a (w.headD 0)
def nmW(w:Wd):Bool:=q0p (wbS w)
def y5h(w:Wd):Td:=⟨1,⟨#[]⟩,(z8w w:Nat)⟩
def nmT(w:Wd):Td:=⟨2,wbS w,0⟩
def clT(w:Wd)(n:Nat):Td:=⟨3,wbS w,(n:Nat)⟩
def lsT(n:Nat):Td:=⟨4,⟨#[]⟩,(n:Nat)⟩
inductive PR:Job->List Wd->Rs->Prop where
 | lev2 {ts r}:PR .single ts r->PR (.level 2) ts r
 | levB {k ts u}:k<2->PR (.level (k+1)) ts (.bad u)->PR (.level k) ts (.bad u)
 | levO {k ts m ns u r}:k<2->PR (.level (k+1)) ts (.ok m ns u)->PR (.loop k ns) u r->PR (.level k) ts r
 | lopE {k acc ts}:ts.head?≠some (sgn k)->PR (.loop k acc) ts (.ok 0 acc ts)
 | lopB {k acc ts u}:PR (.level (k+1)) ts (.bad u)->PR (.loop k acc) (sgn k::ts) (.bad u)
 | lopO {k acc ts m ns u r}:PR (.level (k+1)) ts (.ok m ns u)->PR (.loop k (sgT k::(acc++ns))) u r->PR (.loop k acc) (sgn k::ts) r
 | sinN:PR .single [] (.bad [])
 | sPB {ts u}:PR (.level 0) ts (.bad u)->PR .single ([40]::ts) (.bad u)
 | sPC {ts m ns u}:PR (.level 0) ts (.ok m ns ([41]::u))->PR .single ([40]::ts) (.ok 0 ns u)
 | sPX {ts m ns u}:PR (.level 0) ts (.ok m ns u)->u.head?≠some [41]->PR .single ([40]::ts) (.bad u)
 | sLB {ts u}:PR (.args [93] 0 []) ts (.bad u)->PR .single ([91]::ts) (.bad u)
 | sLO {ts n ns u}:PR (.args [93] 0 []) ts (.ok n ns u)->PR .single ([91]::ts) (.ok 0 (lsT n::ns) u)
 | sNum {w ts}:z0g w=true->PR .single (w::ts) (.ok 0 [y5h w] ts)
 | sName {w ts}:nmW w=true->ts.head?≠some [40]->PR .single (w::ts) (.ok 0 [nmT w] ts)
 | sCB {w ts u}:nmW w=true->PR (.args [41] 0 []) ts (.bad u)->PR .single (w::[40]::ts) (.bad u)
 | sCO {w ts n ns u}:nmW w=true->PR (.args [41] 0 []) ts (.ok n ns u)->PR .single (w::[40]::ts) (.ok 0 (clT w n::ns) u)
 | sBad {w ts}:w≠[40]->w≠[91]->z0g w=false->nmW w=false->PR .single (w::ts) (.bad (w::ts))
 | aEnd {e n acc ts}:PR (.args e n acc) (e::ts) (.ok n acc ts)
 | aSep {e n acc ts}:ts.head?≠some e->ts.head?≠some [44]->PR (.args e (n+1) acc) ts (.bad ts)
 | aB0 {e acc ts u}:ts.head?≠some e->PR (.level 0) ts (.bad u)->PR (.args e 0 acc) ts (.bad u)
 | aO0 {e acc ts m ns u r}:ts.head?≠some e->PR (.level 0) ts (.ok m ns u)->PR (.args e 1 (acc++ns)) u r->PR (.args e 0 acc) ts r
 | aB {e n acc ts u}:e≠[44]->PR (.level 0) ts (.bad u)->PR (.args e (n+1) acc) ([44]::ts) (.bad u)
 | aO {e n acc ts m ns u r}:e≠[44]->PR (.level 0) ts (.ok m ns u)->PR (.args e (n+2) (acc++ns)) u r->PR (.args e (n+1) acc) ([44]::ts) r
theorem q3e{w:Wd}(h:z0g w=true):nmW w=false:=by
 cases A:nmW w with
 | false=>rfl
 | true=>
  exfalso;unfold nmW q0p at A;simp only[Bool.and_eq_true,List.all_eq_true,decide_eq_true_eq]at A;cases w with
  | nil=>simp[wbS,ByteArray.size]at A
  | cons c z=>
   have B:=A.2 c (by show c∈(c::z);simp);have C:q2a c=true:=h
   have:=k3p C
   rw[B]at this;cases this
theorem v8x:z0g [40]=false:=by decide
theorem v8y:z0g [91]=false:=by decide
theorem k4k:nmW [40]=false:=by decide
theorem k4l:nmW [91]=false:=by decide
theorem q3f{j:Job}{ts:List Wd}{r:Rs}(h:PR j ts r):∀{r':Rs},PR j ts r'->r=r':=by
 have D:=v8x;have E:=v8y;have B:=k4k;have C:=k4l
 induction h with
 | lev2 _ ih=>intro r' A;cases A with
  | lev2 h2=>exact ih h2
  | levB h0=>omega
  | levO h0=>omega
 | levB h0 _ ih=>intro r' A;cases A with
  | lev2 h2=>omega
  | levB _ h2=>exact ih h2
  | levO _ h2 _=>cases ih h2
 | levO h0 _ _ ih1 ih2=>intro r' A;cases A with
  | lev2 h2=>omega
  | levB _ h2=>cases ih1 h2
  | levO _ h2 h3=>cases ih1 h2;exact ih2 h3
 | lopE h0=>intro r' A;cases A with
  | lopE _=>rfl
  | lopB _=>simp at h0
  | lopO _ _=>simp at h0
 | lopB _ ih=>intro r' A;cases A with
  | lopE h0=>simp at h0
  | lopB h2=>exact ih h2
  | lopO h2 _=>cases ih h2
 | lopO _ _ ih1 ih2=>intro r' A;cases A with
  | lopE h0=>simp at h0
  | lopB h2=>cases ih1 h2
  | lopO h2 h3=>cases ih1 h2;exact ih2 h3
 | sinN=>intro r' A;cases A;rfl
 | sPB _ ih=>intro r' A;cases A with
  | sPB h2=>exact ih h2
  | sPC h2=>cases ih h2
  | sPX h2 _=>cases ih h2
  | sNum h2=>rw[D]at h2;cases h2
  | sName h2 _=>rw[B]at h2;cases h2
  | sCB h2 _=>rw[B]at h2;cases h2
  | sCO h2 _=>rw[B]at h2;cases h2
  | sBad h2=>exact absurd rfl h2
 | sPC _ ih=>intro r' A;cases A with
  | sPB h2=>cases ih h2
  | sPC h2=>cases ih h2;rfl
  | sPX h2 h3=>cases ih h2;simp at h3
  | sNum h2=>rw[D]at h2;cases h2
  | sName h2 _=>rw[B]at h2;cases h2
  | sCB h2 _=>rw[B]at h2;cases h2
  | sCO h2 _=>rw[B]at h2;cases h2
  | sBad h2=>exact absurd rfl h2
 | sPX _ h0 ih=>intro r' A;cases A with
  | sPB h2=>cases ih h2
  | sPC h2=>cases ih h2;simp at h0
  | sPX h2 h3=>cases ih h2;rfl
  | sNum h2=>rw[D]at h2;cases h2
  | sName h2 _=>rw[B]at h2;cases h2
  | sCB h2 _=>rw[B]at h2;cases h2
  | sCO h2 _=>rw[B]at h2;cases h2
  | sBad h2=>exact absurd rfl h2
 | sLB _ ih=>intro r' A;cases A with
  | sLB h2=>exact ih h2
  | sLO h2=>cases ih h2
  | sNum h2=>rw[E]at h2;cases h2
  | sName h2 _=>rw[C]at h2;cases h2
  | sCB h2 _=>rw[C]at h2;cases h2
  | sCO h2 _=>rw[C]at h2;cases h2
  | sBad _ h2=>exact absurd rfl h2
 | sLO _ ih=>intro r' A;cases A with
  | sLB h2=>cases ih h2
  | sLO h2=>cases ih h2;rfl
  | sNum h2=>rw[E]at h2;cases h2
  | sName h2 _=>rw[C]at h2;cases h2
  | sCB h2 _=>rw[C]at h2;cases h2
  | sCO h2 _=>rw[C]at h2;cases h2
  | sBad _ h2=>exact absurd rfl h2
 | sNum h0=>
  have G:=q3e h0;intro r' A;cases A with
  | sPB h2=>rw[D]at h0;cases h0
  | sPC h2=>rw[D]at h0;cases h0
  | sPX h2 h3=>rw[D]at h0;cases h0
  | sLB h2=>rw[E]at h0;cases h0
  | sLO h2=>rw[E]at h0;cases h0
  | sNum h2=>rfl
  | sName h2 _=>rw[G]at h2;cases h2
  | sCB h2 _=>rw[G]at h2;cases h2
  | sCO h2 _=>rw[G]at h2;cases h2
  | sBad _ _ h2=>rw[h0]at h2;cases h2
 | sName h0 h1=>
  intro r' A;cases A with
  | sPB h2=>rw[B]at h0;cases h0
  | sPC h2=>rw[B]at h0;cases h0
  | sPX h2 h3=>rw[B]at h0;cases h0
  | sLB h2=>rw[C]at h0;cases h0
  | sLO h2=>rw[C]at h0;cases h0
  | sNum h2=>rw[q3e h2]at h0;cases h0
  | sName h2 _=>rfl
  | sCB h2 _=>simp at h1
  | sCO h2 _=>simp at h1
  | sBad _ _ _ h2=>rw[h0]at h2;cases h2
 | sCB h0 _ ih=>
  intro r' A;cases A with
  | sPB h2=>rw[B]at h0;cases h0
  | sPC h2=>rw[B]at h0;cases h0
  | sPX h2 h3=>rw[B]at h0;cases h0
  | sLB h2=>rw[C]at h0;cases h0
  | sLO h2=>rw[C]at h0;cases h0
  | sNum h2=>rw[q3e h2]at h0;cases h0
  | sName _ h2=>simp at h2
  | sCB _ h2=>exact ih h2
  | sCO _ h2=>cases ih h2
  | sBad _ _ _ h2=>rw[h0]at h2;cases h2
 | sCO h0 _ ih=>
  intro r' A;cases A with
  | sPB h2=>rw[B]at h0;cases h0
  | sPC h2=>rw[B]at h0;cases h0
  | sPX h2 h3=>rw[B]at h0;cases h0
  | sLB h2=>rw[C]at h0;cases h0
  | sLO h2=>rw[C]at h0;cases h0
  | sNum h2=>rw[q3e h2]at h0;cases h0
  | sName _ h2=>simp at h2
  | sCB _ h2=>cases ih h2
  | sCO _ h2=>cases ih h2;rfl
  | sBad _ _ _ h2=>rw[h0]at h2;cases h2
 | sBad h0 h1 h3 h4=>
  intro r' A;cases A with
  | sPB h2=>exact absurd rfl h0
  | sPC h2=>exact absurd rfl h0
  | sPX h2 _=>exact absurd rfl h0
  | sLB h2=>exact absurd rfl h1
  | sLO h2=>exact absurd rfl h1
  | sNum h2=>rw[h3]at h2;cases h2
  | sName h2 _=>rw[h4]at h2;cases h2
  | sCB h2 _=>rw[h4]at h2;cases h2
  | sCO h2 _=>rw[h4]at h2;cases h2
  | sBad _ _ _ h2=>rfl
 | aEnd=>
  intro r' A;cases A with
  | aEnd=>rfl
  | aSep h2 _=>simp at h2
  | aB0 h2 _=>simp at h2
  | aO0 h2 _ _=>simp at h2
  | aB h2 _=>exact absurd rfl h2
  | aO h2 _ _=>exact absurd rfl h2
 | aSep h0 h1=>
  intro r' A;cases A with
  | aEnd=>simp at h0
  | aSep h2 _=>rfl
  | aB h2 _=>simp at h1
  | aO h2 _ _=>simp at h1
 | aB0 h0 _ ih=>
  intro r' A;cases A with
  | aEnd=>simp at h0
  | aB0 _ h2=>exact ih h2
  | aO0 _ h2 _=>cases ih h2
 | aO0 h0 _ _ ih1 ih2=>
  intro r' A;cases A with
  | aEnd=>simp at h0
  | aB0 _ h2=>cases ih1 h2
  | aO0 _ h2 h3=>cases ih1 h2;exact ih2 h3
 | aB h0 _ ih=>
  intro r' A;cases A with
  | aEnd=>exact absurd rfl h0
  | aSep _ h2=>simp at h2
  | aB _ h2=>exact ih h2
  | aO _ h2 _=>cases ih h2
 | aO h0 _ _ ih1 ih2=>
  intro r' A;cases A with
  | aEnd=>exact absurd rfl h0
  | aSep _ h2=>simp at h2
  | aB _ h2=>cases ih1 h2
  | aO _ h2 h3=>cases ih1 h2;exact ih2 h3
def Rs.rest:Rs->List Wd
 | .ok _ _ u=>u
 | .bad u=>u
def Job.eats:Job->Nat
 | .level _=>1
 | .single=>1
 | _=>0
theorem q2t{α:Type}{u ts:List α}(w:α)(h:u <:+ ts):u <:+ w::ts:=h.trans (List.suffix_cons w ts)
theorem q5h{j:Job}{ts:List Wd}{r:Rs}(h:PR j ts r):r.rest <:+ ts/\∀m ns u,r=.ok m ns u->u.length+j.eats<=ts.length:=by
 induction h with
 | lev2 _ ih=>exact ih
 | levB _ _ ih=>exact⟨ih.1,fun _ _ _ e=>by cases e⟩
 | levO _ _ _ ih1 ih2=>
  have A:=ih1.2 _ _ _ rfl;refine⟨ih2.1.trans ih1.1,fun m ns u e=>?_⟩;have B:=ih2.2 _ _ _ e;simp only[Job.eats]at A B⊢;omega
 | lopE _=>exact⟨List.suffix_refl _,fun _ _ _ e=>by cases e;simp[Job.eats]⟩
 | lopB _ ih=>exact⟨q2t _ ih.1,fun _ _ _ e=>by cases e⟩
 | lopO _ _ ih1 ih2=>
  have A:=ih1.2 _ _ _ rfl;refine⟨q2t _ (ih2.1.trans ih1.1),fun m ns u e=>?_⟩;have B:=ih2.2 _ _ _ e;simp only[Job.eats,List.length_cons]at A B⊢;omega
 | sinN=>exact⟨List.suffix_refl _,fun _ _ _ e=>by cases e⟩
 | sPB _ ih=>exact⟨q2t _ ih.1,fun _ _ _ e=>by cases e⟩
 | sPC _ ih=>
  have A:=ih.2 _ _ _ rfl;refine⟨q2t _ ((List.suffix_cons _ _).trans ih.1),fun m ns u e=>?_⟩;cases e;simp only[Job.eats,List.length_cons]at A⊢;omega
 | sPX _ _ ih=>exact⟨q2t _ ih.1,fun _ _ _ e=>by cases e⟩
 | sLB _ ih=>exact⟨q2t _ ih.1,fun _ _ _ e=>by cases e⟩
 | sLO _ ih=>
  have A:=ih.2 _ _ _ rfl;refine⟨q2t _ ih.1,fun m ns u e=>?_⟩;cases e;simp only[Job.eats,List.length_cons]at A⊢;omega
 | sNum _=>exact⟨List.suffix_cons _ _,fun _ _ _ e=>by cases e;simp[Job.eats]⟩
 | sName _ _=>exact⟨List.suffix_cons _ _,fun _ _ _ e=>by cases e;simp[Job.eats]⟩
 | sCB _ _ ih=>exact⟨q2t _ (q2t _ ih.1),fun _ _ _ e=>by cases e⟩
 | sCO _ _ ih=>
  have A:=ih.2 _ _ _ rfl;refine⟨q2t _ (q2t _ ih.1),fun m ns u e=>?_⟩;cases e;simp only[Job.eats,List.length_cons]at A⊢;omega
 | sBad _ _ _ _=>exact⟨List.suffix_refl _,fun _ _ _ e=>by cases e⟩
 | aEnd=>exact⟨List.suffix_cons _ _,fun _ _ _ e=>by cases e;simp[Job.eats]⟩
 | aSep _ _=>exact⟨List.suffix_refl _,fun _ _ _ e=>by cases e⟩
 | aB0 _ _ ih=>exact⟨ih.1,fun _ _ _ e=>by cases e⟩
 | aO0 _ _ _ ih1 ih2=>
  have A:=ih1.2 _ _ _ rfl;refine⟨ih2.1.trans ih1.1,fun m ns u e=>?_⟩;have B:=ih2.2 _ _ _ e;simp only[Job.eats]at A B⊢;omega
 | aB _ _ ih=>exact⟨q2t _ ih.1,fun _ _ _ e=>by cases e⟩
 | aO _ _ _ ih1 ih2=>
  have A:=ih1.2 _ _ _ rfl;refine⟨q2t _ (ih2.1.trans ih1.1),fun m ns u e=>?_⟩;have B:=ih2.2 _ _ _ e;simp only[Job.eats,List.length_cons]at A B⊢;omega
theorem q5p{s:ByteArray}(h:q0p s=true):(btL s).length<=8:=by
 unfold q0p at h;simp only[Bool.and_eq_true,decide_eq_true_eq]at h;rw[q0b];exact h.1.1.2
def Fo.tk:Nat->Fo->Fo
 | 0,_=>.nil
 | _+1,.nil=>.nil
 | k+1,.cons x a n=>.cons x a (Fo.tk k n)
def Fo.dp:Nat->Fo->Fo
 | 0,f=>f
 | _+1,.nil=>.nil
 | k+1,.cons _ _ n=>Fo.dp k n
theorem k3u:∀f g:Fo,Fo.tk f.len (f.app g)=f
 | .nil,g=>by cases g<;>rfl
 | .cons x k n,g=>by simp only[Fo.len,Fo.app,Fo.tk,k3u n g]
theorem k3s:∀f g:Fo,Fo.dp f.len (f.app g)=g
 | .nil,g=>by cases g<;>rfl
 | .cons x k n,g=>by simp only[Fo.len,Fo.app,Fo.dp,k3s n g]
theorem z1q:∀f:Fo,f.app .nil=f
 | .nil=>rfl
 | .cons x k n=>by simp only[Fo.app,z1q n]
def j2n:List Td->Fo
 | []=>.nil
 | x::r=>.cons x (Fo.tk (kdT x) (j2n r)) (Fo.dp (kdT x) (j2n r))
theorem z7t:∀(F:Fo),F.ok->∀r,j2n (F.N++r)=F.app (j2n r)
 | .nil,_,r=>rfl
 | .cons x k n,h,r=>by
  have e1:=z7t n h.2.2 r;have e2:=z7t k h.2.1 (n.N++r);rw[Fo.N,List.cons_append,List.append_assoc,j2n,e2,e1,<-h.1,k3u,k3s];rfl
theorem k8t(F:Fo)(h:F.ok):j2n F.N=F:=by
 have:=z7t F h []
 rw[List.append_nil]at this;rw[this];exact z1q F
theorem z9i{ds:List Td}(h:q0c ds=0):(∃x,ds=[x]/\x.op=9/\x.n=0/\q2x x.tx=0)\/
  (∃(x:Td)(F:Fo),ds=x::F.N/\F.ok/\F.exs/\F.len=1/\((x.op=7/\q0p x.tx=true/\x.n=0)\/(x.op=8/\x.tx=⟨#[]⟩/\x.n=0))):=by
 obtain⟨_,Q,H,R⟩:=q4b h;cases ds with
 | nil=>rw[q8j [] 0 0 (by simp)]at H;cases H
 | cons x r=>
  have B:=Q x (by simp);simp only[k5i,Bool.and_eq_true,decide_eq_true_eq,List.all_eq_true]at R;rw[q3q,List.drop_zero,q5b,Option.map_map,Option.map_eq_some_iff]at H;obtain⟨j,P,J⟩:=H;simp only[Function.comp_apply,List.length_cons]at J;have K:j=r.length:=by omega
  rw[Nat.add_zero,K]at P;obtain⟨F,O,G,D⟩:=y1f r.length r (kdT x) r.length Zl P;rw[List.take_length]at D
  have E:F.exs:=fun y hy=>by
   rw[D]at hy;exact⟨Q y (by simp[hy]),R.2 y hy⟩
  have I:∀s:ByteArray,¬0<s.size->s=⟨#[]⟩:=fun s hs=>by
   apply ByteArray.ext;apply Array.toList_inj.1;exact List.eq_nil_of_length_eq_zero (by have:=q0b s;simp only[btL]at this;omega)
  unfold q0q at B
  split at B
  ·cases B
  ·rename_i h1
   split at B
   ·cases B
   ·split at B
    ·cases B
    ·rename_i h3;have A:x.op=7\/x.op=8\/x.op=9:=by omega
     rcases A with A|A|A
     ·have C:kdT x=1:=by unfold kdT;rw[A];rfl
      rw[if_neg (by omega)]at B
      split at B
      ·cases B
      ·rename_i h4;refine .inr ⟨x,F,by rw[D],O,E,by rw[G,C],.inl ⟨A,?_,by omega⟩⟩;cases M:q0p x.tx with
       | true=>rfl
       | false=>exact absurd ⟨by rw[A];rfl,M⟩ h4
     ·have C:kdT x=1:=by unfold kdT;rw[A];rfl
      exact .inr ⟨x,F,by rw[D],O,E,by rw[G,C],.inr ⟨A,I _ (fun hh=>h3 (.inr ⟨by rw[A];rfl,hh⟩)),by omega⟩⟩
     ·have L:kdT x=0:=by unfold kdT;rw[A];rfl
      rw[if_pos A]at B
      have S:F=.nil:=by
       cases F with
       | nil=>rfl
       | cons y k n=>rw[L]at G;simp[Fo.len]at G
      rw[S]at D;exact .inl ⟨x,by rw[<-D];rfl,A,by omega,B⟩
def hdT(ks:List Tn):List UInt8:=match ks with
 | t::_=>t.tx
 | []=>[]
def hdK(ks:List Tn):List Wd:=match ks with
 | t::_=>t.tk
 | []=>[]
def stX(x:Td)(ks:List Tn):List UInt8:=
 if x.op=7 then [108,101,116,32]++btL x.tx++[32,61,32]++hdT ks++[59]else if x.op=8 then hdT ks++[59]else if x.tx.size=0 then [35]else [35,32]++btL x.tx
def stK(x:Td)(ks:List Tn):List Wd:=
 if x.op=7 then [108,101,116]::btL x.tx::[61]::(hdK ks++[[59]])else if x.op=8 then hdK ks++[[59]]else [if x.tx.size=0 then [35]else [35,32]++btL x.tx]
def y3y(ds:List Td):List UInt8:=match j2n ds with
 | .nil=>[]
 | .cons x k _=>stX x k.R
def y9v(ds:List Td):List Wd:=match j2n ds with
 | .nil=>[]
 | .cons x k _=>stK x k.R
theorem v9h{x:Td}{F:Fo}(h:F.ok)(hl:F.len=kdT x):j2n (x::F.N)=.cons x F .nil:=by
 have A:=k3u F .nil;have B:=k3s F .nil;rw[z1q]at A B;rw[j2n,k8t F h,<-hl,A,B]
theorem y6k{x:Td}{F:Fo}(h:F.ok)(hl:F.len=kdT x):y3y (x::F.N)=stX x F.R/\y9v (x::F.N)=stK x F.R:=by
 rw[y3y,y9v,v9h h hl];exact⟨rfl,rfl⟩
end Go.Proofs.YthcpdohdppkmkaaGreatDoor
namespace Go.Proofs.YthcpdohdppkmkaaGreatDoor
structure Nd where
 op:Int
 tx:ByteArray
 n:Int
def pts(op:Int):Nat:=if op=6\/op=9 then 2 else if op=7\/op=8 then 1 else 0
theorem j9c(op:Int):pts op<=2:=by unfold pts;split<;>(try split)<;>omega
def cnt:List Nd->Nat->Option Nat
 | _,0=>some 0
 | [],_+1=>none
 | x::r,m+1=>(cnt r (pts x.op+m)).map (· + 1)
theorem q8i(ds:List Nd):cnt ds 0=some 0:=by cases ds<;>rfl
theorem z1m(m:Nat):cnt [] (m+1)=none:=rfl
theorem q4q(x:Nd)(r:List Nd)(m:Nat):cnt (x::r) (m+1)=(cnt r (pts x.op+m)).map (· + 1):=rfl
theorem j3f:∀(ds:List Nd)(m k:Nat),cnt ds m=some k->m<=k/\k<=ds.length
 | ds,0,k,h=>by rw[q8i]at h;cases h;simp
 | [],m+1,k,h=>by rw[z1m]at h;cases h
 | x::r,m+1,k,h=>by
  rw[q4q,Option.map_eq_some_iff]at h;obtain⟨j,h1,rfl⟩:=h
  have:=j3f r _ j h1
  simp;omega
theorem k3i:∀(ds:List Nd)(a b:Nat),cnt ds (a+b)=(cnt ds a).bind fun k=>(cnt (ds.drop k) b).map (k+·)
 | ds,0,b=>by
  rw[q8i];simp
 | [],a+1,b=>by rw[show a+1+b=(a+b)+1 by omega,z1m,z1m];rfl
 | x::r,a+1,b=>by
  rw[show a+1+b=(a+b)+1 by omega,q4q,q4q,show pts x.op+(a+b)=(pts x.op+a)+b by omega,k3i r _ b];cases cnt r (pts x.op+a)with
  | none=>rfl
  | some k=>
   simp only[Option.bind_some,Option.map_some,List.drop_succ_cons];cases cnt (r.drop k) b with
   | none=>rfl
   | some j=>simp;omega
theorem j3g:∀(ds:List Nd)(m k i:Nat),cnt ds m=some k->i<k->∃m',cnt (ds.drop i) (m'+1)=some (k-i)
 | ds,0,k,i,h,hi=>by rw[q8i]at h;cases h;omega
 | [],m+1,k,i,h,hi=>by rw[z1m]at h;cases h
 | x::r,m+1,k,i,h,hi=>by
  cases i with
  | zero=>exact⟨m,h⟩
  | succ i=>
   rw[q4q,Option.map_eq_some_iff]at h;obtain⟨j,h1,rfl⟩:=h;obtain⟨m',h2⟩:=j3g r _ j i h1 (by omega);exact⟨m',by rw[List.drop_succ_cons,h2];congr 1;omega⟩
def q0o(ds:List Nd)(i m:Nat):Option Nat:=(cnt (ds.drop i) m).map (i+·)
theorem z6b(ds:List Nd)(i:Nat):q0o ds i 0=some i:=by simp[q0o,q8i]
theorem k0p(ds:List Nd)(i m:Nat)(h:ds.length<=i):q0o ds i (m+1)=none:=by
 rw[q0o,List.drop_eq_nil_of_le h,z1m];rfl
theorem z6a(ds:List Nd)(i m:Nat)(h:i<ds.length):q0o ds i (m+1)=q0o ds (i+1) (pts ds[i].op+m):=by
 rw[q0o,List.drop_eq_getElem_cons h,q4q,q0o];cases cnt (ds.drop (i+1)) (pts ds[i].op+m)with
 | none=>rfl
 | some k=>simp;omega
theorem j3s(ds:List Nd)(i a b:Nat):q0o ds i (a+b)=(q0o ds i a).bind fun j=>q0o ds j b:=by
 rw[q0o,k3i,q0o];cases cnt (ds.drop i) a with
 | none=>rfl
 | some k=>
  simp only[Option.bind_some,Option.map_some,q0o,List.drop_drop];cases cnt (ds.drop (i+k)) b with
  | none=>rfl
  | some j=>simp;omega
theorem k6h{ds:List Nd}{i m j:Nat}(h:q0o ds i m=some j):i+m<=j/\(m=0\/j<=ds.length):=by
 rw[q0o,Option.map_eq_some_iff]at h;obtain⟨k,A,rfl⟩:=h;have B:=j3f _ _ _ A;rw[List.length_drop]at B;omega
theorem j3t{ds:List Nd}{i:Nat}(h:q0o ds 0 1=some ds.length)(hi:i<ds.length):∃j,q0o ds i 1=some j/\i<j/\j<=ds.length:=by
 rw[q0o,Option.map_eq_some_iff]at h;obtain⟨k,D,H⟩:=h;have E:k=ds.length:=by omega
 subst E;obtain⟨G,A⟩:=j3g _ _ _ i D hi;rw[List.drop_zero,Nat.add_comm G 1,k3i]at A;cases B:cnt (ds.drop i) 1 with
 | none=>rw[B]at A;cases A
 | some j=>
  have C:q0o ds i 1=some (i+j):=by rw[q0o,B];rfl
  have I:=k6h C;exact⟨i+j,C,by omega,by omega⟩
def q5x(b:UInt8):Bool:=decide (32<=b.toNat)&&decide (b.toNat<=126)
def isW(s:ByteArray):Bool:=decide (1<=s.size)&&decide (s.size<=20)&&s.data.toList.all q5x
def q1b(x:Nd):Int:=
 if x.op<1\/9<x.op then 1
 else if(x.op≠1/\x.tx.size≠0)\/(x.op≠7/\x.n≠0)then 2
 else if x.op=1/\isW x.tx=false then 5
 else if x.op=7/\(x.n<0\/8<x.n)then 1 else 0
def q8y:List Nd->Int
 | []=>0
 | x::r=>if q1b x=0 then q8y r else q1b x
def q3d(ds:List Nd):Int:=
 if 400<ds.length then 3 else if q8y ds=0 then(if q0o ds 0 1=some ds.length then 0 else 2)else q8y ds
theorem z1o:∀(ds:List Nd),(∀x∈ds,q1b x=0)->q8y ds=0
 | [],_=>rfl
 | x::r,h=>by rw[q8y,if_pos (h x (by simp)),z1o r fun y hy=>h y (by simp[hy])]
theorem z3x:∀(ds:List Nd),q8y ds=0->∀x∈ds,q1b x=0
 | [],_=>by simp
 | x::r,h=>by
  rw[q8y]at h
  split at h
  ·rename_i h0;intro y hy;rcases List.mem_cons.1 hy with rfl|hy
   ·exact h0
   ·exact z3x r h y hy
  ·rename_i h0;exact absurd h h0
theorem k0t:∀(ds:List Nd)(k:Nat)(h:k<ds.length),(∀x∈ds.take k,q1b x=0)->q1b ds[k]≠0->q8y ds=q1b ds[k]
 | x::r,0,_,_,h=>by
  have h':q1b x≠0:=h;rw[q8y,if_neg h'];rfl
 | x::r,k+1,hk,ha,h=>by
  rw[q8y,if_pos (ha x (by simp)),k0t r k (by simpa using hk) (fun y hy=>ha y (by simp[hy])) h];rfl
theorem q5c{ds:List Nd}(h:q3d ds=0):ds.length<=400/\(∀x∈ds,q1b x=0)/\q0o ds 0 1=some ds.length:=by
 unfold q3d at h
 split at h
 ·cases h
 ·rename_i h1
  split at h
  ·rename_i h2
   split at h
   ·rename_i h3;exact⟨by omega,z3x ds h2,h3⟩
   ·cases h
  ·rename_i h2;exact absurd h h2
theorem y0v{ds:List Nd}(h1:ds.length<=400)(h2:∀x∈ds,q1b x=0)(h3:q0o ds 0 1=some ds.length):q3d ds=0:=by
 rw[q3d,if_neg (by omega),if_pos (z1o ds h2),if_pos h3]
inductive Tr where
 | leaf (x:Nd)
 | one (x:Nd) (a:Tr)
 | two (x:Nd) (a b:Tr)
def Tr.N:Tr->List Nd
 | .leaf x=>[x]
 | .one x a=>x::a.N
 | .two x a b=>x::(a.N++b.N)
def Tr.Wf:Tr->Prop
 | .leaf x=>q1b x=0/\pts x.op=0
 | .one x a=>q1b x=0/\pts x.op=1/\a.Wf
 | .two x a b=>q1b x=0/\pts x.op=2/\a.Wf/\b.Wf
theorem y5v:∀(ds:List Nd)(m k:Nat),(∀x∈ds,q1b x=0)->cnt ds m=some k->∃ts:List Tr,ts.length=m/\(∀t∈ts,t.Wf)/\ds.take k=(ts.map Tr.N).flatten
 | ds,0,k,_,h=>by rw[q8i]at h;cases h;exact⟨[],rfl,by simp,by simp⟩
 | [],m+1,k,_,h=>by rw[z1m]at h;cases h
 | x::r,m+1,k,hn,h=>by
  rw[q4q,Option.map_eq_some_iff]at h;obtain⟨j,h1,rfl⟩:=h;obtain⟨ts,e1,e2,e3⟩:=y5v r _ j (fun y hy=>hn y (by simp[hy])) h1;have hx:=hn x (by simp);have h012:pts x.op=0\/pts x.op=1\/pts x.op=2:=by have:=j9c x.op;omega
  rcases h012 with B|B|B
  ·exact⟨.leaf x::ts,by simp[e1,B],by intro t A;rcases List.mem_cons.1 A with rfl|A;exact⟨hx,B⟩;exact e2 t A,by simp[Tr.N,e3]⟩
  ·match ts,e1,e2,e3 with
   | [],e1,_,_=>simp at e1;omega
   | a::ts,e1,e2,e3=>
    refine⟨.one x a::ts,by simp at e1⊢;omega,?_,by simp[Tr.N,e3]⟩;intro t A;rcases List.mem_cons.1 A with rfl|A
    ·exact⟨hx,B,e2 a (by simp)⟩
    ·exact e2 t (by simp[A])
  ·match ts,e1,e2,e3 with
   | [],e1,_,_=>simp at e1;omega
   | [a],e1,_,_=>simp at e1;omega
   | a::b::ts,e1,e2,e3=>
    refine⟨.two x a b::ts,by simp at e1⊢;omega,?_,by simp[Tr.N,e3]⟩;intro t A;rcases List.mem_cons.1 A with rfl|A
    ·exact⟨hx,B,e2 a (by simp),e2 b (by simp)⟩
    ·exact e2 t (by simp[A])
theorem z2v:∀(t:Tr)(r:List Nd)(m:Nat),t.Wf->cnt (t.N++r) (m+1)=(cnt r m).map (t.N.length+·)
 | .leaf x,r,m,h=>by
  simp only[Tr.N,List.cons_append,List.nil_append,q4q,h.2,Nat.zero_add,List.length_cons,List.length_nil];cases cnt r m<;>simp[Nat.add_comm]
 | .one x a,r,m,h=>by
  simp only[Tr.N,List.cons_append,q4q,h.2.1,Nat.add_comm 1 m,z2v a r m h.2.2,List.length_cons];cases cnt r m<;>simp;omega
 | .two x a b,r,m,h=>by
  simp only[Tr.N,List.cons_append,List.append_assoc,q4q,h.2.1,show 2+m=(m+1)+1 by omega,z2v a (b.N++r) (m+1) h.2.2.1,z2v b r m h.2.2.2,List.length_cons,List.length_append];cases cnt r m<;>simp;omega
theorem Tr.pos:∀t:Tr,0<t.N.length
 | .leaf _=>by simp[Tr.N]
 | .one _ _=>by simp[Tr.N]
 | .two _ _ _=>by simp[Tr.N]
theorem q4u{ds:List Nd}{i:Nat}{t:Tr}{r:List Nd}(h:t.Wf)(hd:ds.drop i=t.N++r):q0o ds i 1=some (i+t.N.length):=by
 rw[q0o,hd,z2v t r 0 h,q8i];rfl
theorem v0j{ds:List Nd}{i j:Nat}(hn:∀x∈ds,q1b x=0)(h:q0o ds i 1=some j):∃t:Tr,t.Wf/\ds.drop i=t.N++ds.drop j/\j=i+t.N.length:=by
 rw[q0o,Option.map_eq_some_iff]at h;obtain⟨k,D,rfl⟩:=h;obtain⟨G,E,A,B⟩:=y5v _ _ _ (fun x hx=>hn x (List.mem_of_mem_drop hx)) D
 match G,E,A,B with
 | [t],_,A,B=>
  have C:(ds.drop i).take k=t.N:=by simpa using B
  have H:=j3f _ _ _ D;refine⟨t,A t (by simp),?_,?_⟩
  ·rw[<-C,<-List.drop_drop,List.take_append_drop]
  ·rw[<-C,List.length_take];omega
theorem z8c{ds:List Nd}(h:q3d ds=0):∃t:Tr,t.Wf/\ds=t.N:=by
 obtain⟨_,B,C⟩:=q5c h;obtain⟨t,D,A,E⟩:=v0j B C;refine⟨t,D,?_⟩;rw[List.drop_zero,List.drop_length,List.append_nil]at A;exact A
theorem z0y{t:Tr}(h:t.Wf)(hl:t.N.length<=400):q3d t.N=0:=by
 refine y0v hl ?_ ?_
 ·clear hl
  induction t with
  | leaf x=>intro y A;simp[Tr.N]at A;subst A;exact h.1
  | one x a ih=>
   intro y A;rcases List.mem_cons.1 A with rfl|A
   ·exact h.1
   ·exact ih h.2.2 y A
  | two x a b ia ib=>
   intro y A;rcases List.mem_cons.1 A with rfl|A
   ·exact h.1
   ·rcases List.mem_append.1 A with A|A
    ·exact ia h.2.2.1 y A
    ·exact ib h.2.2.2 y A
 ·have:=q4u (ds:=t.N) (i:=0) (r:=[]) h (by simp)
  simpa using this
theorem q2c{x:Nd}(h:q1b x=0):1<=x.op/\x.op<=9/\(x.op=1\/x.tx.size=0)/\(x.op=7\/x.n=0)/\(x.op=1->isW x.tx=true)/\(x.op=7->0<=x.n/\x.n<=8):=by
 unfold q1b at h
 split at h
 ·cases h
 split at h
 ·cases h
 split at h
 ·cases h
 split at h
 ·cases h
 rename_i h1 h2 h3 h4;refine⟨by omega,by omega,by omega,by omega,?_,by omega⟩;intro A;cases B:isW x.tx with
 | true=>rfl
 | false=>exact absurd ⟨A,B⟩ h3
theorem q4d{s:ByteArray}(h:isW s=true):1<=s.size/\s.size<=20:=by
 simp[isW]at h;omega
theorem q0x(s:ByteArray):s.data.toList.length=s.size:=(Lib.size_eq s).symm
theorem q3y{x:Nd}(h:q1b x=0)(hp:pts x.op=0):x.op=1\/x.op=2\/x.op=3\/x.op=4\/x.op=5:=by
 have:=q2c h
 unfold pts at hp
 split at hp
 ·cases hp
 split at hp
 ·cases hp
 omega
theorem q7y{x:Nd}(hp:pts x.op=1):x.op=7\/x.op=8:=by
 unfold pts at hp
 split at hp
 ·cases hp
 split at hp
 ·omega
 ·cases hp
theorem q7k{x:Nd}(hp:pts x.op=2):x.op=6\/x.op=9:=by
 unfold pts at hp
 split at hp
 ·omega
 split at hp<;>cases hp
theorem q6c{a b:ByteArray}(h:a.data.toList=b.data.toList):a=b:=by
 cases a;cases b;simp only[ByteArray.mk.injEq];exact Array.toList_inj.1 h
theorem k2l{a:ByteArray}(h:a.size=0):a=⟨#[]⟩:=q6c (by
 have:=q0x a
 rw[h]at this
 rw[List.eq_nil_of_length_eq_zero this])
def Tr.flat:Tr->Option (List UInt8)
 | .leaf x=>if x.op=1 then some x.tx.data.toList else if x.op=2 then some [32]else if x.op=4 then none else some []
 | .one _ a=>a.flat
 | .two x a b=>if x.op=6 then(match a.flat,b.flat with|some s,some t=>some (s++t)|_,_=>none)else a.flat
def Tr.line(t:Tr):ByteArray:=⟨(t.flat.getD []).toArray⟩
def Tr.isFlat(t:Tr):Bool:=t.flat.isSome
theorem z4f(t:Tr):t.line.data.toList=t.flat.getD []:=by simp[Tr.line]
theorem q7w(t:Tr):t.line.size=(t.flat.getD []).length:=by rw[<-q0x,z4f]
theorem q7r:∀t:Tr,t.Wf->(t.flat.getD []).length<=20*t.N.length
 | .leaf x,h=>by
  obtain⟨_,_,_,_,h5,_⟩:=q2c h.1;simp only[Tr.flat,Tr.N]
  split
  ·rename_i h1
   have:=q4d (h5 h1)
   have e:=q0x x.tx;simp only[Option.getD_some,List.length_cons,List.length_nil];omega
  ·repeat' split
   all_goals simp
 | .one x a,h=>by
  have:=q7r a h.2.2
  simp only[Tr.flat,Tr.N,List.length_cons];omega
 | .two x a b,h=>by
  have h1:=q7r a h.2.2.1;have h2:=q7r b h.2.2.2;simp only[Tr.flat,Tr.N,List.length_cons,List.length_append]
  split
  ·cases ha:a.flat with
   | none=>simp
   | some s=>
    cases hb:b.flat with
    | none=>simp
    | some t=>
     rw[ha]at h1;rw[hb]at h2;simp only[Option.getD_some]at h1 h2⊢;rw[List.length_append];omega
  ·omega
theorem q7s:∀(t:Tr)(s:List UInt8),t.Wf->t.flat=some s->∀b∈s,b≠10
 | .leaf x,s,h,e=>by
  obtain⟨_,_,_,_,h5,_⟩:=q2c h.1;simp only[Tr.flat]at e
  split at e
  ·rename_i h1;cases e;have hw:=h5 h1;simp only[isW,Bool.and_eq_true,List.all_eq_true]at hw;intro b hb hc
   have:=hw.2 b hb
   subst hc;simp[q5x]at this
  ·split at e
   ·cases e;simp
   ·split at e
    ·cases e
    ·cases e;simp
 | .one x a,s,h,e=>q7s a s h.2.2 e
 | .two x a b,s,h,e=>by
  simp only[Tr.flat]at e
  split at e
  ·cases ha:a.flat with
   | none=>rw[ha]at e;cases e
   | some u=>
    cases hb:b.flat with
    | none=>rw[ha,hb]at e;cases e
    | some v=>
     rw[ha,hb]at e;cases e;intro c hc;rcases List.mem_append.1 hc with hc|hc
     ·exact q7s a u h.2.2.1 ha c hc
     ·exact q7s b v h.2.2.2 hb c hc
  ·exact q7s a s h.2.2.1 e
end Go.Proofs.YthcpdohdppkmkaaGreatDoor
