import Derived.Test.YtfdppahhbpfnoaaGreatDoorPi01
open Go.Proofs.Tryz
namespace Go.Proofs.YtfdppahhbpfnoaaGreatDoor
open Go Go.RowKit
inductive Fo where
 | nil:Fo
 | cons (x:Td) (k n:Fo):Fo
def Fo.len:Fo->Nat
 | .nil=>0
 | .cons _ _ n=>n.len+1
def Fo.N:Fo->List Td
 | .nil=>[]
 | .cons x k n=>x::(k.N++n.N)
def Fo.ok:Fo->Prop
 | .nil=>True
 | .cons x k n=>k.len=kdT x/\k.ok/\n.ok
def Fo.app:Fo->Fo->Fo
 | .nil,g=>g
 | .cons x k n,g=>.cons x k (n.app g)
theorem y0e:∀(l:Nat)(ds:List Td)(m k:Nat),ds.length<=l->z5y ds m=some k->∃F:Fo,F.ok/\F.len=m/\F.N=ds.take k
 | l,ds,0,k,_,h=>by
  rw[q7v]at h;cases h;exact⟨.nil,trivial,rfl,by simp[Fo.N]⟩
 | 0,ds,m+1,k,hl,h=>by
  have:ds=[]:=List.eq_nil_of_length_eq_zero (by omega)
  subst this;rw[q8m]at h;cases h
 | l+1,[],m+1,k,hl,h=>by rw[q8m]at h;cases h
 | l+1,x::r,m+1,k,hl,h=>by
  rw[q5c,Option.map_eq_some_iff]at h;obtain⟨j,h1,rfl⟩:=h;rw[z7y]at h1;cases h2:z5y r (kdT x)with
  | none=>rw[h2]at h1;cases h1
  | some a=>
   rw[h2,Option.bind_some,Option.map_eq_some_iff]at h1;obtain⟨b,h3,rfl⟩:=h1;obtain⟨K,k1,k2,k3⟩:=y0e l r (kdT x) a (by simp at hl;omega) h2;obtain⟨N,n1,n2,n3⟩:=y0e l (r.drop a) m b (by simp at hl⊢;omega) h3;refine⟨.cons x K N,⟨k2,k1,n1⟩,by simp[Fo.len,n2],?_⟩;have ha:=(k3g _ _ _ h2).2;rw[Fo.N,k3,n3,List.take_succ_cons,List.cons.injEq];refine⟨rfl,?_⟩;rw[List.take_add]
theorem j4l:∀(F:Fo),F.ok->∀(r:List Td)(m:Nat),z5y (F.N++r) (F.len+m)=(z5y r m).map (F.N.length+·)
 | .nil,_,r,m=>by simp[Fo.N,Fo.len]
 | .cons x k n,h,r,m=>by
  have e1:=j4l n h.2.2 r m;have e2:=j4l k h.2.1 (n.N++r) (n.len+m);rw[e1,h.1]at e2;have e3:(Fo.cons x k n).len+m=(n.len+m)+1:=by simp only[Fo.len];omega
  rw[e3,Fo.N,List.cons_append,q5c,List.append_assoc,e2];cases z5y r m with
  | none=>rfl
  | some j=>simp;omega
abbrev Wd:=List UInt8
def q7t(n:Nat):Wd:=if h:n<=9 then [UInt8.ofNat (48+n)]else q7t (n / 10)++[UInt8.ofNat (48+n % 10)]
termination_by n
decreasing_by omega
def z8x(w:Wd):Nat:=w.foldl (fun a c=>a*10+(c.toNat-48)) 0
theorem v9v{n:Nat}(h:n<=9):(UInt8.ofNat (48+n)).toNat=48+n:=by
 rw[UInt8.toNat_ofNat'];omega
theorem v2d(n:Nat):∀c∈q7t n,q1w c=true:=by
 induction n using Nat.strongRecOn with
 | ind n ih=>
  have B:∀k,k<=9->q1w (UInt8.ofNat (48+k))=true:=fun k hk=>by
   simp only[q1w,v9v hk];simp;omega
  rw[q7t]
  split
  ·rename_i h;intro c A;rw[List.mem_singleton]at A;rw[A];exact B n h
  ·rename_i h;intro c A;rcases List.mem_append.1 A with A|A
   ·exact ih (n / 10) (by omega) c A
   ·rw[List.mem_singleton]at A;rw[A];exact B _ (by omega)
theorem v9t(n:Nat):q7t n≠[]:=by
 rw[q7t]
 split<;>simp
theorem z8b:∀(k n:Nat),n<10 ^ (k+1)->(q7t n).length<=k+1
 | k,n,h=>by
  rw[q7t]
  split
  ·simp
  ·rename_i h9;cases k with
   | zero=>simp at h;omega
   | succ k=>
    have:=z8b k (n / 10) (by rw[Nat.pow_succ]at h;omega)
    simp only[List.length_append,List.length_cons,List.length_nil];omega
structure Tn where
 x:Td
 ns:List Td
 tk:List Wd
 tx:List UInt8
def prc(x:Td):Nat:=if x.op=5 then 0 else if x.op=6 then 1 else 2
def brk(l:Nat)(t:Tn):List Wd:=if prc t.x<l then [40]::(t.tk++[[41]])else t.tk
def brx(l:Nat)(t:Tn):List UInt8:=if prc t.x<l then 40::(t.tx++[41])else t.tx
def cmk:List Tn->List Wd
 | []=>[]
 | t::r=>t.tk++match r with
  | []=>[]
  | _::_=>[44]::cmk r
def cmx:List Tn->List UInt8
 | []=>[]
 | t::r=>t.tx++match r with
  | []=>[]
  | _::_=>44::32::cmx r
def two2{α:Type}(f:Tn->Tn->List α):List Tn->List α
 | [a,b]=>f a b
 | _=>[]
def y9i(x:Td)(ks:List Tn):List Wd:=
 if x.op=1 then [q7t x.n.toNat]
 else if x.op=2 then [btL x.tx]
 else if x.op=3 then btL x.tx::[40]::(cmk ks++[[41]])
 else if x.op=4 then [91]::(cmk ks++[[93]])
 else if x.op=5 then two2 (fun a b=>brk 0 a++[43]::brk 1 b) ks
 else two2 (fun a b=>brk 1 a++[42]::brk 2 b) ks
def k8b(x:Td)(ks:List Tn):List UInt8:=
 if x.op=1 then q7t x.n.toNat
 else if x.op=2 then btL x.tx
 else if x.op=3 then btL x.tx++40::(cmx ks++[41])
 else if x.op=4 then 91::(cmx ks++[93])
 else if x.op=5 then two2 (fun a b=>brx 0 a++32::43::32::brx 1 b) ks
 else two2 (fun a b=>brx 1 a++32::42::32::brx 2 b) ks
def y8o(x:Td)(ks:List Tn):Tn:=⟨x,x::ks.flatMap (·.ns),y9i x ks,k8b x ks⟩
def Fo.R:Fo->List Tn
 | .nil=>[]
 | .cons x k n=>y8o x k.R::n.R
def exN(x:Td):Prop:=q0p x=0/\x.op<7
def Fo.exs(F:Fo):Prop:=∀x∈F.N,exN x
theorem q6f{x:Td}(h:exN x):(x.op=1/\x.tx=⟨#[]⟩/\0<=x.n/\x.n<=999999/\kdT x=0)\/(x.op=2/\q0o x.tx=true/\x.n=0/\kdT x=0)
  \/(x.op=3/\q0o x.tx=true/\0<=x.n/\x.n<=6/\kdT x=x.n.toNat)\/(x.op=4/\x.tx=⟨#[]⟩/\0<=x.n/\x.n<=6/\kdT x=x.n.toNat)
  \/(x.op=5/\x.tx=⟨#[]⟩/\x.n=0/\kdT x=2)\/(x.op=6/\x.tx=⟨#[]⟩/\x.n=0/\kdT x=2):=by
 obtain⟨A,G⟩:=h
 have B:∀s:ByteArray,¬0<s.size->s=⟨#[]⟩:=fun s hs=>by
  apply ByteArray.ext;apply Array.toList_inj.1;exact List.eq_nil_of_length_eq_zero (by have:=q0c s;simp only[btL]at this;omega)
 unfold q0p at A
 split at A
 ·cases A
 ·rename_i h1
  split at A
  ·cases A
  ·rename_i h2
   split at A
   ·cases A
   ·rename_i h3;have D:¬x.op=9:=by omega
    rw[if_neg D]at A
    split at A
    ·cases A
    ·rename_i h4;have E:x.op=1\/x.op=2\/x.op=3\/x.op=4\/x.op=5\/x.op=6:=by omega
     rcases E with e|e|e|e|e|e
     ·refine .inl ⟨e,B _ (fun hh=>h3 (.inr ⟨by rw[e];rfl,hh⟩)),by omega,by omega,by unfold kdT;rw[e];rfl⟩
     ·refine .inr (.inl ⟨e,?_,by omega,by unfold kdT;rw[e];rfl⟩);cases C:q0o x.tx with
      | true=>rfl
      | false=>exact absurd ⟨by rw[e];rfl,C⟩ h4
     ·refine .inr (.inr (.inl ⟨e,?_,by omega,by omega,by unfold kdT;rw[if_pos (.inl e)]⟩));cases C:q0o x.tx with
      | true=>rfl
      | false=>exact absurd ⟨by rw[e];rfl,C⟩ h4
     ·exact .inr (.inr (.inr (.inl ⟨e,B _ (fun hh=>h3 (.inr ⟨by rw[e];rfl,hh⟩)),by omega,by omega,by unfold kdT;rw[if_pos (.inr e)]⟩)))
     ·exact .inr (.inr (.inr (.inr (.inl ⟨e,B _ (fun hh=>h3 (.inr ⟨by rw[e];rfl,hh⟩)),by omega,by unfold kdT;rw[e];rfl⟩))))
     ·exact .inr (.inr (.inr (.inr (.inr ⟨e,B _ (fun hh=>h3 (.inr ⟨by rw[e];rfl,hh⟩)),by omega,by unfold kdT;rw[e];rfl⟩))))
inductive Job where
 | level (k:Nat):Job
 | loop (k:Nat) (acc:List Td):Job
 | single:Job
 | args (e:Wd) (n:Nat) (acc:List Td):Job
inductive Rs where
 | ok (n:Nat) (ns:List Td) (rest:List Wd):Rs
 | bad (rest:List Wd):Rs
def sgn(k:Nat):Wd:=if k=0 then [43]else [42]
def sgT(k:Nat):Td:=⟨5+k,⟨#[]⟩,0⟩
def z0j(w:Wd):Bool:=q1w (w.headD 0)
def nmW(w:Wd):Bool:=q0o (wbS w)
def y4f(w:Wd):Td:=⟨1,⟨#[]⟩,(z8x w:Nat)⟩
def nmT(w:Wd):Td:=⟨2,wbS w,0⟩
def clT(w:Wd)(n:Nat):Td:=⟨3,wbS w,(n:Nat)⟩
def lsT(n:Nat):Td:=⟨4,⟨#[]⟩,(n:Nat)⟩
inductive PR:Job->List Wd->Rs->Prop where
 | lev2 {ts r}:PR .single ts r->PR (.level 2) ts r
 | levB {k ts u}:k<2->PR (.level (k+1)) ts (.bad u)->PR (.level k) ts (.bad u)
 | levO {k ts m ns u r}:k<2->PR (.level (k+1)) ts (.ok m ns u)->PR (.loop k ns) u r->PR (.level k) ts r
 | lopE {k acc ts}:ts.head?≠some (sgn k)->PR (.loop k acc) ts (.ok 0 acc ts)
 | lopB {k acc ts u}:PR (.level (k+1)) ts (.bad u)->PR (.loop k acc) (sgn k::ts) (.bad u)
 | lopO {k acc ts m ns u r}:PR (.level (k+1)) ts (.ok m ns u)->PR (.loop k (sgT k::(acc++ns))) u r->PR (.loop k acc) (sgn k::ts) r
 | sinN:PR .single [] (.bad [])
 | sPB {ts u}:PR (.level 0) ts (.bad u)->PR .single ([40]::ts) (.bad u)
 | sPC {ts m ns u}:PR (.level 0) ts (.ok m ns ([41]::u))->PR .single ([40]::ts) (.ok 0 ns u)
 | sPX {ts m ns u}:PR (.level 0) ts (.ok m ns u)->u.head?≠some [41]->PR .single ([40]::ts) (.bad u)
 | sLB {ts u}:PR (.args [93] 0 []) ts (.bad u)->PR .single ([91]::ts) (.bad u)
 | sLO {ts n ns u}:PR (.args [93] 0 []) ts (.ok n ns u)->PR .single ([91]::ts) (.ok 0 (lsT n::ns) u)
 | sNum {w ts}:z0j w=true->PR .single (w::ts) (.ok 0 [y4f w] ts)
 | sName {w ts}:nmW w=true->ts.head?≠some [40]->PR .single (w::ts) (.ok 0 [nmT w] ts)
 | sCB {w ts u}:nmW w=true->PR (.args [41] 0 []) ts (.bad u)->PR .single (w::[40]::ts) (.bad u)
 | sCO {w ts n ns u}:nmW w=true->PR (.args [41] 0 []) ts (.ok n ns u)->PR .single (w::[40]::ts) (.ok 0 (clT w n::ns) u)
 | sBad {w ts}:w≠[40]->w≠[91]->z0j w=false->nmW w=false->PR .single (w::ts) (.bad (w::ts))
 | aEnd {e n acc ts}:PR (.args e n acc) (e::ts) (.ok n acc ts)
 | aSep {e n acc ts}:ts.head?≠some e->ts.head?≠some [44]->PR (.args e (n+1) acc) ts (.bad ts)
 | aB0 {e acc ts u}:ts.head?≠some e->PR (.level 0) ts (.bad u)->PR (.args e 0 acc) ts (.bad u)
 | aO0 {e acc ts m ns u r}:ts.head?≠some e->PR (.level 0) ts (.ok m ns u)->PR (.args e 1 (acc++ns)) u r->PR (.args e 0 acc) ts r
 | aB {e n acc ts u}:e≠[44]->PR (.level 0) ts (.bad u)->PR (.args e (n+1) acc) ([44]::ts) (.bad u)
 | aO {e n acc ts m ns u r}:e≠[44]->PR (.level 0) ts (.ok m ns u)->PR (.args e (n+2) (acc++ns)) u r->PR (.args e (n+1) acc) ([44]::ts) r
theorem q3g{w:Wd}(h:z0j w=true):nmW w=false:=by
 cases A:nmW w with
 | false=>rfl
 | true=>
  exfalso;unfold nmW q0o at A;simp only[Bool.and_eq_true,List.all_eq_true,decide_eq_true_eq]at A;cases w with
  | nil=>simp[wbS,ByteArray.size]at A
  | cons c z=>
   have B:=A.2 c (by show c∈(c::z);simp);have C:q1w c=true:=h
   have:=k3o C
   rw[B]at this;cases this
theorem v7w:z0j [40]=false:=by decide
theorem v7x:z0j [91]=false:=by decide
theorem k4g:nmW [40]=false:=by decide
theorem k4h:nmW [91]=false:=by decide
theorem q3h{j:Job}{ts:List Wd}{r:Rs}(h:PR j ts r):∀{r':Rs},PR j ts r'->r=r':=by
 have D:=v7w;have E:=v7x;have B:=k4g;have C:=k4h
 induction h with
 | lev2 _ ih=>intro r' A;cases A with
  | lev2 h2=>exact ih h2
  | levB h0=>omega
  | levO h0=>omega
 | levB h0 _ ih=>intro r' A;cases A with
  | lev2 h2=>omega
  | levB _ h2=>exact ih h2
  | levO _ h2 _=>cases ih h2
 | levO h0 _ _ ih1 ih2=>intro r' A;cases A with
  | lev2 h2=>omega
  | levB _ h2=>cases ih1 h2
  | levO _ h2 h3=>cases ih1 h2;exact ih2 h3
 | lopE h0=>intro r' A;cases A with
  | lopE _=>rfl
  | lopB _=>simp at h0
  | lopO _ _=>simp at h0
 | lopB _ ih=>intro r' A;cases A with
  | lopE h0=>simp at h0
  | lopB h2=>exact ih h2
  | lopO h2 _=>cases ih h2
 | lopO _ _ ih1 ih2=>intro r' A;cases A with
  | lopE h0=>simp at h0
  | lopB h2=>cases ih1 h2
  | lopO h2 h3=>cases ih1 h2;exact ih2 h3
 | sinN=>intro r' A;cases A;rfl
 | sPB _ ih=>intro r' A;cases A with
  | sPB h2=>exact ih h2
  | sPC h2=>cases ih h2
  | sPX h2 _=>cases ih h2
  | sNum h2=>rw[D]at h2;cases h2
  | sName h2 _=>rw[B]at h2;cases h2
  | sCB h2 _=>rw[B]at h2;cases h2
  | sCO h2 _=>rw[B]at h2;cases h2
  | sBad h2=>exact absurd rfl h2
 | sPC _ ih=>intro r' A;cases A with
  | sPB h2=>cases ih h2
  | sPC h2=>cases ih h2;rfl
  | sPX h2 h3=>cases ih h2;simp at h3
  | sNum h2=>rw[D]at h2;cases h2
  | sName h2 _=>rw[B]at h2;cases h2
  | sCB h2 _=>rw[B]at h2;cases h2
  | sCO h2 _=>rw[B]at h2;cases h2
  | sBad h2=>exact absurd rfl h2
 | sPX _ h0 ih=>intro r' A;cases A with
  | sPB h2=>cases ih h2
  | sPC h2=>cases ih h2;simp at h0
  | sPX h2 h3=>cases ih h2;rfl
  | sNum h2=>rw[D]at h2;cases h2
  | sName h2 _=>rw[B]at h2;cases h2
  | sCB h2 _=>rw[B]at h2;cases h2
  | sCO h2 _=>rw[B]at h2;cases h2
  | sBad h2=>exact absurd rfl h2
 | sLB _ ih=>intro r' A;cases A with
  | sLB h2=>exact ih h2
  | sLO h2=>cases ih h2
  | sNum h2=>rw[E]at h2;cases h2
  | sName h2 _=>rw[C]at h2;cases h2
  | sCB h2 _=>rw[C]at h2;cases h2
  | sCO h2 _=>rw[C]at h2;cases h2
  | sBad _ h2=>exact absurd rfl h2
 | sLO _ ih=>intro r' A;cases A with
  | sLB h2=>cases ih h2
  | sLO h2=>cases ih h2;rfl
  | sNum h2=>rw[E]at h2;cases h2
  | sName h2 _=>rw[C]at h2;cases h2
  | sCB h2 _=>rw[C]at h2;cases h2
  | sCO h2 _=>rw[C]at h2;cases h2
  | sBad _ h2=>exact absurd rfl h2
 | sNum h0=>
  have G:=q3g h0;intro r' A;cases A with
  | sPB h2=>rw[D]at h0;cases h0
  | sPC h2=>rw[D]at h0;cases h0
  | sPX h2 h3=>rw[D]at h0;cases h0
  | sLB h2=>rw[E]at h0;cases h0
  | sLO h2=>rw[E]at h0;cases h0
  | sNum h2=>rfl
  | sName h2 _=>rw[G]at h2;cases h2
  | sCB h2 _=>rw[G]at h2;cases h2
  | sCO h2 _=>rw[G]at h2;cases h2
  | sBad _ _ h2=>rw[h0]at h2;cases h2
 | sName h0 h1=>
  intro r' A;cases A with
  | sPB h2=>rw[B]at h0;cases h0
  | sPC h2=>rw[B]at h0;cases h0
  | sPX h2 h3=>rw[B]at h0;cases h0
  | sLB h2=>rw[C]at h0;cases h0
  | sLO h2=>rw[C]at h0;cases h0
  | sNum h2=>rw[q3g h2]at h0;cases h0
  | sName h2 _=>rfl
  | sCB h2 _=>simp at h1
  | sCO h2 _=>simp at h1
  | sBad _ _ _ h2=>rw[h0]at h2;cases h2
 | sCB h0 _ ih=>
  intro r' A;cases A with
  | sPB h2=>rw[B]at h0;cases h0
  | sPC h2=>rw[B]at h0;cases h0
  | sPX h2 h3=>rw[B]at h0;cases h0
  | sLB h2=>rw[C]at h0;cases h0
  | sLO h2=>rw[C]at h0;cases h0
  | sNum h2=>rw[q3g h2]at h0;cases h0
  | sName _ h2=>simp at h2
  | sCB _ h2=>exact ih h2
  | sCO _ h2=>cases ih h2
  | sBad _ _ _ h2=>rw[h0]at h2;cases h2
 | sCO h0 _ ih=>
  intro r' A;cases A with
  | sPB h2=>rw[B]at h0;cases h0
  | sPC h2=>rw[B]at h0;cases h0
  | sPX h2 h3=>rw[B]at h0;cases h0
  | sLB h2=>rw[C]at h0;cases h0
  | sLO h2=>rw[C]at h0;cases h0
  | sNum h2=>rw[q3g h2]at h0;cases h0
  | sName _ h2=>simp at h2
  | sCB _ h2=>cases ih h2
  | sCO _ h2=>cases ih h2;rfl
  | sBad _ _ _ h2=>rw[h0]at h2;cases h2
 | sBad h0 h1 h3 h4=>
  intro r' A;cases A with
  | sPB h2=>exact absurd rfl h0
  | sPC h2=>exact absurd rfl h0
  | sPX h2 _=>exact absurd rfl h0
  | sLB h2=>exact absurd rfl h1
  | sLO h2=>exact absurd rfl h1
  | sNum h2=>rw[h3]at h2;cases h2
  | sName h2 _=>rw[h4]at h2;cases h2
  | sCB h2 _=>rw[h4]at h2;cases h2
  | sCO h2 _=>rw[h4]at h2;cases h2
  | sBad _ _ _ h2=>rfl
 | aEnd=>
  intro r' A;cases A with
  | aEnd=>rfl
  | aSep h2 _=>simp at h2
  | aB0 h2 _=>simp at h2
  | aO0 h2 _ _=>simp at h2
  | aB h2 _=>exact absurd rfl h2
  | aO h2 _ _=>exact absurd rfl h2
 | aSep h0 h1=>
  intro r' A;cases A with
  | aEnd=>simp at h0
  | aSep h2 _=>rfl
  | aB h2 _=>simp at h1
  | aO h2 _ _=>simp at h1
 | aB0 h0 _ ih=>
  intro r' A;cases A with
  | aEnd=>simp at h0
  | aB0 _ h2=>exact ih h2
  | aO0 _ h2 _=>cases ih h2
 | aO0 h0 _ _ ih1 ih2=>
  intro r' A;cases A with
  | aEnd=>simp at h0
  | aB0 _ h2=>cases ih1 h2
  | aO0 _ h2 h3=>cases ih1 h2;exact ih2 h3
 | aB h0 _ ih=>
  intro r' A;cases A with
  | aEnd=>exact absurd rfl h0
  | aSep _ h2=>simp at h2
  | aB _ h2=>exact ih h2
  | aO _ h2 _=>cases ih h2
 | aO h0 _ _ ih1 ih2=>
  intro r' A;cases A with
  | aEnd=>exact absurd rfl h0
  | aSep _ h2=>simp at h2
  | aB _ h2=>cases ih1 h2
  | aO _ h2 h3=>cases ih1 h2;exact ih2 h3
def Rs.rest:Rs->List Wd
 | .ok _ _ u=>u
 | .bad u=>u
def Job.eats:Job->Nat
 | .level _=>1
 | .single=>1
 | _=>0
theorem q2t{α:Type}{u ts:List α}(w:α)(h:u <:+ ts):u <:+ w::ts:=h.trans (List.suffix_cons w ts)
theorem q5i{j:Job}{ts:List Wd}{r:Rs}(h:PR j ts r):r.rest <:+ ts/\∀m ns u,r=.ok m ns u->u.length+j.eats<=ts.length:=by
 induction h with
 | lev2 _ ih=>exact ih
 | levB _ _ ih=>exact⟨ih.1,fun _ _ _ e=>by cases e⟩
 | levO _ _ _ ih1 ih2=>
  have A:=ih1.2 _ _ _ rfl;refine⟨ih2.1.trans ih1.1,fun m ns u e=>?_⟩;have B:=ih2.2 _ _ _ e;simp only[Job.eats]at A B⊢;omega
 | lopE _=>exact⟨List.suffix_refl _,fun _ _ _ e=>by cases e;simp[Job.eats]⟩
 | lopB _ ih=>exact⟨q2t _ ih.1,fun _ _ _ e=>by cases e⟩
 | lopO _ _ ih1 ih2=>
  have A:=ih1.2 _ _ _ rfl;refine⟨q2t _ (ih2.1.trans ih1.1),fun m ns u e=>?_⟩;have B:=ih2.2 _ _ _ e;simp only[Job.eats,List.length_cons]at A B⊢;omega
 | sinN=>exact⟨List.suffix_refl _,fun _ _ _ e=>by cases e⟩
 | sPB _ ih=>exact⟨q2t _ ih.1,fun _ _ _ e=>by cases e⟩
 | sPC _ ih=>
  have A:=ih.2 _ _ _ rfl;refine⟨q2t _ ((List.suffix_cons _ _).trans ih.1),fun m ns u e=>?_⟩;cases e;simp only[Job.eats,List.length_cons]at A⊢;omega
 | sPX _ _ ih=>exact⟨q2t _ ih.1,fun _ _ _ e=>by cases e⟩
 | sLB _ ih=>exact⟨q2t _ ih.1,fun _ _ _ e=>by cases e⟩
 | sLO _ ih=>
  have A:=ih.2 _ _ _ rfl;refine⟨q2t _ ih.1,fun m ns u e=>?_⟩;cases e;simp only[Job.eats,List.length_cons]at A⊢;omega
 | sNum _=>exact⟨List.suffix_cons _ _,fun _ _ _ e=>by cases e;simp[Job.eats]⟩
 | sName _ _=>exact⟨List.suffix_cons _ _,fun _ _ _ e=>by cases e;simp[Job.eats]⟩
 | sCB _ _ ih=>exact⟨q2t _ (q2t _ ih.1),fun _ _ _ e=>by cases e⟩
 | sCO _ _ ih=>
  have A:=ih.2 _ _ _ rfl;refine⟨q2t _ (q2t _ ih.1),fun m ns u e=>?_⟩;cases e;simp only[Job.eats,List.length_cons]at A⊢;omega
 | sBad _ _ _ _=>exact⟨List.suffix_refl _,fun _ _ _ e=>by cases e⟩
 | aEnd=>exact⟨List.suffix_cons _ _,fun _ _ _ e=>by cases e;simp[Job.eats]⟩
 | aSep _ _=>exact⟨List.suffix_refl _,fun _ _ _ e=>by cases e⟩
 | aB0 _ _ ih=>exact⟨ih.1,fun _ _ _ e=>by cases e⟩
 | aO0 _ _ _ ih1 ih2=>
  have A:=ih1.2 _ _ _ rfl;refine⟨ih2.1.trans ih1.1,fun m ns u e=>?_⟩;have B:=ih2.2 _ _ _ e;simp only[Job.eats]at A B⊢;omega
 | aB _ _ ih=>exact⟨q2t _ ih.1,fun _ _ _ e=>by cases e⟩
 | aO _ _ _ ih1 ih2=>
  have A:=ih1.2 _ _ _ rfl;refine⟨q2t _ (ih2.1.trans ih1.1),fun m ns u e=>?_⟩;have B:=ih2.2 _ _ _ e;simp only[Job.eats,List.length_cons]at A B⊢;omega
theorem q5q{s:ByteArray}(h:q0o s=true):(btL s).length<=8:=by
 unfold q0o at h;simp only[Bool.and_eq_true,decide_eq_true_eq]at h;rw[q0c];exact h.1.1.2
def Fo.tk:Nat->Fo->Fo
 | 0,_=>.nil
 | _+1,.nil=>.nil
 | k+1,.cons x a n=>.cons x a (Fo.tk k n)
def Fo.dp:Nat->Fo->Fo
 | 0,f=>f
 | _+1,.nil=>.nil
 | k+1,.cons _ _ n=>Fo.dp k n
theorem k3w:∀f g:Fo,Fo.tk f.len (f.app g)=f
 | .nil,g=>by cases g<;>rfl
 | .cons x k n,g=>by simp only[Fo.len,Fo.app,Fo.tk,k3w n g]
theorem k3q:∀f g:Fo,Fo.dp f.len (f.app g)=g
 | .nil,g=>by cases g<;>rfl
 | .cons x k n,g=>by simp only[Fo.len,Fo.app,Fo.dp,k3q n g]
theorem z1t:∀f:Fo,f.app .nil=f
 | .nil=>rfl
 | .cons x k n=>by simp only[Fo.app,z1t n]
def j2n:List Td->Fo
 | []=>.nil
 | x::r=>.cons x (Fo.tk (kdT x) (j2n r)) (Fo.dp (kdT x) (j2n r))
theorem z7v:∀(F:Fo),F.ok->∀r,j2n (F.N++r)=F.app (j2n r)
 | .nil,_,r=>rfl
 | .cons x k n,h,r=>by
  have e1:=z7v n h.2.2 r;have e2:=z7v k h.2.1 (n.N++r);rw[Fo.N,List.cons_append,List.append_assoc,j2n,e2,e1,<-h.1,k3w,k3q];rfl
theorem k8p(F:Fo)(h:F.ok):j2n F.N=F:=by
 have:=z7v F h []
 rw[List.append_nil]at this;rw[this];exact z1t F
theorem z9j{ds:List Td}(h:q0b ds=0):(∃x,ds=[x]/\x.op=9/\x.n=0/\q2x x.tx=0)\/
  (∃(x:Td)(F:Fo),ds=x::F.N/\F.ok/\F.exs/\F.len=1/\((x.op=7/\q0o x.tx=true/\x.n=0)\/(x.op=8/\x.tx=⟨#[]⟩/\x.n=0))):=by
 obtain⟨_,Q,H,R⟩:=q4y h;cases ds with
 | nil=>rw[q8o [] 0 0 (by simp)]at H;cases H
 | cons x r=>
  have B:=Q x (by simp);simp only[k5h,Bool.and_eq_true,decide_eq_true_eq,List.all_eq_true]at R;rw[q3p,List.drop_zero,q5c,Option.map_map,Option.map_eq_some_iff]at H;obtain⟨j,P,J⟩:=H;simp only[Function.comp_apply,List.length_cons]at J;have K:j=r.length:=by omega
  rw[Nat.add_zero,K]at P;obtain⟨F,O,G,D⟩:=y0e r.length r (kdT x) r.length Zl P;rw[List.take_length]at D
  have E:F.exs:=fun y hy=>by
   rw[D]at hy;exact⟨Q y (by simp[hy]),R.2 y hy⟩
  have I:∀s:ByteArray,¬0<s.size->s=⟨#[]⟩:=fun s hs=>by
   apply ByteArray.ext;apply Array.toList_inj.1;exact List.eq_nil_of_length_eq_zero (by have:=q0c s;simp only[btL]at this;omega)
  unfold q0p at B
  split at B
  ·cases B
  ·rename_i h1
   split at B
   ·cases B
   ·split at B
    ·cases B
    ·rename_i h3;have A:x.op=7\/x.op=8\/x.op=9:=by omega
     rcases A with A|A|A
     ·have C:kdT x=1:=by unfold kdT;rw[A];rfl
      rw[if_neg (by omega)]at B
      split at B
      ·cases B
      ·rename_i h4;refine .inr ⟨x,F,by rw[D],O,E,by rw[G,C],.inl ⟨A,?_,by omega⟩⟩;cases M:q0o x.tx with
       | true=>rfl
       | false=>exact absurd ⟨by rw[A];rfl,M⟩ h4
     ·have C:kdT x=1:=by unfold kdT;rw[A];rfl
      exact .inr ⟨x,F,by rw[D],O,E,by rw[G,C],.inr ⟨A,I _ (fun hh=>h3 (.inr ⟨by rw[A];rfl,hh⟩)),by omega⟩⟩
     ·have L:kdT x=0:=by unfold kdT;rw[A];rfl
      rw[if_pos A]at B
      have S:F=.nil:=by
       cases F with
       | nil=>rfl
       | cons y k n=>rw[L]at G;simp[Fo.len]at G
      rw[S]at D;exact .inl ⟨x,by rw[<-D];rfl,A,by omega,B⟩
def hdT(ks:List Tn):List UInt8:=match ks with
 | t::_=>t.tx
 | []=>[]
def hdK(ks:List Tn):List Wd:=match ks with
 | t::_=>t.tk
 | []=>[]
def stX(x:Td)(ks:List Tn):List UInt8:=
 if x.op=7 then [108,101,116,32]++btL x.tx++[32,61,32]++hdT ks++[59]else if x.op=8 then hdT ks++[59]else if x.tx.size=0 then [35]else [35,32]++btL x.tx
def stK(x:Td)(ks:List Tn):List Wd:=
 if x.op=7 then [108,101,116]::btL x.tx::[61]::(hdK ks++[[59]])else if x.op=8 then hdK ks++[[59]]else [if x.tx.size=0 then [35]else [35,32]++btL x.tx]
def y2v(ds:List Td):List UInt8:=match j2n ds with
 | .nil=>[]
 | .cons x k _=>stX x k.R
def y8r(ds:List Td):List Wd:=match j2n ds with
 | .nil=>[]
 | .cons x k _=>stK x k.R
theorem v8g{x:Td}{F:Fo}(h:F.ok)(hl:F.len=kdT x):j2n (x::F.N)=.cons x F .nil:=by
 have A:=k3w F .nil;have B:=k3q F .nil;rw[z1t]at A B;rw[j2n,k8p F h,<-hl,A,B]
theorem y5h{x:Td}{F:Fo}(h:F.ok)(hl:F.len=kdT x):y2v (x::F.N)=stX x F.R/\y8r (x::F.N)=stK x F.R:=by
 rw[y2v,y8r,v8g h hl];exact⟨rfl,rfl⟩
def y7k(a b:UInt8):Bool:=(q2b a&&q2b b)||(q1w a&&q1w b)
def v4z(b:UInt8):Bool:=!q2b b&&!q1w b
def j3s(s rest:List UInt8):Prop:=∀a b,s.getLast?=some a->rest.head?=some b->y7k a b=false
theorem k9l{a b:UInt8}(h:v4z b=true):y7k a b=false:=by
 simp only[v4z,Bool.and_eq_true,Bool.not_eq_true']at h;simp[y7k,h.1,h.2]
theorem k9a{s:List UInt8}{b:UInt8}(h:v4z b=true)(r:List UInt8):j3s s (b::r):=fun _ c _ hc=>by
 simp only[List.head?_cons,Option.some.injEq]at hc;subst hc;exact k9l h
def Lx(s:List UInt8)(ws:List Wd):Prop:=∀rest i,j3s s rest->(lxW (s++rest) i).map (·.2)=ws++(lxW rest (i+s.length)).map (·.2)/\lxF (s++rest) i=lxF rest (i+s.length)
theorem Lx.nil:Lx [] []:=fun rest i _=>by simp
theorem Lx.app{s t:List UInt8}{ws us:List Wd}(h1:Lx s ws)(h2:Lx t us)(h:j3s s t):Lx (s++t) (ws++us):=by
 intro A i D
 have E:j3s s (t++A):=by
  intro a b B C;cases t with
  | nil=>
   rw[List.append_nil]at D;exact D a b B C
  | cons c t=>exact h a b B C
 have G:j3s t A:=by
  intro a b B C;refine D a b ?_ C;rw[List.getLast?_append,B];rfl
 obtain⟨H,I⟩:=h1 (t++A) i E;obtain⟨J,K⟩:=h2 A (i+s.length) G;rw[List.append_assoc,H,I,J,K,List.length_append,Nat.add_assoc];exact⟨by simp,rfl⟩
theorem Lx.post{c:UInt8}{s:List UInt8}{ws us:List Wd}(h1:Lx s ws)(hc:v4z c=true)(h2:Lx [c] us):Lx (s++[c]) (ws++us):=
 Lx.app h1 h2 (k9a hc [])
def q6p(t l:Wd):Wd:=(if l≠[]/\t≠[]then t++[32]else t)++l
def ntx(ws:List Wd):Wd:=ws.foldl q6p []
def q0y(w:Wd):Wd:=ntx (q0e (w.drop 1))
def jb:List Wd->Wd
 | []=>[]
 | w::r=>w++match r with
  | []=>[]
  | _::_=>32::jb r
theorem j5b:∀s:List UInt8,jb (q5n s)=s
 | []=>rfl
 | c::r=>by
  have ih:=j5b r;by_cases hc:c=32
  ·subst hc;rw[q6l];cases hs:q5n r with
   | nil=>exact absurd hs (q9q r)
   | cons w ws=>
    rw[hs]at ih;simp[jb,<-ih]
  ·cases hs:q5n r with
   | nil=>exact absurd hs (q9q r)
   | cons w ws=>
    rw[q4x hc hs];rw[hs]at ih;rw[<-ih];simp[jb]
theorem j4m:∀(ws:List Wd)(t:Wd),(∀w∈ws,w≠[])->t≠[]->ws.foldl q6p t=t++(match ws with|[]=>[]|_::_=>32::jb ws)
 | [],t,_,_=>by simp
 | w::r,t,h,ht=>by
  have hw:=h w (by simp);have e:q6p t w=t++32::w:=by simp[q6p,hw,ht]
  rw[List.foldl_cons,e,j4m r _ (fun x hx=>h x (by simp[hx])) (by simp)];cases r with
  | nil=>simp[jb]
  | cons u r=>simp[jb]
theorem y4m{ws:List Wd}(h:∀w∈ws,w≠[]):ntx ws=jb ws:=by
 cases ws with
 | nil=>rfl
 | cons w r=>
  have A:=h w (by simp);have e:q6p [] w=w:=by simp[q6p]
  rw[ntx,List.foldl_cons,e,j4m r w (fun x hx=>h x (by simp[hx])) A];cases r<;>simp[jb]
theorem j7t{tx:ByteArray}(h:q2x tx=0):(q0e (btL tx)).length<=60/\∀w∈q0e (btL tx),w≠[]/\w.length<=20/\∀b∈w,q8h b=true:=by
 obtain⟨B,C⟩:=q9t h;refine⟨by simpa using B,fun w hw=>?_⟩;have A:=C (wbS w) (List.mem_map.2 ⟨w,hw,rfl⟩);have D:(wbS w).size=w.length:=by rw[<-q0c];rfl
 simp only[okW,Bool.and_eq_true,decide_eq_true_eq,List.all_eq_true,D]at A;refine⟨fun e=>?_,A.1.2,A.2⟩;rw[e]at A;simp at A
def y8p(tx:ByteArray):Wd:=if tx.size=0 then [35]else [35,32]++btL tx
theorem k6q{p:UInt8->Bool}(A:p 32=true):∀ws:List Wd,(∀w∈ws,∀b∈w,p b=true)->∀b∈jb ws,p b=true
 | [],_,b,hb=>by cases hb
 | [w],h,b,hb=>by
  have e:jb [w]=w:=by simp[jb]
  rw[e]at hb;exact h w (by simp) b hb
 | w::u::r,h,b,hb=>by
  have e:jb (w::u::r)=w++32::jb (u::r):=by simp[jb]
  rw[e]at hb;rcases List.mem_append.1 hb with hb|hb
  ·exact h w (by simp) b hb
  ·rcases List.mem_cons.1 hb with rfl|hb
   ·exact A
   ·exact k6q A (u::r) (fun x hx=>h x (by simp[hx])) b hb
inductive Rp where
 | ok (ps:List (List Td)):Rp
 | bad (rest:List Wd):Rp
abbrev z1x:Wd:=[108,101,116]
def ntT(t:Wd):Td:=⟨9,wbS t,0⟩
def j1p(w:Wd):Td:=⟨7,wbS w,0⟩
def doT:Td:=⟨8,⟨#[]⟩,0⟩
def q5o(acc:List (List Td)):Wd:=match acc.getLast? with
 | some (x::_)=>btL x.tx
 | _=>[]
def k0d(pv:Bool)(acc:List (List Td))(t:Wd):List (List Td):=if pv then acc.dropLast++[[ntT (q6p (q5o acc) t)]]else acc++[[ntT t]]
inductive PG:Bool->List (List Td)->List Wd->Rp->Prop where
 | done {pv acc}:PG pv acc [] (.ok acc)
 | note {pv acc w ts r}:w.headD 0=35->PG true (k0d pv acc (q0y w)) ts r->PG pv acc (w::ts) r
 | letN {pv acc ts}:(∀w,ts.head?=some w->nmW w=false)->PG pv acc (z1x::ts) (.bad ts)
 | letE {pv acc nm ts}:nmW nm=true->ts.head?≠some [61]->PG pv acc (z1x::nm::ts) (.bad ts)
 | letB {pv acc nm ts u}:nmW nm=true->PR (.level 0) ts (.bad u)->PG pv acc (z1x::nm::[61]::ts) (.bad u)
 | letX {pv acc nm ts m ns u}:nmW nm=true->PR (.level 0) ts (.ok m ns u)->u.head?≠some [59]->PG pv acc (z1x::nm::[61]::ts) (.bad u)
 | letO {pv acc nm ts m ns u r}:nmW nm=true->PR (.level 0) ts (.ok m ns ([59]::u))->PG false (acc++[j1p nm::ns]) u r->PG pv acc (z1x::nm::[61]::ts) r
 | doB {pv acc w ts u}:w.headD 0≠35->w≠z1x->PR (.level 0) (w::ts) (.bad u)->PG pv acc (w::ts) (.bad u)
 | doX {pv acc w ts m ns u}:w.headD 0≠35->w≠z1x->PR (.level 0) (w::ts) (.ok m ns u)->u.head?≠some [59]->PG pv acc (w::ts) (.bad u)
 | doO {pv acc w ts m ns u r}:w.headD 0≠35->w≠z1x->PR (.level 0) (w::ts) (.ok m ns ([59]::u))->PG false (acc++[doT::ns]) u r->PG pv acc (w::ts) r
theorem q9e:z1x.headD 0≠35:=by decide
theorem z0l{pv:Bool}{B:List (List Td)}{ts:List Wd}{r:Rp}(h:PG pv B ts r):∀{r':Rp},PG pv B ts r'->r=r':=by
 induction h with
 | done=>intro r' A;cases A;rfl
 | note h0 _ ih=>intro r' A;cases A with
  | note _ h2=>exact ih h2
  | letN=>exact absurd h0 q9e
  | letE=>exact absurd h0 q9e
  | letB=>exact absurd h0 q9e
  | letX=>exact absurd h0 q9e
  | letO=>exact absurd h0 q9e
  | doB h2=>exact absurd h0 h2
  | doX h2=>exact absurd h0 h2
  | doO h2=>exact absurd h0 h2
 | letN h0=>intro r' A;cases A with
  | note h2=>exact absurd h2 q9e
  | letN=>rfl
  | letE h2=>rw[h0 _ rfl]at h2;cases h2
  | letB h2=>rw[h0 _ rfl]at h2;cases h2
  | letX h2=>rw[h0 _ rfl]at h2;cases h2
  | letO h2=>rw[h0 _ rfl]at h2;cases h2
  | doB _ h2=>exact absurd rfl h2
  | doX _ h2=>exact absurd rfl h2
  | doO _ h2=>exact absurd rfl h2
 | letE h0 h1=>intro r' A;cases A with
  | note h2=>exact absurd h2 q9e
  | letN h2=>rw[h2 _ rfl]at h0;cases h0
  | letE=>rfl
  | letB=>simp at h1
  | letX=>simp at h1
  | letO=>simp at h1
  | doB _ h2=>exact absurd rfl h2
  | doX _ h2=>exact absurd rfl h2
  | doO _ h2=>exact absurd rfl h2
 | letB h0 h1=>intro r' A;cases A with
  | note h2=>exact absurd h2 q9e
  | letN h2=>rw[h2 _ rfl]at h0;cases h0
  | letE _ h2=>simp at h2
  | letB _ h2=>cases q3h h1 h2;rfl
  | letX _ h2=>cases q3h h1 h2
  | letO _ h2=>cases q3h h1 h2
  | doB _ h2=>exact absurd rfl h2
  | doX _ h2=>exact absurd rfl h2
  | doO _ h2=>exact absurd rfl h2
 | letX h0 h1 h3=>intro r' A;cases A with
  | note h2=>exact absurd h2 q9e
  | letN h2=>rw[h2 _ rfl]at h0;cases h0
  | letE _ h2=>simp at h2
  | letB _ h2=>cases q3h h1 h2
  | letX _ h2 _=>cases q3h h1 h2;rfl
  | letO _ h2 _=>cases q3h h1 h2;simp at h3
  | doB _ h2=>exact absurd rfl h2
  | doX _ h2=>exact absurd rfl h2
  | doO _ h2=>exact absurd rfl h2
 | letO h0 h1 _ ih=>intro r' A;cases A with
  | note h2=>exact absurd h2 q9e
  | letN h2=>rw[h2 _ rfl]at h0;cases h0
  | letE _ h2=>simp at h2
  | letB _ h2=>cases q3h h1 h2
  | letX _ h2 h4=>cases q3h h1 h2;simp at h4
  | letO _ h2 h4=>cases q3h h1 h2;exact ih h4
  | doB _ h2=>exact absurd rfl h2
  | doX _ h2=>exact absurd rfl h2
  | doO _ h2=>exact absurd rfl h2
 | doB h0 h1 h3=>intro r' A;cases A with
  | note h2=>exact absurd h2 h0
  | letN=>exact absurd rfl h1
  | letE=>exact absurd rfl h1
  | letB=>exact absurd rfl h1
  | letX=>exact absurd rfl h1
  | letO=>exact absurd rfl h1
  | doB _ _ h2=>cases q3h h3 h2;rfl
  | doX _ _ h2=>cases q3h h3 h2
  | doO _ _ h2=>cases q3h h3 h2
 | doX h0 h1 h3 h4=>intro r' A;cases A with
  | note h2=>exact absurd h2 h0
  | letN=>exact absurd rfl h1
  | letE=>exact absurd rfl h1
  | letB=>exact absurd rfl h1
  | letX=>exact absurd rfl h1
  | letO=>exact absurd rfl h1
  | doB _ _ h2=>cases q3h h3 h2
  | doX _ _ h2 _=>cases q3h h3 h2;rfl
  | doO _ _ h2 _=>cases q3h h3 h2;simp at h4
 | doO h0 h1 h3 _ ih=>intro r' A;cases A with
  | note h2=>exact absurd h2 h0
  | letN=>exact absurd rfl h1
  | letE=>exact absurd rfl h1
  | letB=>exact absurd rfl h1
  | letX=>exact absurd rfl h1
  | letO=>exact absurd rfl h1
  | doB _ _ h2=>cases q3h h3 h2
  | doX _ _ h2 h4=>cases q3h h3 h2;simp at h4
  | doO _ _ h2 h4=>cases q3h h3 h2;exact ih h4
structure But(B b:Nat)(w w':World):Prop where
 os:w'.os=w.os
 tape:w'.tape=w.tape
 output:w'.output=w.output
 size:w.heap.size<=w'.heap.size
 block:∀k,k<B->k≠b->w'.heap[k]?=w.heap[k]?
section
variable {B b:Nat} {w w' a:World}
theorem But.refl(B b:Nat)(w:World):But B b w w:=⟨rfl,rfl,rfl,Nat.le_refl _,fun _ _ _=>rfl⟩
theorem But.trans{c:World}(h:But B b a w)(k:But B b w c):But B b a c:=
 ⟨k.os.trans h.os,k.tape.trans h.tape,k.output.trans h.output,Nat.le_trans h.size k.size,fun i hi hb=>(k.block i hi hb).trans (h.block i hi hb)⟩
theorem But.drew(h:But B b a w):But B b a w.drew:=⟨h.os,h.tape,h.output,h.size,h.block⟩
theorem But.of(h:Below B w w'):But B b w w':=⟨h.os,h.tape,h.output,h.size,fun k hk _=>h.block k hk⟩
theorem But.W(h:But B b w w')(hB:B<=b):Below B w w':=⟨h.os,h.tape,h.output,h.size,fun k hk=>h.block k hk (by omega)⟩
theorem But.mono{B':Nat}(h:But B b w w')(hB:B'<=B):But B' b w w':=⟨h.os,h.tape,h.output,h.size,fun k hk=>h.block k (by omega)⟩
theorem But.alloc(h:But B b a w)(hB:B<=w.heap.size)(o:Obj):But B b a (w.alloc o):=
 h.trans (.of ((Below.refl B w).alloc hB o))
theorem But.setCell(h:But B b a w){p:Addr}(hp:p.block=b\/B<=p.block)(u:Value):But B b a (w.setCell p u):=
 h.trans ⟨rfl,rfl,rfl,by simp[World.setCell],fun k hk hb=>Below.heap_setCell _ _ _ _ (by omega)⟩
theorem But.grown{row:Option Nat}(h:But B b a w)(hg:w.grownBy w' row)(hB:B<=w.heap.size)(hr:∀k,row=some k->B<=k):But B b a w':=
 h.trans ⟨hg.os,hg.tape,hg.output,hg.size,fun k hk _=>hg.block k (by omega) (fun e=>by have:=hr k e.symm;omega)⟩
theorem But.cell(h:But B b w w'){p:Addr}(hp:p.block<B)(hb:p.block≠b):w'.cell? p=w.cell? p:=World.cell?_of_block (w:=w) (h.block p.block hp hb)
end
theorem But.low{B b:Nat}{w w':World}(h:But B b w w'){B':Nat}(hB:B'<=B)(hb:B'<=b):Below B' w w':=(h.mono hB).W hb
def okP:Int->List (List Td)->Prop
 | _,[]=>True
 | prev,t::r=>q0b t=0/\¬(opT t=9/\prev=9)/\okP (opT t) r
theorem v7z:∀(ps:List (List Td))(prev:Int)(k:Nat),(q3z prev k ps).2=0->okP prev ps
 | [],_,_,_=>trivial
 | t::r,prev,k,h=>by
  rw[q3z]at h
  split at h
  ·rename_i h1;exact absurd h h1
  ·rename_i h1
   split at h
   ·cases h
   ·rename_i h2;exact⟨by omega,h2,v7z r _ _ h⟩
theorem k4z{ps:List (List Td)}(h:(q0r ps).2=0):ps.length<=20/\okP 0 ps:=by
 unfold q0r at h
 split at h
 ·cases h
 ·exact⟨by omega,v7z ps 0 0 h⟩
theorem v7d:∀ws:List Wd,(∀w∈ws,w.length<=20)->(jb ws).length<=21*ws.length
 | [],_=>by simp[jb]
 | [w],h=>by
  have:=h w (by simp)
  simp[jb];omega
 | w::u::r,h=>by
  have h1:=h w (by simp);have h2:=v7d (u::r) fun x hx=>h x (by simp[hx])
  rw[jb,List.length_append];simp only[List.length_cons]at h2⊢;omega
theorem v3y{tx:ByteArray}(h:q2x tx=0):tx.size<=1300:=by
 by_cases A:btL tx=[]
 ·have:=q0c tx
  rw[A]at this;simp at this;omega
 ·obtain⟨D,B⟩:=j7t h;have C:q0e (btL tx)=q5n (btL tx):=by rw[q0e,if_neg A]
  rw[C]at D B;have E:=v7d _ fun w hw=>(B w hw).2.1
  rw[j5b]at E;rw[<-q0c];omega
def y4t(s:ByteArray)(u:List Wd):Nat:=((z1h (btL s))[(q2c (btL s)).length-u.length]?).getD s.size
inductive q6r (s:ByteArray):List (List Td)->Int->Int->Prop where
 | lex (h:q5u (btL s)≠0):q6r s [] ((z3f (btL s):Nat):Int) (q5u (btL s))
 | bad {u} (h:q5u (btL s)=0) (hg:PG false [] (q2c (btL s)) (.bad u)):q6r s [] ((y4t s u:Nat):Int) 5
 | full {qs} (h:q5u (btL s)=0) (hg:PG false [] (q2c (btL s)) (.ok qs)) (hf:(q0r qs).2≠0):q6r s [] 0 (q0r qs).2
 | ok {qs} (h:q5u (btL s)=0) (hg:PG false [] (q2c (btL s)) (.ok qs)) (hf:(q0r qs).2=0):q6r s qs 0 0
theorem q2z{s:ByteArray}{p p':List (List Td)}{k k' f f':Int}(h:q6r s p k f)(h':q6r s p' k' f'):p=p'/\k=k'/\f=f':=by
 cases h with
 | lex h1=>cases h' with
  | lex _=>exact⟨rfl,rfl,rfl⟩
  | bad h2=>exact absurd h2 h1
  | full h2=>exact absurd h2 h1
  | ok h2=>exact absurd h2 h1
 | bad h1 hg=>cases h' with
  | lex h2=>exact absurd h1 h2
  | bad _ hg'=>cases z0l hg hg';exact⟨rfl,rfl,rfl⟩
  | full _ hg'=>cases z0l hg hg'
  | ok _ hg'=>cases z0l hg hg'
 | full h1 hg hf=>cases h' with
  | lex h2=>exact absurd h1 h2
  | bad _ hg'=>cases z0l hg hg'
  | full _ hg'=>cases z0l hg hg';exact⟨rfl,rfl,rfl⟩
  | ok _ hg' hf'=>cases z0l hg hg';exact absurd hf' hf
 | ok h1 hg hf=>cases h' with
  | lex h2=>exact absurd h1 h2
  | bad _ hg'=>cases z0l hg hg'
  | full _ hg' hf'=>cases z0l hg hg';exact absurd hf hf'
  | ok _ hg'=>cases z0l hg hg';exact⟨rfl,rfl,rfl⟩
theorem k4p:∀(ps:List (List Td))(prev:Int),okP prev ps->∀t∈ps,q0b t=0
 | t::r,prev,h,x,hx=>by
  rcases List.mem_cons.1 hx with rfl|hx
  ·exact h.1
  ·exact k4p r _ h.2.2 x hx
end Go.Proofs.YtfdppahhbpfnoaaGreatDoor
