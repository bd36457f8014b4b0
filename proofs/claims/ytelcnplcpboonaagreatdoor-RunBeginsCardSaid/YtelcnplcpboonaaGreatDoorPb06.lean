import Derived.Test.YtelcnplcpboonaaGreatDoorPb01
open Go.Proofs.Tryz
namespace Go.Proofs.YtelcnplcpboonaaGreatDoor
open Go Go.RowKit
inductive Job where
 | level (k:Nat):Job
 | loop (k:Nat) (acc:List Td):Job
 | single:Job
 | args (e:Wd) (n:Nat) (acc:List Td):Job
inductive Rs where
 | ok (n:Nat) (ns:List Td) (rest:List Wd):Rs
 | bad (rest:List Wd):Rs
def sgn(k:Nat):Wd:=if k=0 then [43]else [42]
def sgT(k:Nat):Td:=⟨5+k,⟨#[]⟩,0⟩
def k3j(w:Wd):Bool:=q2s (w.headD 0)
def nmW(w:Wd):Bool:=q1f (wbS w)
def y7w(w:Wd):Td:=⟨1,⟨#[]⟩,(q4m w:Nat)⟩
def nmT(w:Wd):Td:=⟨2,wbS w,0⟩
def clT(w:Wd)(n:Nat):Td:=⟨3,wbS w,(n:Nat)⟩
def lsT(n:Nat):Td:=⟨4,⟨#[]⟩,(n:Nat)⟩
inductive PR:Job->List Wd->Rs->Prop where
 | lev2 {ts r}:PR .single ts r->PR (.level 2) ts r
 | levB {k ts u}:k<2->PR (.level (k+1)) ts (.bad u)->PR (.level k) ts (.bad u)
 | levO {k ts m ns u r}:k<2->PR (.level (k+1)) ts (.ok m ns u)->PR (.loop k ns) u r->PR (.level k) ts r
 | lopE {k acc ts}:ts.head?≠some (sgn k)->PR (.loop k acc) ts (.ok 0 acc ts)
 | lopB {k acc ts u}:PR (.level (k+1)) ts (.bad u)->PR (.loop k acc) (sgn k::ts) (.bad u)
 | lopO {k acc ts m ns u r}:PR (.level (k+1)) ts (.ok m ns u)->PR (.loop k (sgT k::(acc++ns))) u r->PR (.loop k acc) (sgn k::ts) r
 | sinN:PR .single [] (.bad [])
 | sPB {ts u}:PR (.level 0) ts (.bad u)->PR .single ([40]::ts) (.bad u)
 | sPC {ts m ns u}:PR (.level 0) ts (.ok m ns ([41]::u))->PR .single ([40]::ts) (.ok 0 ns u)
 | sPX {ts m ns u}:PR (.level 0) ts (.ok m ns u)->u.head?≠some [41]->PR .single ([40]::ts) (.bad u)
 | sLB {ts u}:PR (.args [93] 0 []) ts (.bad u)->PR .single ([91]::ts) (.bad u)
 | sLO {ts n ns u}:PR (.args [93] 0 []) ts (.ok n ns u)->PR .single ([91]::ts) (.ok 0 (lsT n::ns) u)
 | sNum {w ts}:k3j w=true->PR .single (w::ts) (.ok 0 [y7w w] ts)
 | sName {w ts}:nmW w=true->ts.head?≠some [40]->PR .single (w::ts) (.ok 0 [nmT w] ts)
 | sCB {w ts u}:nmW w=true->PR (.args [41] 0 []) ts (.bad u)->PR .single (w::[40]::ts) (.bad u)
 | sCO {w ts n ns u}:nmW w=true->PR (.args [41] 0 []) ts (.ok n ns u)->PR .single (w::[40]::ts) (.ok 0 (clT w n::ns) u)
 | sBad {w ts}:w≠[40]->w≠[91]->k3j w=false->nmW w=false->PR .single (w::ts) (.bad (w::ts))
 | aEnd {e n acc ts}:PR (.args e n acc) (e::ts) (.ok n acc ts)
 | aSep {e n acc ts}:ts.head?≠some e->ts.head?≠some [44]->PR (.args e (n+1) acc) ts (.bad ts)
 | aB0 {e acc ts u}:ts.head?≠some e->PR (.level 0) ts (.bad u)->PR (.args e 0 acc) ts (.bad u)
 | aO0 {e acc ts m ns u r}:ts.head?≠some e->PR (.level 0) ts (.ok m ns u)->PR (.args e 1 (acc++ns)) u r->PR (.args e 0 acc) ts r
 | aB {e n acc ts u}:e≠[44]->PR (.level 0) ts (.bad u)->PR (.args e (n+1) acc) ([44]::ts) (.bad u)
 | aO {e n acc ts m ns u r}:e≠[44]->PR (.level 0) ts (.ok m ns u)->PR (.args e (n+2) (acc++ns)) u r->PR (.args e (n+1) acc) ([44]::ts) r
theorem q4q{w:Wd}(h:k3j w=true):nmW w=false:=by
 cases A:nmW w with
 | false=>rfl
 | true=>
  exfalso;unfold nmW q1f at A;simp only[Bool.and_eq_true,List.all_eq_true,decide_eq_true_eq]at A;cases w with
  | nil=>simp[wbS,ByteArray.size]at A
  | cons c z=>
   have B:=A.2 c (by show c∈(c::z);simp);have C:q2s c=true:=h
   have:=k2l C
   rw[B]at this;cases this
theorem y6a:k3j [40]=false:=by decide
theorem y6b:k3j [91]=false:=by decide
theorem y1c:nmW [40]=false:=by decide
theorem y1d:nmW [91]=false:=by decide
theorem q2k{j:Job}{ts:List Wd}{r:Rs}(h:PR j ts r):∀{r':Rs},PR j ts r'->r=r':=by
 have D:=y6a;have E:=y6b;have B:=y1c;have C:=y1d
 induction h with
 | lev2 _ ih=>intro r' A;cases A with
  | lev2 h2=>exact ih h2
  | levB h0=>omega
  | levO h0=>omega
 | levB h0 _ ih=>intro r' A;cases A with
  | lev2 h2=>omega
  | levB _ h2=>exact ih h2
  | levO _ h2 _=>cases ih h2
 | levO h0 _ _ ih1 ih2=>intro r' A;cases A with
  | lev2 h2=>omega
  | levB _ h2=>cases ih1 h2
  | levO _ h2 h3=>cases ih1 h2;exact ih2 h3
 | lopE h0=>intro r' A;cases A with
  | lopE _=>rfl
  | lopB _=>simp at h0
  | lopO _ _=>simp at h0
 | lopB _ ih=>intro r' A;cases A with
  | lopE h0=>simp at h0
  | lopB h2=>exact ih h2
  | lopO h2 _=>cases ih h2
 | lopO _ _ ih1 ih2=>intro r' A;cases A with
  | lopE h0=>simp at h0
  | lopB h2=>cases ih1 h2
  | lopO h2 h3=>cases ih1 h2;exact ih2 h3
 | sinN=>intro r' A;cases A;rfl
 | sPB _ ih=>intro r' A;cases A with
  | sPB h2=>exact ih h2
  | sPC h2=>cases ih h2
  | sPX h2 _=>cases ih h2
  | sNum h2=>rw[D]at h2;cases h2
  | sName h2 _=>rw[B]at h2;cases h2
  | sCB h2 _=>rw[B]at h2;cases h2
  | sCO h2 _=>rw[B]at h2;cases h2
  | sBad h2=>exact absurd rfl h2
 | sPC _ ih=>intro r' A;cases A with
  | sPB h2=>cases ih h2
  | sPC h2=>cases ih h2;rfl
  | sPX h2 h3=>cases ih h2;simp at h3
  | sNum h2=>rw[D]at h2;cases h2
  | sName h2 _=>rw[B]at h2;cases h2
  | sCB h2 _=>rw[B]at h2;cases h2
  | sCO h2 _=>rw[B]at h2;cases h2
  | sBad h2=>exact absurd rfl h2
 | sPX _ h0 ih=>intro r' A;cases A with
  | sPB h2=>cases ih h2
  | sPC h2=>cases ih h2;simp at h0
  | sPX h2 h3=>cases ih h2;rfl
  | sNum h2=>rw[D]at h2;cases h2
  | sName h2 _=>rw[B]at h2;cases h2
  | sCB h2 _=>rw[B]at h2;cases h2
  | sCO h2 _=>rw[B]at h2;cases h2
  | sBad h2=>exact absurd rfl h2
 | sLB _ ih=>intro r' A;cases A with
  | sLB h2=>exact ih h2
  | sLO h2=>cases ih h2
  | sNum h2=>rw[E]at h2;cases h2
  | sName h2 _=>rw[C]at h2;cases h2
  | sCB h2 _=>rw[C]at h2;cases h2
  | sCO h2 _=>rw[C]at h2;cases h2
  | sBad _ h2=>exact absurd rfl h2
 | sLO _ ih=>intro r' A;cases A with
  | sLB h2=>cases ih h2
  | sLO h2=>cases ih h2;rfl
  | sNum h2=>rw[E]at h2;cases h2
  | sName h2 _=>rw[C]at h2;cases h2
  | sCB h2 _=>rw[C]at h2;cases h2
  | sCO h2 _=>rw[C]at h2;cases h2
  | sBad _ h2=>exact absurd rfl h2
 | sNum h0=>
  have G:=q4q h0;intro r' A;cases A with
  | sPB h2=>rw[D]at h0;cases h0
  | sPC h2=>rw[D]at h0;cases h0
  | sPX h2 h3=>rw[D]at h0;cases h0
  | sLB h2=>rw[E]at h0;cases h0
  | sLO h2=>rw[E]at h0;cases h0
  | sNum h2=>rfl
  | sName h2 _=>rw[G]at h2;cases h2
  | sCB h2 _=>rw[G]at h2;cases h2
  | sCO h2 _=>rw[G]at h2;cases h2
  | sBad _ _ h2=>rw[h0]at h2;cases h2
 | sName h0 h1=>
  intro r' A;cases A with
  | sPB h2=>rw[B]at h0;cases h0
  | sPC h2=>rw[B]at h0;cases h0
  | sPX h2 h3=>rw[B]at h0;cases h0
  | sLB h2=>rw[C]at h0;cases h0
  | sLO h2=>rw[C]at h0;cases h0
  | sNum h2=>rw[q4q h2]at h0;cases h0
  | sName h2 _=>rfl
  | sCB h2 _=>simp at h1
  | sCO h2 _=>simp at h1
  | sBad _ _ _ h2=>rw[h0]at h2;cases h2
 | sCB h0 _ ih=>
  intro r' A;cases A with
  | sPB h2=>rw[B]at h0;cases h0
  | sPC h2=>rw[B]at h0;cases h0
  | sPX h2 h3=>rw[B]at h0;cases h0
  | sLB h2=>rw[C]at h0;cases h0
  | sLO h2=>rw[C]at h0;cases h0
  | sNum h2=>rw[q4q h2]at h0;cases h0
  | sName _ h2=>simp at h2
  | sCB _ h2=>exact ih h2
  | sCO _ h2=>cases ih h2
  | sBad _ _ _ h2=>rw[h0]at h2;cases h2
 | sCO h0 _ ih=>
  intro r' A;cases A with
  | sPB h2=>rw[B]at h0;cases h0
  | sPC h2=>rw[B]at h0;cases h0
  | sPX h2 h3=>rw[B]at h0;cases h0
  | sLB h2=>rw[C]at h0;cases h0
  | sLO h2=>rw[C]at h0;cases h0
  | sNum h2=>rw[q4q h2]at h0;cases h0
  | sName _ h2=>simp at h2
  | sCB _ h2=>cases ih h2
  | sCO _ h2=>cases ih h2;rfl
  | sBad _ _ _ h2=>rw[h0]at h2;cases h2
 | sBad h0 h1 h3 h4=>
  intro r' A;cases A with
  | sPB h2=>exact absurd rfl h0
  | sPC h2=>exact absurd rfl h0
  | sPX h2 _=>exact absurd rfl h0
  | sLB h2=>exact absurd rfl h1
  | sLO h2=>exact absurd rfl h1
  | sNum h2=>rw[h3]at h2;cases h2
  | sName h2 _=>rw[h4]at h2;cases h2
  | sCB h2 _=>rw[h4]at h2;cases h2
  | sCO h2 _=>rw[h4]at h2;cases h2
  | sBad _ _ _ h2=>rfl
 | aEnd=>
  intro r' A;cases A with
  | aEnd=>rfl
  | aSep h2 _=>simp at h2
  | aB0 h2 _=>simp at h2
  | aO0 h2 _ _=>simp at h2
  | aB h2 _=>exact absurd rfl h2
  | aO h2 _ _=>exact absurd rfl h2
 | aSep h0 h1=>
  intro r' A;cases A with
  | aEnd=>simp at h0
  | aSep h2 _=>rfl
  | aB h2 _=>simp at h1
  | aO h2 _ _=>simp at h1
 | aB0 h0 _ ih=>
  intro r' A;cases A with
  | aEnd=>simp at h0
  | aB0 _ h2=>exact ih h2
  | aO0 _ h2 _=>cases ih h2
 | aO0 h0 _ _ ih1 ih2=>
  intro r' A;cases A with
  | aEnd=>simp at h0
  | aB0 _ h2=>cases ih1 h2
  | aO0 _ h2 h3=>cases ih1 h2;exact ih2 h3
 | aB h0 _ ih=>
  intro r' A;cases A with
  | aEnd=>exact absurd rfl h0
  | aSep _ h2=>simp at h2
  | aB _ h2=>exact ih h2
  | aO _ h2 _=>cases ih h2
 | aO h0 _ _ ih1 ih2=>
  intro r' A;cases A with
  | aEnd=>exact absurd rfl h0
  | aSep _ h2=>simp at h2
  | aB _ h2=>cases ih1 h2
  | aO _ h2 h3=>cases ih1 h2;exact ih2 h3
def Rs.rest:Rs->List Wd
 | .ok _ _ u=>u
 | .bad u=>u
def Job.eats:Job->Nat
 | .level _=>1
 | .single=>1
 | _=>0
theorem q2b{α:Type}{u ts:List α}(w:α)(h:u <:+ ts):u <:+ w::ts:=h.trans (List.suffix_cons w ts)
theorem q9f{j:Job}{ts:List Wd}{r:Rs}(h:PR j ts r):r.rest <:+ ts/\∀m ns u,r=.ok m ns u->u.length+j.eats<=ts.length:=by
 induction h with
 | lev2 _ ih=>exact ih
 | levB _ _ ih=>exact⟨ih.1,fun _ _ _ e=>by cases e⟩
 | levO _ _ _ ih1 ih2=>
  have A:=ih1.2 _ _ _ rfl;refine⟨ih2.1.trans ih1.1,fun m ns u e=>?_⟩;have B:=ih2.2 _ _ _ e;simp only[Job.eats]at A B⊢;omega
 | lopE _=>exact⟨List.suffix_refl _,fun _ _ _ e=>by cases e;simp[Job.eats]⟩
 | lopB _ ih=>exact⟨q2b _ ih.1,fun _ _ _ e=>by cases e⟩
 | lopO _ _ ih1 ih2=>
  have A:=ih1.2 _ _ _ rfl;refine⟨q2b _ (ih2.1.trans ih1.1),fun m ns u e=>?_⟩;have B:=ih2.2 _ _ _ e;simp only[Job.eats,List.length_cons]at A B⊢;omega
 | sinN=>exact⟨List.suffix_refl _,fun _ _ _ e=>by cases e⟩
 | sPB _ ih=>exact⟨q2b _ ih.1,fun _ _ _ e=>by cases e⟩
 | sPC _ ih=>
  have A:=ih.2 _ _ _ rfl;refine⟨q2b _ ((List.suffix_cons _ _).trans ih.1),fun m ns u e=>?_⟩;cases e;simp only[Job.eats,List.length_cons]at A⊢;omega
 | sPX _ _ ih=>exact⟨q2b _ ih.1,fun _ _ _ e=>by cases e⟩
 | sLB _ ih=>exact⟨q2b _ ih.1,fun _ _ _ e=>by cases e⟩
 | sLO _ ih=>
  have A:=ih.2 _ _ _ rfl;refine⟨q2b _ ih.1,fun m ns u e=>?_⟩;cases e;simp only[Job.eats,List.length_cons]at A⊢;omega
 | sNum _=>exact⟨List.suffix_cons _ _,fun _ _ _ e=>by cases e;simp[Job.eats]⟩
 | sName _ _=>exact⟨List.suffix_cons _ _,fun _ _ _ e=>by cases e;simp[Job.eats]⟩
 | sCB _ _ ih=>exact⟨q2b _ (q2b _ ih.1),fun _ _ _ e=>by cases e⟩
 | sCO _ _ ih=>
  have A:=ih.2 _ _ _ rfl;refine⟨q2b _ (q2b _ ih.1),fun m ns u e=>?_⟩;cases e;simp only[Job.eats,List.length_cons]at A⊢;omega
 | sBad _ _ _ _=>exact⟨List.suffix_refl _,fun _ _ _ e=>by cases e⟩
 | aEnd=>exact⟨List.suffix_cons _ _,fun _ _ _ e=>by cases e;simp[Job.eats]⟩
 | aSep _ _=>exact⟨List.suffix_refl _,fun _ _ _ e=>by cases e⟩
 | aB0 _ _ ih=>exact⟨ih.1,fun _ _ _ e=>by cases e⟩
 | aO0 _ _ _ ih1 ih2=>
  have A:=ih1.2 _ _ _ rfl;refine⟨ih2.1.trans ih1.1,fun m ns u e=>?_⟩;have B:=ih2.2 _ _ _ e;simp only[Job.eats]at A B⊢;omega
 | aB _ _ ih=>exact⟨q2b _ ih.1,fun _ _ _ e=>by cases e⟩
 | aO _ _ _ ih1 ih2=>
  have A:=ih1.2 _ _ _ rfl;refine⟨q2b _ (ih2.1.trans ih1.1),fun m ns u e=>?_⟩;have B:=ih2.2 _ _ _ e;simp only[Job.eats,List.length_cons]at A B⊢;omega
def y3v(w:Wd):Prop:=w=[40]\/w=[91]\/k3j w=true\/nmW w=true
theorem q7g{w:Wd}(h:nmW w=true):∃c z,w=c::z/\q3g c=true/\w≠[108,101,116]/\w.length<=8/\∀b∈w,q3g b=true:=by
 unfold nmW q1f at h;simp only[Bool.and_eq_true,List.all_eq_true,decide_eq_true_eq]at h;obtain⟨⟨⟨C,A⟩,D⟩,B⟩:=h;cases w with
 | nil=>simp[wbS,ByteArray.size]at C
 | cons c z=>
  refine⟨c,z,rfl,B c (by show c∈(c::z);simp),D,?_,B⟩;have e:(wbS (c::z)).size=(c::z).length:=by rw[<-q0b];rfl
  rw[e]at A;exact A
theorem j1h{w:Wd}(h:y3v w):w≠[41]/\w≠[93]/\w≠[44]/\w≠[108,101,116]/\w.headD 0≠35:=by
 rcases h with rfl|rfl|h|h
 ·decide
 ·decide
 ·have:∀c:UInt8,q2s c=true->c≠41/\c≠93/\c≠44/\c≠108/\c≠35:=fun c A=>by
   refine⟨?_,?_,?_,?_,?_⟩<;>(rintro rfl;revert A;decide)
  cases w with
  | nil=>exact absurd h (by decide)
  | cons c z=>
   obtain⟨D,E,G,H,B⟩:=this c h;refine⟨?_,?_,?_,?_,B⟩<;>(intro e;rw[List.cons.injEq]at e;simp_all)
 ·obtain⟨c,z,rfl,A,C,_,_⟩:=q7g h
  have:c≠41/\c≠93/\c≠44/\c≠35:=by
   refine⟨?_,?_,?_,?_⟩<;>(rintro rfl;revert A;decide)
  refine⟨?_,?_,?_,C,this.2.2.2⟩<;>(intro e;rw[List.cons.injEq]at e;simp_all)
structure z1l(t:Tn):Prop where
 b:∃w z,t.tk=w::z/\y3v w
 s:∀rest:List Wd,rest.head?≠some [40]->PR .single (brk 2 t++rest) (.ok 0 t.ns rest)
 l1:∀(rest:List Wd)(r:Rs),rest.head?≠some [40]->PR (.loop 1 t.ns) rest r->PR (.level 1) (brk 1 t++rest) r
 l0:∀(rest:List Wd)(r:Rs),rest.head?≠some [40]->rest.head?≠some [42]->PR (.loop 0 t.ns) rest r->PR (.level 0) (brk 0 t++rest) r
theorem z1w(t:Tn):brk 0 t=t.tk:=by simp[brk]
theorem k3b{t:Tn}(h:z1l t){rest:List Wd}(h1:rest.head?≠some [40])(h2:rest.head?≠some [42])(h3:rest.head?≠some [43]):PR (.level 0) (t.tk++rest) (.ok 0 t.ns rest):=by
 have:=h.l0 rest (.ok 0 t.ns rest) h1 h2 (.lopE h3)
 rwa[z1w]at this
theorem y0t{t:Tn}(h:z1l t){rest:List Wd}(h1:rest.head?≠some [40])(h2:rest.head?≠some [42]):PR (.level 1) (brk 1 t++rest) (.ok 0 t.ns rest):=
 h.l1 rest (.ok 0 t.ns rest) h1 (.lopE h2)
theorem q4r{t:Tn}(hp:prc t.x=2)(hb:∃w z,t.tk=w::z/\y3v w)(h:∀rest:List Wd,rest.head?≠some [40]->PR .single (t.tk++rest) (.ok 0 t.ns rest)):z1l t:=by
 have B:brk 1 t=t.tk:=by rw[brk,if_neg (by omega)]
 have C:brk 2 t=t.tk:=by rw[brk,if_neg (by omega)]
 have A:∀(rest:List Wd)(r:Rs),rest.head?≠some [40]->PR (.loop 1 t.ns) rest r->PR (.level 1) (t.tk++rest) r:=
  fun rest r hr hl=>.levO (by omega) (.lev2 (h rest hr)) hl
 refine⟨hb,by rw[C];exact h,by rw[B];exact A,fun rest r hr hs hl=>?_⟩;rw[z1w];exact .levO (by omega) (A rest _ hr (.lopE hs)) hl
theorem j1v{t:Tn}(h:∃w z,t.tk=w::z/\y3v w)(l:Nat)(r:List Wd):∃w z,brk l t++r=w::z/\y3v w:=by
 by_cases A:prc t.x<l
 ·rw[brk,if_pos A];exact⟨[40],_,rfl,.inl rfl⟩
 ·rw[brk,if_neg A];obtain⟨w,z,e,B⟩:=h;exact⟨w,z++r,by rw[e];rfl,B⟩
theorem k0m{t:Tn}{l:Nat}(hp:prc t.x<l)(hl:∀rest:List Wd,rest.head?≠some [40]->rest.head?≠some [42]->rest.head?≠some [43]->PR (.level 0) (t.tk++rest) (.ok 0 t.ns rest))(rest:List Wd):PR .single (brk l t++rest) (.ok 0 t.ns rest):=by
 rw[brk,if_pos hp,List.cons_append,List.append_assoc];exact .sPC (hl ([41]::rest) (by simp) (by simp) (by simp))
theorem j7e{x:Td}{a b:Tn}(hx:x=sgT 1)(ha:z1l a)(hb:z1l b):z1l (q0x x [a,b]):=by
 have H:x.op=6:=by rw[hx];rfl
 have J:prc (q0x x [a,b]).x=1:=by simp[q0x,prc,H]
 have G:(q0x x [a,b]).tk=brk 1 a++[42]::brk 2 b:=by simp[q0x,j0a,two2,H]
 have I:(q0x x [a,b]).ns=sgT 1::(a.ns++b.ns):=by simp[q0x,hx]
 have E:∀(A:List Wd)(r:Rs),A.head?≠some [40]->PR (.loop 1 (q0x x [a,b]).ns) A r->PR (.level 1) ((q0x x [a,b]).tk++A) r:=by
  intro A r C B;rw[G,List.append_assoc];refine ha.l1 _ _ (by simp) ?_;rw[I]at B;exact .lopO (k:=1) (.lev2 (hb.s A C)) B
 have D:∀(A:List Wd)(r:Rs),A.head?≠some [40]->A.head?≠some [42]->PR (.loop 0 (q0x x [a,b]).ns) A r->PR (.level 0) ((q0x x [a,b]).tk++A) r:=
  fun A r C hs B=>.levO (by omega) (E A _ C (.lopE hs)) B
 refine⟨by rw[G];exact j1v ha.b _ _,fun A _=>k0m (by omega) (fun A h40 h42 h43=>D A _ h40 h42 (.lopE h43)) A,fun A r C B=>?_,fun A r C hs B=>?_⟩
 ·rw[brk,if_neg (by omega)];exact E A r C B
 ·rw[z1w];exact D A r C hs B
theorem j7f{x:Td}{a b:Tn}(hx:x=sgT 0)(ha:z1l a)(hb:z1l b):z1l (q0x x [a,b]):=by
 have H:x.op=5:=by rw[hx];rfl
 have J:prc (q0x x [a,b]).x=0:=by simp[q0x,prc,H]
 have G:(q0x x [a,b]).tk=brk 0 a++[43]::brk 1 b:=by simp[q0x,j0a,two2,H]
 have I:(q0x x [a,b]).ns=sgT 0::(a.ns++b.ns):=by simp[q0x,hx]
 have E:∀(A:List Wd)(r:Rs),A.head?≠some [40]->A.head?≠some [42]->PR (.loop 0 (q0x x [a,b]).ns) A r->PR (.level 0) ((q0x x [a,b]).tk++A) r:=by
  intro A r D C B;rw[G,List.append_assoc];refine ha.l0 _ _ (by simp) (by simp) ?_;rw[I]at B;exact .lopO (k:=0) (y0t hb D C) B
 have C:∀l,0<l->∀A:List Wd,PR .single (brk l (q0x x [a,b])++A) (.ok 0 (q0x x [a,b]).ns A):=
  fun l B A=>k0m (by omega) (fun A h40 h42 h43=>E A _ h40 h42 (.lopE h43)) A
 refine⟨by rw[G];exact j1v ha.b _ _,fun A _=>C 2 (by omega) A,fun A r _ B=>.levO (by omega) (.lev2 (C 1 (by omega) A)) B,fun A r D C B=>?_⟩;rw[z1w];exact E A r D C B
def cmt:List Tn->List Wd
 | []=>[]
 | t::r=>[44]::cmk (t::r)
theorem k4t(t:Tn)(r:List Tn):cmk (t::r)=t.tk++cmt r:=by
 cases r with
 | nil=>simp[cmk,cmt]
 | cons u r=>simp[cmk,cmt]
theorem k4u{e:Wd}(he:e=[41]\/e=[93])(r:List Tn)(rest:List Wd):(cmt r++e::rest).head?≠some [40]/\(cmt r++e::rest).head?≠some [42]/\(cmt r++e::rest).head?≠some [43]:=by
 cases r with
 | nil=>rcases he with rfl|rfl<;>simp[cmt]
 | cons t r=>simp[cmt]
theorem z8r{e:Wd}(he:e=[41]\/e=[93]):∀(ks:List Tn),(∀t∈ks,z1l t)->∀(n:Nat)(acc:List Td)(rest:List Wd),
  PR (.args e (n+1) acc) (cmt ks++e::rest) (.ok (n+1+ks.length) (acc++ks.flatMap (·.ns)) rest)
 | [],_,n,acc,rest=>by simpa[cmt]using PR.aEnd
 | t::r,h,n,acc,rest=>by
  obtain⟨h1,h2,h3⟩:=k4u he r rest;have ih:=z8r he r (fun u hu=>h u (by simp[hu])) (n+1) (acc++t.ns) rest;have hl:=k3b (h t (by simp)) h1 h2 h3;have e1:cmt (t::r)++e::rest=[44]::(t.tk++(cmt r++e::rest)):=by rw[cmt,k4t];simp
  have A:n+1+(t::r).length=n+1+1+r.length:=by simp;omega
  have B:acc++(t::r).flatMap (·.ns)=acc++t.ns++r.flatMap (·.ns):=by simp
  rw[e1,A,B];exact .aO (by rcases he with rfl|rfl<;>decide) hl ih
theorem k4k{e:Wd}(he:e=[41]\/e=[93])(ks:List Tn)(h:∀t∈ks,z1l t)(rest:List Wd):
  PR (.args e 0 []) (cmk ks++e::rest) (.ok ks.length (ks.flatMap (·.ns)) rest):=by
 cases ks with
 | nil=>simpa[cmk]using PR.aEnd
 | cons t r=>
  obtain⟨H,I,J⟩:=k4u he r rest;have M:=z8r he r (fun u hu=>h u (by simp[hu])) 0 ([]++t.ns) rest;have K:=k3b (h t (by simp)) H I J;obtain⟨w,z,C,L⟩:=(h t (by simp)).b;have A:=j1h L;have D:cmk (t::r)++e::rest=t.tk++(cmt r++e::rest):=by rw[k4t];simp
  have E:(t::r).length=0+1+r.length:=by simp;omega
  have G:(t::r).flatMap (·.ns)=[]++t.ns++r.flatMap (·.ns):=by simp
  rw[D,E,G];refine .aO0 ?_ K M;rw[C,List.cons_append,List.head?_cons];intro B;rcases he with rfl|rfl
  ·exact A.1 (Option.some.inj B)
  ·exact A.2.1 (Option.some.inj B)
theorem z8f{x:Td}{op:Int}{tx:ByteArray}{n:Int}(h1:x.op=op)(h2:x.tx=tx)(h3:x.n=n):x=⟨op,tx,n⟩:=by
 cases x;simp_all
theorem y3h{α:Type}{l:List α}(h:l.length=2):∃a b,l=[a,b]:=by
 match l,h with
 | [a,b],_=>exact⟨a,b,rfl⟩
theorem z3n:∀F:Fo,F.ok->F.exs->∀t∈F.R,z1l t
 | .nil,_,_,t,ht=>by cases ht
 | .cons x k n,hok,hex,t,ht=>by
  have hexk:k.exs:=fun y hy=>hex y (by simp[Fo.N,hy])
  have hexn:n.exs:=fun y hy=>hex y (by simp[Fo.N,hy])
  have ihk:=z3n k hok.2.1 hexk;rw[Fo.R]at ht;rcases List.mem_cons.1 ht with rfl|ht
  ·have hlen:k.R.length=kdT x:=by rw[z0y];exact hok.1
   rcases q3i (hex x (by simp[Fo.N]))with⟨B,E,C,M,J⟩|⟨B,L,C,J⟩|⟨B,L,C,M,J⟩|⟨B,E,C,M,J⟩|⟨B,E,C,J⟩|⟨B,E,C,J⟩
   ·have K:k.R=[]:=List.eq_nil_of_length_eq_zero (by omega)
    have H:k3j (q1u x.n.toNat)=true:=by
     have P:=z1z x.n.toNat;cases O:q1u x.n.toNat with
     | nil=>exact absurd O (z6p _)
     | cons c z=>exact P c (by rw[O];simp)
    have A:(q0x x k.R).tk=[q1u x.n.toNat]:=by simp[q0x,j0a,B]
    have D:(q0x x k.R).ns=[y7w (q1u x.n.toNat)]:=by
     rw[q0x,K];simp only[List.flatMap_nil,List.cons.injEq,and_true];exact z8f B E (by rw[v3i];omega)
    refine q4r (by simp[q0x,prc,B]) ⟨_,_,A,.inr (.inr (.inl H))⟩ fun rest _=>?_
    rw[A,D];exact .sNum H
   ·have K:k.R=[]:=List.eq_nil_of_length_eq_zero (by omega);have G:nmW (btL x.tx)=true:=L;have A:(q0x x k.R).tk=[btL x.tx]:=by simp[q0x,j0a,B]
    have D:(q0x x k.R).ns=[nmT (btL x.tx)]:=by
     rw[q0x,K];simp only[List.flatMap_nil,List.cons.injEq,and_true];exact z8f B rfl C
    refine q4r (by simp[q0x,prc,B]) ⟨_,_,A,.inr (.inr (.inr G))⟩ fun rest hr=>?_
    rw[A,D];exact .sName G hr
   ·have G:nmW (btL x.tx)=true:=L;have A:(q0x x k.R).tk=btL x.tx::[40]::(cmk k.R++[[41]]):=by simp[q0x,j0a,B]
    have D:(q0x x k.R).ns=clT (btL x.tx) k.R.length::k.R.flatMap (·.ns):=by
     rw[q0x];simp only[List.cons.injEq,and_true];exact z8f B rfl (by omega)
    refine q4r (by simp[q0x,prc,B]) ⟨_,_,A,.inr (.inr (.inr G))⟩ fun rest hr=>?_
    rw[A,D]
    have:=k4k (.inl rfl) k.R ihk rest
    refine .sCO G ?_;simpa using this
   ·have A:(q0x x k.R).tk=[91]::(cmk k.R++[[93]]):=by simp[q0x,j0a,B]
    have D:(q0x x k.R).ns=lsT k.R.length::k.R.flatMap (·.ns):=by
     rw[q0x];simp only[List.cons.injEq,and_true];exact z8f B E (by omega)
    refine q4r (by simp[q0x,prc,B]) ⟨_,_,A,.inr (.inl rfl)⟩ fun rest hr=>?_
    rw[A,D]
    have:=k4k (.inr rfl) k.R ihk rest
    refine .sLO ?_;simpa using this
   ·obtain⟨a,b,I⟩:=y3h (hlen.trans J);rw[I]at ihk⊢;exact j7f (z8f B E C) (ihk a (by simp)) (ihk b (by simp))
   ·obtain⟨a,b,I⟩:=y3h (hlen.trans J);rw[I]at ihk⊢;exact j7e (z8f B E C) (ihk a (by simp)) (ihk b (by simp))
  ·exact z3n n hok.2.2 hexn t ht
theorem k4o(l:Nat)(t:Tn):(brx l t).length<=t.tx.length+2:=by
 unfold brx
 split
 ·simp
 ·omega
theorem v6b:∀ks:List Tn,(∀t∈ks,t.tx.length+4<=16*t.ns.length)->(cmx ks).length<=16*(ks.flatMap (·.ns)).length
 | [],_=>by simp[cmx]
 | [t],h=>by
  have:=h t (by simp)
  simp[cmx];omega
 | t::u::r,h=>by
  have h1:=h t (by simp);have h2:=v6b (u::r) (fun x hx=>h x (by simp[hx]));rw[cmx,List.flatMap_cons,List.length_append,List.length_append];simp only[List.length_cons];omega
theorem q4a{s:ByteArray}(h:q1f s=true):(btL s).length<=8:=by
 unfold q1f at h;simp only[Bool.and_eq_true,decide_eq_true_eq]at h;rw[q0b];exact h.1.1.2
theorem j8p:∀F:Fo,F.ok->F.exs->∀t∈F.R,t.tx.length+4<=16*t.ns.length
 | .nil,_,_,t,ht=>by cases ht
 | .cons x k n,hok,hex,t,ht=>by
  have hexk:k.exs:=fun y hy=>hex y (by simp[Fo.N,hy])
  have hexn:n.exs:=fun y hy=>hex y (by simp[Fo.N,hy])
  have ihk:=j8p k hok.2.1 hexk;rw[Fo.R]at ht;rcases List.mem_cons.1 ht with rfl|ht
  ·have hlen:k.R.length=kdT x:=by rw[z0y];exact hok.1
   have I:=v6b k.R ihk;rcases q3i (hex x (by simp[Fo.N]))with⟨B,G,A,H,D⟩|⟨B,E,A,D⟩|⟨B,E,A,H,D⟩|⟨B,G,A,H,D⟩|⟨B,G,A,D⟩|⟨B,G,A,D⟩
   ·have:=q3f 5 x.n.toNat (by omega)
    simp[q0x,q2v,B];omega
   ·have:=q4a E
    simp only[q0x,q2v,B];simp at this⊢;omega
   ·have:=q4a E
    simp only[q0x,q2v,B];simp at this I⊢;omega
   ·simp only[q0x,q2v,B];simp at I⊢;omega
   ·obtain⟨a,b,C⟩:=y3h (hlen.trans D);rw[C]at ihk⊢;have J:=ihk a (by simp);have K:=ihk b (by simp);have L:=k4o 0 a;have M:=k4o 1 b;simp[q0x,q2v,B,two2];omega
   ·obtain⟨a,b,C⟩:=y3h (hlen.trans D);rw[C]at ihk⊢;have J:=ihk a (by simp);have K:=ihk b (by simp);have L:=k4o 1 a;have M:=k4o 2 b;simp[q0x,q2v,B,two2];omega
  ·exact j8p n hok.2.2 hexn t ht
def Fo.tk:Nat->Fo->Fo
 | 0,_=>.nil
 | _+1,.nil=>.nil
 | k+1,.cons x a n=>.cons x a (Fo.tk k n)
def Fo.dp:Nat->Fo->Fo
 | 0,f=>f
 | _+1,.nil=>.nil
 | k+1,.cons _ _ n=>Fo.dp k n
theorem k2t:∀f g:Fo,Fo.tk f.len (f.app g)=f
 | .nil,g=>by cases g<;>rfl
 | .cons x k n,g=>by simp only[Fo.len,Fo.app,Fo.tk,k2t n g]
theorem k2n:∀f g:Fo,Fo.dp f.len (f.app g)=g
 | .nil,g=>by cases g<;>rfl
 | .cons x k n,g=>by simp only[Fo.len,Fo.app,Fo.dp,k2n n g]
theorem z0j:∀f:Fo,f.app .nil=f
 | .nil=>rfl
 | .cons x k n=>by simp only[Fo.app,z0j n]
def j1p:List Td->Fo
 | []=>.nil
 | x::r=>.cons x (Fo.tk (kdT x) (j1p r)) (Fo.dp (kdT x) (j1p r))
theorem z6l:∀(F:Fo),F.ok->∀r,j1p (F.N++r)=F.app (j1p r)
 | .nil,_,r=>rfl
 | .cons x k n,h,r=>by
  have e1:=z6l n h.2.2 r;have e2:=z6l k h.2.1 (n.N++r);rw[Fo.N,List.cons_append,List.append_assoc,j1p,e2,e1,<-h.1,k2t,k2n];rfl
theorem k7p(F:Fo)(h:F.ok):j1p F.N=F:=by
 have:=z6l F h []
 rw[List.append_nil]at this;rw[this];exact z0j F
theorem q5y{ds:List Td}(h:q0c ds=0):(∃x,ds=[x]/\x.op=9/\x.n=0/\q3k x.tx=0)\/
  (∃(x:Td)(F:Fo),ds=x::F.N/\F.ok/\F.exs/\F.len=1/\((x.op=7/\q1f x.tx=true/\x.n=0)\/(x.op=8/\x.tx=⟨#[]⟩/\x.n=0))):=by
 obtain⟨_,Q,H,R⟩:=q4d h;cases ds with
 | nil=>rw[z2a [] 0 0 (by simp)]at H;cases H
 | cons x r=>
  have B:=Q x (by simp);simp only[j8g,Bool.and_eq_true,decide_eq_true_eq,List.all_eq_true]at R;rw[z1n,List.drop_zero,q5a,Option.map_map,Option.map_eq_some_iff]at H;obtain⟨j,P,J⟩:=H;simp only[Function.comp_apply,List.length_cons]at J;have K:j=r.length:=by omega
  rw[Nat.add_zero,K]at P;obtain⟨F,O,G,D⟩:=v9m r.length r (kdT x) r.length Zl P;rw[List.take_length]at D
  have E:F.exs:=fun y hy=>by
   rw[D]at hy;exact⟨Q y (by simp[hy]),R.2 y hy⟩
  have I:∀s:ByteArray,¬0<s.size->s=⟨#[]⟩:=fun s hs=>by
   apply ByteArray.ext;apply Array.toList_inj.1;exact List.eq_nil_of_length_eq_zero (by have:=q0b s;simp only[btL]at this;omega)
  unfold q0l at B
  split at B
  ·cases B
  ·rename_i h1
   split at B
   ·cases B
   ·split at B
    ·cases B
    ·rename_i h3;have A:x.op=7\/x.op=8\/x.op=9:=by omega
     rcases A with A|A|A
     ·have C:kdT x=1:=by unfold kdT;rw[A];rfl
      rw[if_neg (by omega)]at B
      split at B
      ·cases B
      ·rename_i h4;refine .inr ⟨x,F,by rw[D],O,E,by rw[G,C],.inl ⟨A,?_,by omega⟩⟩;cases M:q1f x.tx with
       | true=>rfl
       | false=>exact absurd ⟨by rw[A];rfl,M⟩ h4
     ·have C:kdT x=1:=by unfold kdT;rw[A];rfl
      exact .inr ⟨x,F,by rw[D],O,E,by rw[G,C],.inr ⟨A,I _ (fun hh=>h3 (.inr ⟨by rw[A];rfl,hh⟩)),by omega⟩⟩
     ·have L:kdT x=0:=by unfold kdT;rw[A];rfl
      rw[if_pos A]at B
      have S:F=.nil:=by
       cases F with
       | nil=>rfl
       | cons y k n=>rw[L]at G;simp[Fo.len]at G
      rw[S]at D;exact .inl ⟨x,by rw[<-D];rfl,A,by omega,B⟩
def hdT(ks:List Tn):List UInt8:=match ks with
 | t::_=>t.tx
 | []=>[]
def hdK(ks:List Tn):List Wd:=match ks with
 | t::_=>t.tk
 | []=>[]
def stX(x:Td)(ks:List Tn):List UInt8:=
 if x.op=7 then [108,101,116,32]++btL x.tx++[32,61,32]++hdT ks++[59]else if x.op=8 then hdT ks++[59]else if x.tx.size=0 then [35]else [35,32]++btL x.tx
def stK(x:Td)(ks:List Tn):List Wd:=
 if x.op=7 then [108,101,116]::btL x.tx::[61]::(hdK ks++[[59]])else if x.op=8 then hdK ks++[[59]]else [if x.tx.size=0 then [35]else [35,32]++btL x.tx]
def q2n(ds:List Td):List UInt8:=match j1p ds with
 | .nil=>[]
 | .cons x k _=>stX x k.R
def k6y(ds:List Td):List Wd:=match j1p ds with
 | .nil=>[]
 | .cons x k _=>stK x k.R
theorem v7o{x:Td}{F:Fo}(h:F.ok)(hl:F.len=kdT x):j1p (x::F.N)=.cons x F .nil:=by
 have A:=k2t F .nil;have B:=k2n F .nil;rw[z0j]at A B;rw[j1p,k7p F h,<-hl,A,B]
theorem z7z{x:Td}{F:Fo}(h:F.ok)(hl:F.len=kdT x):q2n (x::F.N)=stX x F.R/\k6y (x::F.N)=stK x F.R:=by
 rw[q2n,k6y,v7o h hl];exact⟨rfl,rfl⟩
def q2a(ps:List (List Td)):List UInt8:=ps.flatMap fun t=>q2n t++[10]
theorem z5v(t:List Td)(r:List (List Td)):q2a (t::r)=q2n t++[10]++q2a r:=by simp[q2a]
theorem k9f(r:List (List Td))(t:List Td):q2a (r++[t])=q2a r++(q2n t++[10]):=by simp[q2a]
def v9n(a b:UInt8):Bool:=(q3g a&&q3g b)||(q2s a&&q2s b)
def k0y(b:UInt8):Bool:=!q3g b&&!q2s b
def k2j(s rest:List UInt8):Prop:=∀a b,s.getLast?=some a->rest.head?=some b->v9n a b=false
theorem k8n{a b:UInt8}(h:k0y b=true):v9n a b=false:=by
 simp only[k0y,Bool.and_eq_true,Bool.not_eq_true']at h;simp[v9n,h.1,h.2]
theorem j4d{a b:UInt8}(h:k0y a=true):v9n a b=false:=by
 simp only[k0y,Bool.and_eq_true,Bool.not_eq_true']at h;simp[v9n,h.1,h.2]
theorem q2i{s:List UInt8}{b:UInt8}(h:k0y b=true)(r:List UInt8):k2j s (b::r):=fun _ c _ hc=>by
 simp only[List.head?_cons,Option.some.injEq]at hc;subst hc;exact k8n h
theorem k8d{a:UInt8}(h:k0y a=true)(s r:List UInt8):k2j (s++[a]) r:=fun c _ hc _=>by
 simp only[List.getLast?_append,List.getLast?_singleton,Option.some_or,Option.some.injEq]at hc;subst hc;exact j4d h
def Lx(s:List UInt8)(ws:List Wd):Prop:=∀rest i,k2j s rest->(lxW (s++rest) i).map (·.2)=ws++(lxW rest (i+s.length)).map (·.2)/\lxF (s++rest) i=lxF rest (i+s.length)
theorem Lx.nil:Lx [] []:=fun rest i _=>by simp
theorem Lx.app{s t:List UInt8}{ws us:List Wd}(h1:Lx s ws)(h2:Lx t us)(h:k2j s t):Lx (s++t) (ws++us):=by
 intro A i D
 have E:k2j s (t++A):=by
  intro a b B C;cases t with
  | nil=>
   rw[List.append_nil]at D;exact D a b B C
  | cons c t=>exact h a b B C
 have G:k2j t A:=by
  intro a b B C;refine D a b ?_ C;rw[List.getLast?_append,B];rfl
 obtain⟨H,I⟩:=h1 (t++A) i E;obtain⟨J,K⟩:=h2 A (i+s.length) G;rw[List.append_assoc,H,I,J,K,List.length_append,Nat.add_assoc];exact⟨by simp,rfl⟩
theorem Lx.blank{c:UInt8}(h:spB c=true):Lx [c] []:=by
 intro A i _;rw[List.cons_append,List.nil_append,lxW,lxF,z7h A i h];exact⟨by simp[lxW],by simp[lxF]⟩
theorem Lx.tok{c:UInt8}{r:List UInt8}(hs:spB c=false)(h:∀rest,k2j (c::r) rest->q4o (c::r++rest)=true/\q0m (c::r++rest)=(c::r).length)(ht:q1d (c::r)=c::r):Lx (c::r) [c::r]:=by
 intro rest i E;obtain⟨B,A⟩:=h rest E;rw[List.cons_append]at B A;have C:(c::(r++rest)).drop (q0m (c::(r++rest)))=rest:=by rw[A,<-List.cons_append,List.drop_left]
 have D:tkW (c::(r++rest))=c::r:=by rw[tkW,A,<-List.cons_append,List.take_left,ht]
 rw[List.cons_append,lxW,lxF,z3h i hs B,C,D,A];exact⟨rfl,rfl⟩
theorem k7e{p:UInt8->Bool}:∀(r rest:List UInt8),(∀x∈r,p x=true)->(∀b,rest.head?=some b->p b=false)->(r++rest).takeWhile p=r
 | [],rest,_,h=>by
  cases rest with
  | nil=>rfl
  | cons b t=>rw[List.nil_append,List.takeWhile_cons,if_neg (by simp[h b rfl])]
 | a::r,rest,h,h2=>by
  rw[List.cons_append,List.takeWhile_cons,if_pos (h a (by simp)),k7e r rest (fun x hx=>h x (by simp[hx])) h2]
theorem k5o{s:List UInt8}(h:s≠[]):∃a,s.getLast?=some a/\a∈s:=by
 refine⟨s.getLast h,List.getLast?_eq_some_getLast h,List.getLast_mem h⟩
theorem j8n{p:UInt8->Bool}(hp:∀x,p x=true->x≠32){l:List UInt8}(h:∀x∈l,p x=true):q1d l=l:=by
 rcases List.eq_nil_or_concat l with rfl|⟨v,c,rfl⟩
 ·rfl
 ·rw[List.concat_eq_append]at h⊢;exact q1k v (hp c (h c (by simp)))
theorem y5c{c:UInt8}(h:q3g c=true):spB c=false:=by
 have A:c≠32:=z9t h;have B:c≠10:=by rintro rfl;revert h;decide
 simp[spB,A,B]
theorem y4l{c:UInt8}(h:q2s c=true):spB c=false:=by
 have A:c≠32:=z9g h;have B:c≠10:=by rintro rfl;revert h;decide
 simp[spB,A,B]
theorem Lx.name{w:Wd}(h:∀x∈w,q3g x=true)(h0:w≠[])(h8:w.length<=8):Lx w [w]:=by
 cases w with
 | nil=>exact absurd rfl h0
 | cons c r=>
  have B:=h c (by simp);refine Lx.tok (y5c B) (fun rest hr=>?_) (j8n (fun _=>z9t) h);obtain⟨a,C,D⟩:=k5o (s:=c::r) (by simp)
  have A:∀b,rest.head?=some b->q3g b=false:=fun b A=>by
   have:=hr a b C A
   simp only[v9n,h a D,Bool.true_and,Bool.or_eq_false_iff]at this;exact this.1
  have e:=k7e r rest (fun x hx=>h x (by simp[hx])) A;rw[List.cons_append];simp only[q4o,q0m,B,if_true,e];simp only[List.length_cons]at h8⊢;exact⟨decide_eq_true h8,trivial⟩
theorem Lx.num(n:Nat)(hn:n<=999999):Lx (q1u n) [q1u n]:=by
 have B:=z1z n;have D:=q3f 5 n (by omega)
 have K:∀c r,q1u n=c::r->(c != 48||r.length==0)=true:=fun c r e=>by
  rcases Nat.eq_zero_or_pos n with h|h
  ·subst h;rw[q1u,dif_pos (by omega)]at e;cases e;rfl
  ·obtain⟨d,z,H,A⟩:=z9b n h;rw[e,List.cons.injEq]at H;rw[H.1];simp[A]
 cases A:q1u n with
 | nil=>exact absurd A (z6p n)
 | cons c r=>
  rw[A]at B D;have G:=B c (by simp);have C:q3g c=false:=k2l G;refine Lx.tok (y4l G) (fun rest hr=>?_) (j8n (fun _=>z9g) B);obtain⟨a,I,J⟩:=k5o (s:=c::r) (by simp)
  have E:∀b,rest.head?=some b->q2s b=false:=fun b E=>by
   have:=hr a b I E
   simp only[v9n,B a J,Bool.true_and,Bool.or_eq_false_iff]at this;exact this.2
  have e:=k7e r rest (fun x hx=>B x (by simp[hx])) E;rw[List.cons_append];simp only[q4o,q0m,G,C,if_true,Bool.false_eq_true,if_false,e];simp only[List.length_cons]at D⊢;exact⟨by rw[decide_eq_true D,K c r A];rfl,trivial⟩
theorem Lx.mark{c:UInt8}(h:y7x c=true):Lx [c] [[c]]:=by
 have G:spB c=false/\q3g c=false/\q2s c=false/\(c==35)=false/\c≠32:=by
  simp only[y7x,y5j,List.any_cons,List.any_nil,Bool.or_false,Bool.or_eq_true,beq_iff_eq]at h;rcases h with h|h|h|h|h|h|h|h|h<;>(subst h;decide)
 obtain⟨A,B,C,D,E⟩:=G;refine Lx.tok A (fun rest _=>?_) (q1k [] E);rw[List.cons_append];simp only[q4o,q0m,B,C,D,Bool.false_eq_true,if_false];exact⟨h,rfl⟩
theorem Lx.pre{c:UInt8}{t:List UInt8}{ws us:List Wd}(h1:Lx [c] ws)(hc:k0y c=true)(h2:Lx t us):Lx (c::t) (ws++us):=
 Lx.app h1 h2 (k8d hc [] t)
theorem Lx.post{c:UInt8}{s:List UInt8}{ws us:List Wd}(h1:Lx s ws)(hc:k0y c=true)(h2:Lx [c] us):Lx (s++[c]) (ws++us):=
 Lx.app h1 h2 (q2i hc [])
theorem k5u{t:Tn}(h:Lx t.tx t.tk)(l:Nat):Lx (brx l t) (brk l t):=by
 unfold brx brk
 split
 ·exact Lx.pre (Lx.mark (c:=40) rfl) rfl (Lx.post h rfl (Lx.mark (c:=41) rfl))
 ·exact h
theorem y5g:∀ks:List Tn,(∀t∈ks,Lx t.tx t.tk)->Lx (cmx ks) (cmk ks)
 | [],_=>Lx.nil
 | [t],h=>by simpa[cmx,cmk]using h t (by simp)
 | t::u::r,h=>by
  have ih:=y5g (u::r) fun x hx=>h x (by simp[hx])
  rw[cmx,cmk]
  have h3:Lx (44::32::cmx (u::r)) ([44]::cmk (u::r)):=by
   have:=Lx.pre (Lx.mark (c:=44) rfl) rfl (Lx.pre (Lx.blank (c:=32) rfl) rfl ih)
   simpa using this
  exact Lx.app (h t (by simp)) h3 (q2i rfl _)
theorem j5s:∀F:Fo,F.ok->F.exs->∀t∈F.R,Lx t.tx t.tk
 | .nil,_,_,t,ht=>by cases ht
 | .cons x k n,hok,hex,t,ht=>by
  have hexk:k.exs:=fun y hy=>hex y (by simp[Fo.N,hy])
  have hexn:n.exs:=fun y hy=>hex y (by simp[Fo.N,hy])
  have ihk:=j5s k hok.2.1 hexk;rw[Fo.R]at ht;rcases List.mem_cons.1 ht with rfl|ht
  ·have hlen:k.R.length=kdT x:=by rw[z0y];exact hok.1
   have M:=y5g k.R ihk;rcases q3i (hex x (by simp[Fo.N]))with⟨A,J,E,K,H⟩|⟨A,I,E,H⟩|⟨A,I,E,K,H⟩|⟨A,J,E,K,H⟩|⟨A,J,E,H⟩|⟨A,J,E,H⟩
   ·have B:(q0x x k.R).tx=q1u x.n.toNat:=by simp[q0x,q2v,A]
    have C:(q0x x k.R).tk=[q1u x.n.toNat]:=by simp[q0x,j0a,A]
    rw[B,C];exact Lx.num _ (by omega)
   ·obtain⟨c,z,e,_,_,L,D⟩:=q7g (w:=btL x.tx) I;have B:(q0x x k.R).tx=btL x.tx:=by simp[q0x,q2v,A]
    have C:(q0x x k.R).tk=[btL x.tx]:=by simp[q0x,j0a,A]
    rw[B,C];exact Lx.name D (by rw[e];simp) L
   ·obtain⟨c,z,e,_,_,L,D⟩:=q7g (w:=btL x.tx) I;have B:(q0x x k.R).tx=btL x.tx++40::(cmx k.R++[41]):=by simp[q0x,q2v,A]
    have C:(q0x x k.R).tk=[btL x.tx]++([[40]]++(cmk k.R++[[41]])):=by simp[q0x,j0a,A]
    rw[B,C];exact Lx.app (Lx.name D (by rw[e];simp) L) (Lx.pre (Lx.mark (c:=40) rfl) rfl (Lx.post M rfl (Lx.mark (c:=41) rfl))) (q2i rfl _)
   ·have B:(q0x x k.R).tx=91::(cmx k.R++[93]):=by simp[q0x,q2v,A]
    have C:(q0x x k.R).tk=[[91]]++(cmk k.R++[[93]]):=by simp[q0x,j0a,A]
    rw[B,C];exact Lx.pre (Lx.mark (c:=91) rfl) rfl (Lx.post M rfl (Lx.mark (c:=93) rfl))
   ·obtain⟨a,b,G⟩:=y3h (hlen.trans H);rw[G]at ihk⊢;have B:(q0x x [a,b]).tx=brx 0 a++32::43::32::brx 1 b:=by simp[q0x,q2v,two2,A]
    have C:(q0x x [a,b]).tk=brk 0 a++([]++([[43]]++([]++brk 1 b))):=by simp[q0x,j0a,two2,A]
    rw[B,C];exact Lx.app (k5u (ihk a (by simp)) 0) (Lx.pre (Lx.blank (c:=32) rfl) rfl (Lx.pre (Lx.mark (c:=43) rfl) rfl (Lx.pre (Lx.blank (c:=32) rfl) rfl (k5u (ihk b (by simp)) 1)))) (q2i rfl _)
   ·obtain⟨a,b,G⟩:=y3h (hlen.trans H);rw[G]at ihk⊢;have B:(q0x x [a,b]).tx=brx 1 a++32::42::32::brx 2 b:=by simp[q0x,q2v,two2,A]
    have C:(q0x x [a,b]).tk=brk 1 a++([]++([[42]]++([]++brk 2 b))):=by simp[q0x,j0a,two2,A]
    rw[B,C];exact Lx.app (k5u (ihk a (by simp)) 1) (Lx.pre (Lx.blank (c:=32) rfl) rfl (Lx.pre (Lx.mark (c:=42) rfl) rfl (Lx.pre (Lx.blank (c:=32) rfl) rfl (k5u (ihk b (by simp)) 2)))) (q2i rfl _)
  ·exact j5s n hok.2.2 hexn t ht
def Tds(w:World)(a:Option Addr)(ds:List Td):Prop:=
 ∀i(h:i<ds.length),∃b o,a=some ⟨b,o,none⟩/\b<w.heap.size/\w.cell? ⟨b,o+i*3,none⟩=some (.int .i64 ds[i].op)/\w.cell? ⟨b,o+i*3+1,none⟩=some (.string ds[i].tx)/\w.cell? ⟨b,o+i*3+2,none⟩=some (.int .i64 ds[i].n)
theorem Tds.W{w w':World}{a:Option Addr}{ds:List Td}(h:Tds w a ds)(hb:Below w w w'):Tds w' a ds:=by
 intro i G;obtain⟨b,o,e,A,C,D,E⟩:=h i G;obtain⟨B,_⟩:=q0t hb
 have:=hb.size
 exact⟨b,o,e,by omega,(B _ _ A).trans C,(B _ _ A).trans D,(B _ _ A).trans E⟩
theorem Tds.alloc{w:World}{a:Option Addr}{ds:List Td}(h:Tds w a ds)(o:Obj):Tds (w.alloc o) a ds:=h.W (Zb.alloc Zl _)
theorem Tds.nil(w:World)(a:Option Addr):Tds w a []:=fun i hi=>by simp at hi
abbrev tdV(x:Td):Value:=.agg #[.int .i64 x.op,.string x.tx,.int .i64 x.n]
def kdZ(x:Td):Int:=if x.op=3\/x.op=4 then x.n else(kdT x:Int)
theorem y4v{x:Td}(h:q0l x=0):kdZ x=(kdT x:Int):=by
 unfold kdZ
 split
 ·rename_i h1;rw[kdT,if_pos h1];unfold q0l at h
  split at h
  ·cases h
  ·split at h
   ·cases h
   ·omega
 ·rfl
end Go.Proofs.YtelcnplcpboonaaGreatDoor
