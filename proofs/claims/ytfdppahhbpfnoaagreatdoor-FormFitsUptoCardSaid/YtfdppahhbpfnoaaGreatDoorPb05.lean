import Derived.Test.YtfdppahhbpfnoaaGreatDoorPb01
open Go.Proofs.Tryz
namespace Go.Proofs.YtfdppahhbpfnoaaGreatDoor
open Go Go.RowKit
inductive Job where
 | level (k:Nat):Job
 | loop (k:Nat) (acc:List Td):Job
 | single:Job
 | args (e:Wd) (n:Nat) (acc:List Td):Job
inductive Rs where
 | ok (n:Nat) (ns:List Td) (rest:List Wd):Rs
 | bad (rest:List Wd):Rs
def sgn(k:Nat):Wd:=if k=0 then [43]else [42]
def sgT(k:Nat):Td:=⟨5+k,⟨#[]⟩,0⟩
def k3y(w:Wd):Bool:=q4f (w.headD 0)
def nmW(w:Wd):Bool:=q0o (wbS w)
def v8b(w:Wd):Td:=⟨1,⟨#[]⟩,(j8b w:Nat)⟩
def nmT(w:Wd):Td:=⟨2,wbS w,0⟩
def clT(w:Wd)(n:Nat):Td:=⟨3,wbS w,(n:Nat)⟩
def lsT(n:Nat):Td:=⟨4,⟨#[]⟩,(n:Nat)⟩
inductive PR:Job->List Wd->Rs->Prop where
 | lev2 {ts r}:PR .single ts r->PR (.level 2) ts r
 | levB {k ts u}:k<2->PR (.level (k+1)) ts (.bad u)->PR (.level k) ts (.bad u)
 | levO {k ts m ns u r}:k<2->PR (.level (k+1)) ts (.ok m ns u)->PR (.loop k ns) u r->PR (.level k) ts r
 | lopE {k acc ts}:ts.head?≠some (sgn k)->PR (.loop k acc) ts (.ok 0 acc ts)
 | lopB {k acc ts u}:PR (.level (k+1)) ts (.bad u)->PR (.loop k acc) (sgn k::ts) (.bad u)
 | lopO {k acc ts m ns u r}:PR (.level (k+1)) ts (.ok m ns u)->PR (.loop k (sgT k::(acc++ns))) u r->PR (.loop k acc) (sgn k::ts) r
 | sinN:PR .single [] (.bad [])
 | sPB {ts u}:PR (.level 0) ts (.bad u)->PR .single ([40]::ts) (.bad u)
 | sPC {ts m ns u}:PR (.level 0) ts (.ok m ns ([41]::u))->PR .single ([40]::ts) (.ok 0 ns u)
 | sPX {ts m ns u}:PR (.level 0) ts (.ok m ns u)->u.head?≠some [41]->PR .single ([40]::ts) (.bad u)
 | sLB {ts u}:PR (.args [93] 0 []) ts (.bad u)->PR .single ([91]::ts) (.bad u)
 | sLO {ts n ns u}:PR (.args [93] 0 []) ts (.ok n ns u)->PR .single ([91]::ts) (.ok 0 (lsT n::ns) u)
 | sNum {w ts}:k3y w=true->PR .single (w::ts) (.ok 0 [v8b w] ts)
 | sName {w ts}:nmW w=true->ts.head?≠some [40]->PR .single (w::ts) (.ok 0 [nmT w] ts)
 | sCB {w ts u}:nmW w=true->PR (.args [41] 0 []) ts (.bad u)->PR .single (w::[40]::ts) (.bad u)
 | sCO {w ts n ns u}:nmW w=true->PR (.args [41] 0 []) ts (.ok n ns u)->PR .single (w::[40]::ts) (.ok 0 (clT w n::ns) u)
 | sBad {w ts}:w≠[40]->w≠[91]->k3y w=false->nmW w=false->PR .single (w::ts) (.bad (w::ts))
 | aEnd {e n acc ts}:PR (.args e n acc) (e::ts) (.ok n acc ts)
 | aSep {e n acc ts}:ts.head?≠some e->ts.head?≠some [44]->PR (.args e (n+1) acc) ts (.bad ts)
 | aB0 {e acc ts u}:ts.head?≠some e->PR (.level 0) ts (.bad u)->PR (.args e 0 acc) ts (.bad u)
 | aO0 {e acc ts m ns u r}:ts.head?≠some e->PR (.level 0) ts (.ok m ns u)->PR (.args e 1 (acc++ns)) u r->PR (.args e 0 acc) ts r
 | aB {e n acc ts u}:e≠[44]->PR (.level 0) ts (.bad u)->PR (.args e (n+1) acc) ([44]::ts) (.bad u)
 | aO {e n acc ts m ns u r}:e≠[44]->PR (.level 0) ts (.ok m ns u)->PR (.args e (n+2) (acc++ns)) u r->PR (.args e (n+1) acc) ([44]::ts) r
theorem q4y{w:Wd}(h:k3y w=true):nmW w=false:=by
 cases A:nmW w with
 | false=>rfl
 | true=>
  exfalso;unfold nmW q0o at A;simp only[Bool.and_eq_true,List.all_eq_true,decide_eq_true_eq]at A;cases w with
  | nil=>simp[wbS,ByteArray.size]at A
  | cons c z=>
   have B:=A.2 c (by show c∈(c::z);simp);have C:q4f c=true:=h
   have:=k4s C
   rw[B]at this;cases this
theorem y7e:k3y [40]=false:=by decide
theorem y7f:k3y [91]=false:=by decide
theorem y3e:nmW [40]=false:=by decide
theorem y3f:nmW [91]=false:=by decide
theorem q2v{j:Job}{ts:List Wd}{r:Rs}(h:PR j ts r):∀{r':Rs},PR j ts r'->r=r':=by
 have D:=y7e;have E:=y7f;have B:=y3e;have C:=y3f
 induction h with
 | lev2 _ ih=>intro r' A;cases A with
  | lev2 h2=>exact ih h2
  | levB h0=>omega
  | levO h0=>omega
 | levB h0 _ ih=>intro r' A;cases A with
  | lev2 h2=>omega
  | levB _ h2=>exact ih h2
  | levO _ h2 _=>cases ih h2
 | levO h0 _ _ ih1 ih2=>intro r' A;cases A with
  | lev2 h2=>omega
  | levB _ h2=>cases ih1 h2
  | levO _ h2 h3=>cases ih1 h2;exact ih2 h3
 | lopE h0=>intro r' A;cases A with
  | lopE _=>rfl
  | lopB _=>simp at h0
  | lopO _ _=>simp at h0
 | lopB _ ih=>intro r' A;cases A with
  | lopE h0=>simp at h0
  | lopB h2=>exact ih h2
  | lopO h2 _=>cases ih h2
 | lopO _ _ ih1 ih2=>intro r' A;cases A with
  | lopE h0=>simp at h0
  | lopB h2=>cases ih1 h2
  | lopO h2 h3=>cases ih1 h2;exact ih2 h3
 | sinN=>intro r' A;cases A;rfl
 | sPB _ ih=>intro r' A;cases A with
  | sPB h2=>exact ih h2
  | sPC h2=>cases ih h2
  | sPX h2 _=>cases ih h2
  | sNum h2=>rw[D]at h2;cases h2
  | sName h2 _=>rw[B]at h2;cases h2
  | sCB h2 _=>rw[B]at h2;cases h2
  | sCO h2 _=>rw[B]at h2;cases h2
  | sBad h2=>exact absurd rfl h2
 | sPC _ ih=>intro r' A;cases A with
  | sPB h2=>cases ih h2
  | sPC h2=>cases ih h2;rfl
  | sPX h2 h3=>cases ih h2;simp at h3
  | sNum h2=>rw[D]at h2;cases h2
  | sName h2 _=>rw[B]at h2;cases h2
  | sCB h2 _=>rw[B]at h2;cases h2
  | sCO h2 _=>rw[B]at h2;cases h2
  | sBad h2=>exact absurd rfl h2
 | sPX _ h0 ih=>intro r' A;cases A with
  | sPB h2=>cases ih h2
  | sPC h2=>cases ih h2;simp at h0
  | sPX h2 h3=>cases ih h2;rfl
  | sNum h2=>rw[D]at h2;cases h2
  | sName h2 _=>rw[B]at h2;cases h2
  | sCB h2 _=>rw[B]at h2;cases h2
  | sCO h2 _=>rw[B]at h2;cases h2
  | sBad h2=>exact absurd rfl h2
 | sLB _ ih=>intro r' A;cases A with
  | sLB h2=>exact ih h2
  | sLO h2=>cases ih h2
  | sNum h2=>rw[E]at h2;cases h2
  | sName h2 _=>rw[C]at h2;cases h2
  | sCB h2 _=>rw[C]at h2;cases h2
  | sCO h2 _=>rw[C]at h2;cases h2
  | sBad _ h2=>exact absurd rfl h2
 | sLO _ ih=>intro r' A;cases A with
  | sLB h2=>cases ih h2
  | sLO h2=>cases ih h2;rfl
  | sNum h2=>rw[E]at h2;cases h2
  | sName h2 _=>rw[C]at h2;cases h2
  | sCB h2 _=>rw[C]at h2;cases h2
  | sCO h2 _=>rw[C]at h2;cases h2
  | sBad _ h2=>exact absurd rfl h2
 | sNum h0=>
  have G:=q4y h0;intro r' A;cases A with
  | sPB h2=>rw[D]at h0;cases h0
  | sPC h2=>rw[D]at h0;cases h0
  | sPX h2 h3=>rw[D]at h0;cases h0
  | sLB h2=>rw[E]at h0;cases h0
  | sLO h2=>rw[E]at h0;cases h0
  | sNum h2=>rfl
  | sName h2 _=>rw[G]at h2;cases h2
  | sCB h2 _=>rw[G]at h2;cases h2
  | sCO h2 _=>rw[G]at h2;cases h2
  | sBad _ _ h2=>rw[h0]at h2;cases h2
 | sName h0 h1=>
  intro r' A;cases A with
  | sPB h2=>rw[B]at h0;cases h0
  | sPC h2=>rw[B]at h0;cases h0
  | sPX h2 h3=>rw[B]at h0;cases h0
  | sLB h2=>rw[C]at h0;cases h0
  | sLO h2=>rw[C]at h0;cases h0
  | sNum h2=>rw[q4y h2]at h0;cases h0
  | sName h2 _=>rfl
  | sCB h2 _=>simp at h1
  | sCO h2 _=>simp at h1
  | sBad _ _ _ h2=>rw[h0]at h2;cases h2
 | sCB h0 _ ih=>
  intro r' A;cases A with
  | sPB h2=>rw[B]at h0;cases h0
  | sPC h2=>rw[B]at h0;cases h0
  | sPX h2 h3=>rw[B]at h0;cases h0
  | sLB h2=>rw[C]at h0;cases h0
  | sLO h2=>rw[C]at h0;cases h0
  | sNum h2=>rw[q4y h2]at h0;cases h0
  | sName _ h2=>simp at h2
  | sCB _ h2=>exact ih h2
  | sCO _ h2=>cases ih h2
  | sBad _ _ _ h2=>rw[h0]at h2;cases h2
 | sCO h0 _ ih=>
  intro r' A;cases A with
  | sPB h2=>rw[B]at h0;cases h0
  | sPC h2=>rw[B]at h0;cases h0
  | sPX h2 h3=>rw[B]at h0;cases h0
  | sLB h2=>rw[C]at h0;cases h0
  | sLO h2=>rw[C]at h0;cases h0
  | sNum h2=>rw[q4y h2]at h0;cases h0
  | sName _ h2=>simp at h2
  | sCB _ h2=>cases ih h2
  | sCO _ h2=>cases ih h2;rfl
  | sBad _ _ _ h2=>rw[h0]at h2;cases h2
 | sBad h0 h1 h3 h4=>
  intro r' A;cases A with
  | sPB h2=>exact absurd rfl h0
  | sPC h2=>exact absurd rfl h0
  | sPX h2 _=>exact absurd rfl h0
  | sLB h2=>exact absurd rfl h1
  | sLO h2=>exact absurd rfl h1
  | sNum h2=>rw[h3]at h2;cases h2
  | sName h2 _=>rw[h4]at h2;cases h2
  | sCB h2 _=>rw[h4]at h2;cases h2
  | sCO h2 _=>rw[h4]at h2;cases h2
  | sBad _ _ _ h2=>rfl
 | aEnd=>
  intro r' A;cases A with
  | aEnd=>rfl
  | aSep h2 _=>simp at h2
  | aB0 h2 _=>simp at h2
  | aO0 h2 _ _=>simp at h2
  | aB h2 _=>exact absurd rfl h2
  | aO h2 _ _=>exact absurd rfl h2
 | aSep h0 h1=>
  intro r' A;cases A with
  | aEnd=>simp at h0
  | aSep h2 _=>rfl
  | aB h2 _=>simp at h1
  | aO h2 _ _=>simp at h1
 | aB0 h0 _ ih=>
  intro r' A;cases A with
  | aEnd=>simp at h0
  | aB0 _ h2=>exact ih h2
  | aO0 _ h2 _=>cases ih h2
 | aO0 h0 _ _ ih1 ih2=>
  intro r' A;cases A with
  | aEnd=>simp at h0
  | aB0 _ h2=>cases ih1 h2
  | aO0 _ h2 h3=>cases ih1 h2;exact ih2 h3
 | aB h0 _ ih=>
  intro r' A;cases A with
  | aEnd=>exact absurd rfl h0
  | aSep _ h2=>simp at h2
  | aB _ h2=>exact ih h2
  | aO _ h2 _=>cases ih h2
 | aO h0 _ _ ih1 ih2=>
  intro r' A;cases A with
  | aEnd=>exact absurd rfl h0
  | aSep _ h2=>simp at h2
  | aB _ h2=>cases ih1 h2
  | aO _ h2 h3=>cases ih1 h2;exact ih2 h3
def Rs.rest:Rs->List Wd
 | .ok _ _ u=>u
 | .bad u=>u
def Job.eats:Job->Nat
 | .level _=>1
 | .single=>1
 | _=>0
theorem q2i{α:Type}{u ts:List α}(w:α)(h:u <:+ ts):u <:+ w::ts:=h.trans (List.suffix_cons w ts)
theorem z0g{j:Job}{ts:List Wd}{r:Rs}(h:PR j ts r):r.rest <:+ ts/\∀m ns u,r=.ok m ns u->u.length+j.eats<=ts.length:=by
 induction h with
 | lev2 _ ih=>exact ih
 | levB _ _ ih=>exact⟨ih.1,fun _ _ _ e=>by cases e⟩
 | levO _ _ _ ih1 ih2=>
  have A:=ih1.2 _ _ _ rfl;refine⟨ih2.1.trans ih1.1,fun m ns u e=>?_⟩;have B:=ih2.2 _ _ _ e;simp only[Job.eats]at A B⊢;omega
 | lopE _=>exact⟨List.suffix_refl _,fun _ _ _ e=>by cases e;simp[Job.eats]⟩
 | lopB _ ih=>exact⟨q2i _ ih.1,fun _ _ _ e=>by cases e⟩
 | lopO _ _ ih1 ih2=>
  have A:=ih1.2 _ _ _ rfl;refine⟨q2i _ (ih2.1.trans ih1.1),fun m ns u e=>?_⟩;have B:=ih2.2 _ _ _ e;simp only[Job.eats,List.length_cons]at A B⊢;omega
 | sinN=>exact⟨List.suffix_refl _,fun _ _ _ e=>by cases e⟩
 | sPB _ ih=>exact⟨q2i _ ih.1,fun _ _ _ e=>by cases e⟩
 | sPC _ ih=>
  have A:=ih.2 _ _ _ rfl;refine⟨q2i _ ((List.suffix_cons _ _).trans ih.1),fun m ns u e=>?_⟩;cases e;simp only[Job.eats,List.length_cons]at A⊢;omega
 | sPX _ _ ih=>exact⟨q2i _ ih.1,fun _ _ _ e=>by cases e⟩
 | sLB _ ih=>exact⟨q2i _ ih.1,fun _ _ _ e=>by cases e⟩
 | sLO _ ih=>
  have A:=ih.2 _ _ _ rfl;refine⟨q2i _ ih.1,fun m ns u e=>?_⟩;cases e;simp only[Job.eats,List.length_cons]at A⊢;omega
 | sNum _=>exact⟨List.suffix_cons _ _,fun _ _ _ e=>by cases e;simp[Job.eats]⟩
 | sName _ _=>exact⟨List.suffix_cons _ _,fun _ _ _ e=>by cases e;simp[Job.eats]⟩
 | sCB _ _ ih=>exact⟨q2i _ (q2i _ ih.1),fun _ _ _ e=>by cases e⟩
 | sCO _ _ ih=>
  have A:=ih.2 _ _ _ rfl;refine⟨q2i _ (q2i _ ih.1),fun m ns u e=>?_⟩;cases e;simp only[Job.eats,List.length_cons]at A⊢;omega
 | sBad _ _ _ _=>exact⟨List.suffix_refl _,fun _ _ _ e=>by cases e⟩
 | aEnd=>exact⟨List.suffix_cons _ _,fun _ _ _ e=>by cases e;simp[Job.eats]⟩
 | aSep _ _=>exact⟨List.suffix_refl _,fun _ _ _ e=>by cases e⟩
 | aB0 _ _ ih=>exact⟨ih.1,fun _ _ _ e=>by cases e⟩
 | aO0 _ _ _ ih1 ih2=>
  have A:=ih1.2 _ _ _ rfl;refine⟨ih2.1.trans ih1.1,fun m ns u e=>?_⟩;have B:=ih2.2 _ _ _ e;simp only[Job.eats]at A B⊢;omega
 | aB _ _ ih=>exact⟨q2i _ ih.1,fun _ _ _ e=>by cases e⟩
 | aO _ _ _ ih1 ih2=>
  have A:=ih1.2 _ _ _ rfl;refine⟨q2i _ (ih2.1.trans ih1.1),fun m ns u e=>?_⟩;have B:=ih2.2 _ _ _ e;simp only[Job.eats,List.length_cons]at A B⊢;omega
def y4y(w:Wd):Prop:=w=[40]\/w=[91]\/k3y w=true\/nmW w=true
theorem j0x{w:Wd}(h:nmW w=true):∃c z,w=c::z/\q2f c=true/\w≠[108,101,116]/\w.length<=8/\∀b∈w,q2f b=true:=by
 unfold nmW q0o at h;simp only[Bool.and_eq_true,List.all_eq_true,decide_eq_true_eq]at h;obtain⟨⟨⟨C,A⟩,D⟩,B⟩:=h;cases w with
 | nil=>simp[wbS,ByteArray.size]at C
 | cons c z=>
  refine⟨c,z,rfl,B c (by show c∈(c::z);simp),D,?_,B⟩;have e:(wbS (c::z)).size=(c::z).length:=by rw[<-q0c];rfl
  rw[e]at A;exact A
theorem z3j{w:Wd}(h:y4y w):w≠[41]/\w≠[93]/\w≠[44]/\w≠[108,101,116]/\w.headD 0≠35:=by
 rcases h with rfl|rfl|h|h
 ·decide
 ·decide
 ·have:∀c:UInt8,q4f c=true->c≠41/\c≠93/\c≠44/\c≠108/\c≠35:=fun c A=>by
   refine⟨?_,?_,?_,?_,?_⟩<;>(rintro rfl;revert A;decide)
  cases w with
  | nil=>exact absurd h (by decide)
  | cons c z=>
   obtain⟨D,E,G,H,B⟩:=this c h;refine⟨?_,?_,?_,?_,B⟩<;>(intro e;rw[List.cons.injEq]at e;simp_all)
 ·obtain⟨c,z,rfl,A,C,_,_⟩:=j0x h
  have:c≠41/\c≠93/\c≠44/\c≠35:=by
   refine⟨?_,?_,?_,?_⟩<;>(rintro rfl;revert A;decide)
  refine⟨?_,?_,?_,C,this.2.2.2⟩<;>(intro e;rw[List.cons.injEq]at e;simp_all)
structure z2m(t:Tn):Prop where
 b:∃w z,t.tk=w::z/\y4y w
 s:∀rest:List Wd,rest.head?≠some [40]->PR .single (brk 2 t++rest) (.ok 0 t.ns rest)
 l1:∀(rest:List Wd)(r:Rs),rest.head?≠some [40]->PR (.loop 1 t.ns) rest r->PR (.level 1) (brk 1 t++rest) r
 l0:∀(rest:List Wd)(r:Rs),rest.head?≠some [40]->rest.head?≠some [42]->PR (.loop 0 t.ns) rest r->PR (.level 0) (brk 0 t++rest) r
theorem q3m(t:Tn):brk 0 t=t.tk:=by simp[brk]
theorem z8x{t:Tn}(h:z2m t){rest:List Wd}(h1:rest.head?≠some [40])(h2:rest.head?≠some [42])(h3:rest.head?≠some [43]):PR (.level 0) (t.tk++rest) (.ok 0 t.ns rest):=by
 have:=h.l0 rest (.ok 0 t.ns rest) h1 h2 (.lopE h3)
 rwa[q3m]at this
theorem y2x{t:Tn}(h:z2m t){rest:List Wd}(h1:rest.head?≠some [40])(h2:rest.head?≠some [42]):PR (.level 1) (brk 1 t++rest) (.ok 0 t.ns rest):=
 h.l1 rest (.ok 0 t.ns rest) h1 (.lopE h2)
theorem q4z{t:Tn}(hp:prc t.x=2)(hb:∃w z,t.tk=w::z/\y4y w)(h:∀rest:List Wd,rest.head?≠some [40]->PR .single (t.tk++rest) (.ok 0 t.ns rest)):z2m t:=by
 have B:brk 1 t=t.tk:=by rw[brk,if_neg (by omega)]
 have C:brk 2 t=t.tk:=by rw[brk,if_neg (by omega)]
 have A:∀(rest:List Wd)(r:Rs),rest.head?≠some [40]->PR (.loop 1 t.ns) rest r->PR (.level 1) (t.tk++rest) r:=
  fun rest r hr hl=>.levO (by omega) (.lev2 (h rest hr)) hl
 refine⟨hb,by rw[C];exact h,by rw[B];exact A,fun rest r hr hs hl=>?_⟩;rw[q3m];exact .levO (by omega) (A rest _ hr (.lopE hs)) hl
theorem j3f{t:Tn}(h:∃w z,t.tk=w::z/\y4y w)(l:Nat)(r:List Wd):∃w z,brk l t++r=w::z/\y4y w:=by
 by_cases A:prc t.x<l
 ·rw[brk,if_pos A];exact⟨[40],_,rfl,.inl rfl⟩
 ·rw[brk,if_neg A];obtain⟨w,z,e,B⟩:=h;exact⟨w,z++r,by rw[e];rfl,B⟩
theorem k2z{t:Tn}{l:Nat}(hp:prc t.x<l)(hl:∀rest:List Wd,rest.head?≠some [40]->rest.head?≠some [42]->rest.head?≠some [43]->PR (.level 0) (t.tk++rest) (.ok 0 t.ns rest))(rest:List Wd):PR .single (brk l t++rest) (.ok 0 t.ns rest):=by
 rw[brk,if_pos hp,List.cons_append,List.append_assoc];exact .sPC (hl ([41]::rest) (by simp) (by simp) (by simp))
theorem j9f{x:Td}{a b:Tn}(hx:x=sgT 1)(ha:z2m a)(hb:z2m b):z2m (q0x x [a,b]):=by
 have H:x.op=6:=by rw[hx];rfl
 have J:prc (q0x x [a,b]).x=1:=by simp[q0x,prc,H]
 have G:(q0x x [a,b]).tk=brk 1 a++[42]::brk 2 b:=by simp[q0x,q3t,two2,H]
 have I:(q0x x [a,b]).ns=sgT 1::(a.ns++b.ns):=by simp[q0x,hx]
 have E:∀(A:List Wd)(r:Rs),A.head?≠some [40]->PR (.loop 1 (q0x x [a,b]).ns) A r->PR (.level 1) ((q0x x [a,b]).tk++A) r:=by
  intro A r C B;rw[G,List.append_assoc];refine ha.l1 _ _ (by simp) ?_;rw[I]at B;exact .lopO (k:=1) (.lev2 (hb.s A C)) B
 have D:∀(A:List Wd)(r:Rs),A.head?≠some [40]->A.head?≠some [42]->PR (.loop 0 (q0x x [a,b]).ns) A r->PR (.level 0) ((q0x x [a,b]).tk++A) r:=
  fun A r C hs B=>.levO (by omega) (E A _ C (.lopE hs)) B
 refine⟨by rw[G];exact j3f ha.b _ _,fun A _=>k2z (by omega) (fun A h40 h42 h43=>D A _ h40 h42 (.lopE h43)) A,fun A r C B=>?_,fun A r C hs B=>?_⟩
 ·rw[brk,if_neg (by omega)];exact E A r C B
 ·rw[q3m];exact D A r C hs B
theorem j9g{x:Td}{a b:Tn}(hx:x=sgT 0)(ha:z2m a)(hb:z2m b):z2m (q0x x [a,b]):=by
 have H:x.op=5:=by rw[hx];rfl
 have J:prc (q0x x [a,b]).x=0:=by simp[q0x,prc,H]
 have G:(q0x x [a,b]).tk=brk 0 a++[43]::brk 1 b:=by simp[q0x,q3t,two2,H]
 have I:(q0x x [a,b]).ns=sgT 0::(a.ns++b.ns):=by simp[q0x,hx]
 have E:∀(A:List Wd)(r:Rs),A.head?≠some [40]->A.head?≠some [42]->PR (.loop 0 (q0x x [a,b]).ns) A r->PR (.level 0) ((q0x x [a,b]).tk++A) r:=by
  intro A r D C B;rw[G,List.append_assoc];refine ha.l0 _ _ (by simp) (by simp) ?_;rw[I]at B;exact .lopO (k:=0) (y2x hb D C) B
 have C:∀l,0<l->∀A:List Wd,PR .single (brk l (q0x x [a,b])++A) (.ok 0 (q0x x [a,b]).ns A):=
  fun l B A=>k2z (by omega) (fun A h40 h42 h43=>E A _ h40 h42 (.lopE h43)) A
 refine⟨by rw[G];exact j3f ha.b _ _,fun A _=>C 2 (by omega) A,fun A r _ B=>.levO (by omega) (.lev2 (C 1 (by omega) A)) B,fun A r D C B=>?_⟩;rw[q3m];exact E A r D C B
def cmt:List Tn->List Wd
 | []=>[]
 | t::r=>[44]::cmk (t::r)
theorem z7u(t:Tn)(r:List Tn):cmk (t::r)=t.tk++cmt r:=by
 cases r with
 | nil=>simp[cmk,cmt]
 | cons u r=>simp[cmk,cmt]
theorem k7k{e:Wd}(he:e=[41]\/e=[93])(r:List Tn)(rest:List Wd):(cmt r++e::rest).head?≠some [40]/\(cmt r++e::rest).head?≠some [42]/\(cmt r++e::rest).head?≠some [43]:=by
 cases r with
 | nil=>rcases he with rfl|rfl<;>simp[cmt]
 | cons t r=>simp[cmt]
theorem k0r{e:Wd}(he:e=[41]\/e=[93]):∀(ks:List Tn),(∀t∈ks,z2m t)->∀(n:Nat)(acc:List Td)(rest:List Wd),
  PR (.args e (n+1) acc) (cmt ks++e::rest) (.ok (n+1+ks.length) (acc++ks.flatMap (·.ns)) rest)
 | [],_,n,acc,rest=>by simpa[cmt]using PR.aEnd
 | t::r,h,n,acc,rest=>by
  obtain⟨h1,h2,h3⟩:=k7k he r rest;have ih:=k0r he r (fun u hu=>h u (by simp[hu])) (n+1) (acc++t.ns) rest;have hl:=z8x (h t (by simp)) h1 h2 h3;have e1:cmt (t::r)++e::rest=[44]::(t.tk++(cmt r++e::rest)):=by rw[cmt,z7u];simp
  have A:n+1+(t::r).length=n+1+1+r.length:=by simp;omega
  have B:acc++(t::r).flatMap (·.ns)=acc++t.ns++r.flatMap (·.ns):=by simp
  rw[e1,A,B];exact .aO (by rcases he with rfl|rfl<;>decide) hl ih
theorem k7d{e:Wd}(he:e=[41]\/e=[93])(ks:List Tn)(h:∀t∈ks,z2m t)(rest:List Wd):
  PR (.args e 0 []) (cmk ks++e::rest) (.ok ks.length (ks.flatMap (·.ns)) rest):=by
 cases ks with
 | nil=>simpa[cmk]using PR.aEnd
 | cons t r=>
  obtain⟨H,I,J⟩:=k7k he r rest;have M:=k0r he r (fun u hu=>h u (by simp[hu])) 0 ([]++t.ns) rest;have K:=z8x (h t (by simp)) H I J;obtain⟨w,z,C,L⟩:=(h t (by simp)).b;have A:=z3j L;have D:cmk (t::r)++e::rest=t.tk++(cmt r++e::rest):=by rw[z7u];simp
  have E:(t::r).length=0+1+r.length:=by simp;omega
  have G:(t::r).flatMap (·.ns)=[]++t.ns++r.flatMap (·.ns):=by simp
  rw[D,E,G];refine .aO0 ?_ K M;rw[C,List.cons_append,List.head?_cons];intro B;rcases he with rfl|rfl
  ·exact A.1 (Option.some.inj B)
  ·exact A.2.1 (Option.some.inj B)
theorem z1w{x:Td}{op:Int}{tx:ByteArray}{n:Int}(h1:x.op=op)(h2:x.tx=tx)(h3:x.n=n):x=⟨op,tx,n⟩:=by
 cases x;simp_all
theorem y9f{α:Type}{l:List α}(h:l.length=2):∃a b,l=[a,b]:=by
 match l,h with
 | [a,b],_=>exact⟨a,b,rfl⟩
theorem z0h:∀F:Fo,F.ok->F.exs->∀t∈F.R,z2m t
 | .nil,_,_,t,ht=>by cases ht
 | .cons x k n,hok,hex,t,ht=>by
  have hexk:k.exs:=fun y hy=>hex y (by simp[Fo.N,hy])
  have hexn:n.exs:=fun y hy=>hex y (by simp[Fo.N,hy])
  have ihk:=z0h k hok.2.1 hexk;rw[Fo.R]at ht;rcases List.mem_cons.1 ht with rfl|ht
  ·have hlen:k.R.length=kdT x:=by rw[q4q];exact hok.1
   rcases q1l (hex x (by simp[Fo.N]))with⟨B,E,C,M,J⟩|⟨B,L,C,J⟩|⟨B,L,C,M,J⟩|⟨B,E,C,M,J⟩|⟨B,E,C,J⟩|⟨B,E,C,J⟩
   ·have K:k.R=[]:=List.eq_nil_of_length_eq_zero (by omega)
    have H:k3y (q2n x.n.toNat)=true:=by
     have P:=q9r x.n.toNat;cases O:q2n x.n.toNat with
     | nil=>exact absurd O (z7w _)
     | cons c z=>exact P c (by rw[O];simp)
    have A:(q0x x k.R).tk=[q2n x.n.toNat]:=by simp[q0x,q3t,B]
    have D:(q0x x k.R).ns=[v8b (q2n x.n.toNat)]:=by
     rw[q0x,K];simp only[List.flatMap_nil,List.cons.injEq,and_true];exact z1w B E (by rw[v4t];omega)
    refine q4z (by simp[q0x,prc,B]) ⟨_,_,A,.inr (.inr (.inl H))⟩ fun rest _=>?_
    rw[A,D];exact .sNum H
   ·have K:k.R=[]:=List.eq_nil_of_length_eq_zero (by omega);have G:nmW (btL x.tx)=true:=L;have A:(q0x x k.R).tk=[btL x.tx]:=by simp[q0x,q3t,B]
    have D:(q0x x k.R).ns=[nmT (btL x.tx)]:=by
     rw[q0x,K];simp only[List.flatMap_nil,List.cons.injEq,and_true];exact z1w B rfl C
    refine q4z (by simp[q0x,prc,B]) ⟨_,_,A,.inr (.inr (.inr G))⟩ fun rest hr=>?_
    rw[A,D];exact .sName G hr
   ·have G:nmW (btL x.tx)=true:=L;have A:(q0x x k.R).tk=btL x.tx::[40]::(cmk k.R++[[41]]):=by simp[q0x,q3t,B]
    have D:(q0x x k.R).ns=clT (btL x.tx) k.R.length::k.R.flatMap (·.ns):=by
     rw[q0x];simp only[List.cons.injEq,and_true];exact z1w B rfl (by omega)
    refine q4z (by simp[q0x,prc,B]) ⟨_,_,A,.inr (.inr (.inr G))⟩ fun rest hr=>?_
    rw[A,D]
    have:=k7d (.inl rfl) k.R ihk rest
    refine .sCO G ?_;simpa using this
   ·have A:(q0x x k.R).tk=[91]::(cmk k.R++[[93]]):=by simp[q0x,q3t,B]
    have D:(q0x x k.R).ns=lsT k.R.length::k.R.flatMap (·.ns):=by
     rw[q0x];simp only[List.cons.injEq,and_true];exact z1w B E (by omega)
    refine q4z (by simp[q0x,prc,B]) ⟨_,_,A,.inr (.inl rfl)⟩ fun rest hr=>?_
    rw[A,D]
    have:=k7d (.inr rfl) k.R ihk rest
    refine .sLO ?_;simpa using this
   ·obtain⟨a,b,I⟩:=y9f (hlen.trans J);rw[I]at ihk⊢;exact j9g (z1w B E C) (ihk a (by simp)) (ihk b (by simp))
   ·obtain⟨a,b,I⟩:=y9f (hlen.trans J);rw[I]at ihk⊢;exact j9f (z1w B E C) (ihk a (by simp)) (ihk b (by simp))
  ·exact z0h n hok.2.2 hexn t ht
theorem k7g(l:Nat)(t:Tn):(brx l t).length<=t.tx.length+2:=by
 unfold brx
 split
 ·simp
 ·omega
theorem v7k:∀ks:List Tn,(∀t∈ks,t.tx.length+4<=16*t.ns.length)->(cmx ks).length<=16*(ks.flatMap (·.ns)).length
 | [],_=>by simp[cmx]
 | [t],h=>by
  have:=h t (by simp)
  simp[cmx];omega
 | t::u::r,h=>by
  have h1:=h t (by simp);have h2:=v7k (u::r) (fun x hx=>h x (by simp[hx]));rw[cmx,List.flatMap_cons,List.length_append,List.length_append];simp only[List.length_cons];omega
theorem q1q{s:ByteArray}(h:q0o s=true):(btL s).length<=8:=by
 unfold q0o at h;simp only[Bool.and_eq_true,decide_eq_true_eq]at h;rw[q0c];exact h.1.1.2
theorem v0m:∀F:Fo,F.ok->F.exs->∀t∈F.R,t.tx.length+4<=16*t.ns.length
 | .nil,_,_,t,ht=>by cases ht
 | .cons x k n,hok,hex,t,ht=>by
  have hexk:k.exs:=fun y hy=>hex y (by simp[Fo.N,hy])
  have hexn:n.exs:=fun y hy=>hex y (by simp[Fo.N,hy])
  have ihk:=v0m k hok.2.1 hexk;rw[Fo.R]at ht;rcases List.mem_cons.1 ht with rfl|ht
  ·have hlen:k.R.length=kdT x:=by rw[q4q];exact hok.1
   have I:=v7k k.R ihk;rcases q1l (hex x (by simp[Fo.N]))with⟨B,G,A,H,D⟩|⟨B,E,A,D⟩|⟨B,E,A,H,D⟩|⟨B,G,A,H,D⟩|⟨B,G,A,D⟩|⟨B,G,A,D⟩
   ·have:=q8a 5 x.n.toNat (by omega)
    simp[q0x,q3r,B];omega
   ·have:=q1q E
    simp only[q0x,q3r,B];simp at this⊢;omega
   ·have:=q1q E
    simp only[q0x,q3r,B];simp at this I⊢;omega
   ·simp only[q0x,q3r,B];simp at I⊢;omega
   ·obtain⟨a,b,C⟩:=y9f (hlen.trans D);rw[C]at ihk⊢;have J:=ihk a (by simp);have K:=ihk b (by simp);have L:=k7g 0 a;have M:=k7g 1 b;simp[q0x,q3r,B,two2];omega
   ·obtain⟨a,b,C⟩:=y9f (hlen.trans D);rw[C]at ihk⊢;have J:=ihk a (by simp);have K:=ihk b (by simp);have L:=k7g 1 a;have M:=k7g 2 b;simp[q0x,q3r,B,two2];omega
  ·exact v0m n hok.2.2 hexn t ht
def Fo.tk:Nat->Fo->Fo
 | 0,_=>.nil
 | _+1,.nil=>.nil
 | k+1,.cons x a n=>.cons x a (Fo.tk k n)
def Fo.dp:Nat->Fo->Fo
 | 0,f=>f
 | _+1,.nil=>.nil
 | k+1,.cons _ _ n=>Fo.dp k n
theorem k5q:∀f g:Fo,Fo.tk f.len (f.app g)=f
 | .nil,g=>by cases g<;>rfl
 | .cons x k n,g=>by simp only[Fo.len,Fo.app,Fo.tk,k5q n g]
theorem k4u:∀f g:Fo,Fo.dp f.len (f.app g)=g
 | .nil,g=>by cases g<;>rfl
 | .cons x k n,g=>by simp only[Fo.len,Fo.app,Fo.dp,k4u n g]
theorem z1k:∀f:Fo,f.app .nil=f
 | .nil=>rfl
 | .cons x k n=>by simp only[Fo.app,z1k n]
def j2z:List Td->Fo
 | []=>.nil
 | x::r=>.cons x (Fo.tk (kdT x) (j2z r)) (Fo.dp (kdT x) (j2z r))
theorem z7s:∀(F:Fo),F.ok->∀r,j2z (F.N++r)=F.app (j2z r)
 | .nil,_,r=>rfl
 | .cons x k n,h,r=>by
  have e1:=z7s n h.2.2 r;have e2:=z7s k h.2.1 (n.N++r);rw[Fo.N,List.cons_append,List.append_assoc,j2z,e2,e1,<-h.1,k5q,k4u];rfl
theorem k9u(F:Fo)(h:F.ok):j2z F.N=F:=by
 have:=z7s F h []
 rw[List.append_nil]at this;rw[this];exact z1k F
theorem q3h{ds:List Td}(h:q0b ds=0):(∃x,ds=[x]/\x.op=9/\x.n=0/\q1x x.tx=0)\/
  (∃(x:Td)(F:Fo),ds=x::F.N/\F.ok/\F.exs/\F.len=1/\((x.op=7/\q0o x.tx=true/\x.n=0)\/(x.op=8/\x.tx=⟨#[]⟩/\x.n=0))):=by
 obtain⟨_,Q,H,R⟩:=q2j h;cases ds with
 | nil=>rw[q8c [] 0 0 (by simp)]at H;cases H
 | cons x r=>
  have B:=Q x (by simp);simp only[k6q,Bool.and_eq_true,decide_eq_true_eq,List.all_eq_true]at R;rw[q3d,List.drop_zero,q4k,Option.map_map,Option.map_eq_some_iff]at H;obtain⟨j,P,J⟩:=H;simp only[Function.comp_apply,List.length_cons]at J;have K:j=r.length:=by omega
  rw[Nat.add_zero,K]at P;obtain⟨F,O,G,D⟩:=y1n r.length r (kdT x) r.length Zl P;rw[List.take_length]at D
  have E:F.exs:=fun y hy=>by
   rw[D]at hy;exact⟨Q y (by simp[hy]),R.2 y hy⟩
  have I:∀s:ByteArray,¬0<s.size->s=⟨#[]⟩:=fun s hs=>by
   apply ByteArray.ext;apply Array.toList_inj.1;exact List.eq_nil_of_length_eq_zero (by have:=q0c s;simp only[btL]at this;omega)
  unfold q0m at B
  split at B
  ·cases B
  ·rename_i h1
   split at B
   ·cases B
   ·split at B
    ·cases B
    ·rename_i h3;have A:x.op=7\/x.op=8\/x.op=9:=by omega
     rcases A with A|A|A
     ·have C:kdT x=1:=by unfold kdT;rw[A];rfl
      rw[if_neg (by omega)]at B
      split at B
      ·cases B
      ·rename_i h4;refine .inr ⟨x,F,by rw[D],O,E,by rw[G,C],.inl ⟨A,?_,by omega⟩⟩;cases M:q0o x.tx with
       | true=>rfl
       | false=>exact absurd ⟨by rw[A];rfl,M⟩ h4
     ·have C:kdT x=1:=by unfold kdT;rw[A];rfl
      exact .inr ⟨x,F,by rw[D],O,E,by rw[G,C],.inr ⟨A,I _ (fun hh=>h3 (.inr ⟨by rw[A];rfl,hh⟩)),by omega⟩⟩
     ·have L:kdT x=0:=by unfold kdT;rw[A];rfl
      rw[if_pos A]at B
      have S:F=.nil:=by
       cases F with
       | nil=>rfl
       | cons y k n=>rw[L]at G;simp[Fo.len]at G
      rw[S]at D;exact .inl ⟨x,by rw[<-D];rfl,A,by omega,B⟩
def hdT(ks:List Tn):List UInt8:=match ks with
 | t::_=>t.tx
 | []=>[]
def hdK(ks:List Tn):List Wd:=match ks with
 | t::_=>t.tk
 | []=>[]
def stX(x:Td)(ks:List Tn):List UInt8:=
 if x.op=7 then [108,101,116,32]++btL x.tx++[32,61,32]++hdT ks++[59]else if x.op=8 then hdT ks++[59]else if x.tx.size=0 then [35]else [35,32]++btL x.tx
def stK(x:Td)(ks:List Tn):List Wd:=
 if x.op=7 then [108,101,116]::btL x.tx::[61]::(hdK ks++[[59]])else if x.op=8 then hdK ks++[[59]]else [if x.tx.size=0 then [35]else [35,32]++btL x.tx]
def q5i(ds:List Td):List UInt8:=match j2z ds with
 | .nil=>[]
 | .cons x k _=>stX x k.R
def q8p(ds:List Td):List Wd:=match j2z ds with
 | .nil=>[]
 | .cons x k _=>stK x k.R
theorem v9i{x:Td}{F:Fo}(h:F.ok)(hl:F.len=kdT x):j2z (x::F.N)=.cons x F .nil:=by
 have A:=k5q F .nil;have B:=k4u F .nil;rw[z1k]at A B;rw[j2z,k9u F h,<-hl,A,B]
theorem z0l{x:Td}{F:Fo}(h:F.ok)(hl:F.len=kdT x):q5i (x::F.N)=stX x F.R/\q8p (x::F.N)=stK x F.R:=by
 rw[q5i,q8p,v9i h hl];exact⟨rfl,rfl⟩
def q4o(ps:List (List Td)):List UInt8:=ps.flatMap fun t=>q5i t++[10]
theorem j1g(t:List Td)(r:List (List Td)):q4o (t::r)=q5i t++[10]++q4o r:=by simp[q4o]
theorem j1h(r:List (List Td))(t:List Td):q4o (r++[t])=q4o r++(q5i t++[10]):=by simp[q4o]
theorem z7r:∀(f g:Fo),(f.app g).R=f.R++g.R
 | .nil,g=>rfl
 | .cons x k n,g=>by simp[Fo.app,Fo.R,z7r n g]
def z2n(ns:List Td)(t:Tn):Prop:=∃F:Fo,F.ok/\F.R=[t]/\F.N=ns/\∀x∈ns,x.op<7
theorem y5c(t:Tn)(a b:Nat)(h:a<=b):(brk a t).length<=(brk b t).length:=by
 unfold brk
 split
 ·rw[if_pos (by omega)];exact Nat.le_refl _
 ·split
  ·simp;omega
  ·exact Nat.le_refl _
theorem y0h(t:Tn)(b:Nat):(brk b t).length<=(brk 0 t).length+2:=by
 rw[q3m];unfold brk
 split
 ·simp
 ·omega
def g0l(x:Td):Fo:=.cons x .nil .nil
theorem y6l{x:Td}(h:kdT x=0)(h7:x.op<7):z2n [x] (q0x x []):=
 ⟨g0l x,⟨h.symm,trivial,trivial⟩,rfl,rfl,fun y hy=>by rw[List.mem_singleton]at hy;rw[hy];exact h7⟩
theorem y3h{x:Td}{K:Fo}(hk:K.ok)(h:K.len=kdT x)(h7:x.op<7)(ha:∀y∈K.N,y.op<7):z2n (x::K.N) (q0x x K.R):=
 ⟨.cons x K .nil,⟨h,hk,trivial⟩,rfl,by simp[Fo.N],fun y hy=>by
  rcases List.mem_cons.1 hy with rfl|hy
  ·exact h7
  ·exact ha y hy⟩
theorem g0j{k:Nat}(hk:k<2):kdT (sgT k)=2:=by
 rcases Nat.lt_or_ge k 1 with h|h
 ·obtain rfl:k=0:=by omega
  rfl
 ·obtain rfl:k=1:=by omega
  rfl
theorem two1{k:Nat}(hk:k<2){a b:List Td}{s t:Tn}(ha:z2n a s)(hb:z2n b t):z2n (sgT k::(a++b)) (q0x (sgT k) [s,t]):=by
 obtain⟨F,H,B,C,I⟩:=ha;obtain⟨G,J,D,E,L⟩:=hb;have M:(F.app G).len=2:=by rw[<-q4q,z7r,B,D];rfl
 have h:=y3h (x:=sgT k) (K:=F.app G) (j2p H J) (by rw[M,g0j hk]) (by show(5:Int)+k<7;omega) (fun y A=>by
  rw[q9k,C,E]at A;rcases List.mem_append.1 A with A|A
  ·exact I y A
  ·exact L y A)
 rw[q9k,C,E,z7r,B,D]at h;exact h
theorem y4d{k:Nat}(hk:k<2)(s t:Tn):(brk k (q0x (sgT k) [s,t])).length=(brk k s).length+1+(brk (k+1) t).length:=by
 rcases Nat.lt_or_ge k 1 with h|h
 ·obtain rfl:k=0:=by omega
  rw[q3m];simp[q0x,q3t,sgT,two2];omega
 ·obtain rfl:k=1:=by omega
  rw[brk,if_neg (by simp[q0x,prc,sgT])];simp[q0x,q3t,sgT,two2];omega
theorem k4j:∀ks:List Tn,(cmk ks).length+1=(ks.map fun t=>t.tk.length+1).sum+(if ks=[]then 1 else 0)
 | []=>rfl
 | [t]=>by simp[cmk]
 | t::u::r=>by
  have ih:=k4j (u::r);rw[z7u,cmt,List.length_append,List.length_cons,List.map_cons,List.sum_cons];rw[if_neg (by simp)]at ih⊢;omega
theorem j3q(ks:List Tn)(t:Tn):(cmk (ks++[t])).length=(cmk ks).length+t.tk.length+(if ks=[]then 0 else 1):=by
 have A:=k4j (ks++[t]);have B:=k4j ks;rw[if_neg (by simp),List.map_append,List.sum_append]at A;simp only[List.map_cons,List.map_nil,List.sum_cons,List.sum_nil]at A;by_cases h:ks=[]
 ·rw[if_pos h]at B⊢;omega
 ·rw[if_neg h]at B⊢;omega
theorem q4m{w:Wd}(h:z2p w=true)(ts:List Wd):many (w::ts)=many ts+1:=by
 simp[many,h]
theorem y3j(k:Nat):z2p (sgn k)=true:=by
 unfold sgn
 split<;>rfl
theorem y3i{w:Wd}(h:k3y w=true):z2p w=true:=by
 have:=(z3j (.inr (.inr (.inl h)))).2.2.2.2
 simpa[z2p]using this
theorem z9h{w:Wd}(h:nmW w=true):z2p w=true:=by
 have:=(z3j (.inr (.inr (.inr h)))).2.2.2.2
 simpa[z2p]using this
def y9m(j:Job)(ts:List Wd):Rs->Prop
 | .bad _=>True
 | .ok m ns u=>match j with
  | .level k=>∃t,z2n ns t/\(brk k t).length+many u<=many ts
  | .single=>∃t,z2n ns t/\(brk 2 t).length+many u<=many ts
  | .loop k acc=>k<2->∀t0,z2n acc t0->∃t,z2n ns t/\(brk k t).length+many u<=(brk k t0).length+many ts
  | .args e n acc=>z2p e=true->∀F:Fo,F.ok->F.len=n->F.N=acc->(∀x∈acc,x.op<7)->∃G:Fo,G.ok/\G.len=m/\G.N=ns/\(∀x∈ns,x.op<7)/\(cmk G.R).length+1+many u<=(cmk F.R).length+many ts
theorem j5e{F:Fo}{A ns:List Td}{t:Tn}(hF:F.ok)(hn:F.N=A)(ha:∀x∈A,x.op<7)(ht:z2n ns t):∃G:Fo,G.ok/\G.len=F.len+1/\G.N=A++ns/\(∀x∈A++ns,x.op<7)/\G.R=F.R++[t]:=by
 obtain⟨T,D,C,E,H⟩:=ht;refine⟨F.app T,j2p hF D,?_,by rw[q9k,hn,E],fun x B=>?_,by rw[z7r,C]⟩
 ·rw[j2o,<-q4q T,C];rfl
 ·rcases List.mem_append.1 B with B|B
  ·exact ha x B
  ·exact H x B
theorem j8w{j:Job}{ts:List Wd}{r:Rs}(h:PR j ts r):y9m j ts r:=by
 induction h with
 | lev2 _ ih=>rename_i r _;cases r with
  | bad=>trivial
  | ok m ns u=>exact ih
 | levB=>trivial
 | levO C _ _ ih1 ih2=>rename_i k _ _ _ _ r _ _;cases r with
  | bad=>trivial
  | ok m ns u=>
   obtain⟨U,A,D⟩:=ih1;obtain⟨t,V,d⟩:=ih2 C U A
   have:=y5c U k (k+1) (by omega)
   exact⟨t,V,by omega⟩
 | lopE _=>exact fun _ U h=>⟨U,h,Nat.le_refl _⟩
 | lopB=>trivial
 | lopO _ _ ih1 ih2=>rename_i r _ _;cases r with
  | bad=>trivial
  | ok m ns u=>
   intro b U C;obtain⟨g,A,D⟩:=ih1;obtain⟨t,V,d⟩:=ih2 b _ (two1 b C A);rw[y4d b]at d;exact⟨t,V,by rw[q4m (y3j _)];omega⟩
 | sinN=>trivial
 | sPB=>trivial
 | sPC _ ih=>
  obtain⟨t,A,D⟩:=ih
  have:=y0h t 2
  exact⟨t,A,by rw[q4m (w:=[41]) rfl]at D;rw[q4m (w:=[40]) rfl];omega⟩
 | sPX=>trivial
 | sLB=>trivial
 | sLO _ ih=>
  rename_i ts n ns u _;obtain⟨G,E,K,B,I,L⟩:=ih rfl .nil trivial rfl rfl (fun x hx=>by cases hx);have J:kdT (lsT n)=n:=by simp[kdT,lsT]
  refine⟨q0x (lsT n) G.R,?_,?_⟩
  ·rw[<-B];exact y3h E (by rw[J];exact K) (by show(4:Int)<7;omega) (by rw[B];exact I)
  ·rw[brk,if_neg (by simp[q0x,prc,lsT])];have e:(q0x (lsT n) G.R).tk.length=(cmk G.R).length+2:=by simp[q0x,q3t,lsT]
   have f:(cmk Fo.nil.R).length=0:=rfl;rw[e,q4m (w:=[91]) rfl];omega
 | sNum C=>
  rename_i w ts;refine⟨q0x (v8b w) [],y6l (by simp[kdT,v8b]) (by show(1:Int)<7;omega),?_⟩;rw[brk,if_neg (by simp[q0x,prc,v8b]),q4m (y3i C)];simp[q0x,q3t,v8b];omega
 | sName C _=>
  rename_i w ts _;refine⟨q0x (nmT w) [],y6l (by simp[kdT,nmT]) (by show(2:Int)<7;omega),?_⟩;rw[brk,if_neg (by simp[q0x,prc,nmT]),q4m (z9h C)];simp[q0x,q3t,nmT];omega
 | sCB=>trivial
 | sCO C _ ih=>
  rename_i w ts n ns u _;obtain⟨G,E,K,B,I,L⟩:=ih rfl .nil trivial rfl rfl (fun x hx=>by cases hx);have J:kdT (clT w n)=n:=by simp[kdT,clT]
  refine⟨q0x (clT w n) G.R,?_,?_⟩
  ·rw[<-B];exact y3h E (by rw[J];exact K) (by show(3:Int)<7;omega) (by rw[B];exact I)
  ·rw[brk,if_neg (by simp[q0x,prc,clT])];have e:(q0x (clT w n) G.R).tk.length=(cmk G.R).length+3:=by simp[q0x,q3t,clT]
   have f:(cmk Fo.nil.R).length=0:=rfl;rw[e,q4m (z9h C),q4m (w:=[40]) rfl];omega
 | sBad=>trivial
 | aEnd=>exact fun O F M P Q N=>⟨F,M,P,Q,N,by rw[q4m O];omega⟩
 | aSep=>trivial
 | aB0=>trivial
 | aO0 _ _ _ ih1 ih2=>rename_i r _ _ _;cases r with
  | bad=>trivial
  | ok m ns u=>
   intro O F M P Q N;obtain⟨t,A,D⟩:=ih1;obtain⟨G,E,K,B,I,L⟩:=j5e M Q N A;obtain⟨H,W,X,Y,Z,a⟩:=ih2 O G E (by omega) B I;have S:F.R=[]:=List.eq_nil_of_length_eq_zero (by rw[q4q];exact P);rw[L,j3q,if_pos S]at a;rw[q3m]at D;exact⟨H,W,X,Y,Z,by omega⟩
 | aB=>trivial
 | aO _ _ _ ih1 ih2=>rename_i r _ _ _;cases r with
  | bad=>trivial
  | ok m ns u=>
   intro O F M P Q N;obtain⟨t,A,D⟩:=ih1;obtain⟨G,E,K,B,I,L⟩:=j5e M Q N A;obtain⟨H,W,X,Y,Z,a⟩:=ih2 O G E (by omega) B I
   have c:F.R≠[]:=fun e=>by
    have:=q4q F
    rw[e,P]at this;simp at this
   rw[L,j3q,if_neg c]at a;rw[q3m]at D;exact⟨H,W,X,Y,Z,by rw[q4m (w:=[44]) rfl];omega⟩
def opT(t:List Td):Int:=match t with
 | []=>0
 | x::_=>x.op
theorem k6e{t:List Td}(h:0<t.length):opT t=t[0].op:=by
 cases t with
 | nil=>simp at h
 | cons x r=>rfl
def q5r(prev:Int)(k:Nat):List (List Td)->Nat × Int
 | []=>(0,0)
 | t::r=>if q0b t≠0 then(k,q0b t)else if opT t=9/\prev=9 then(k,2)else q5r (opT t) (k+1) r
def q0t(ps:List (List Td)):Nat × Int:=if 20<ps.length then(0,3)else q5r 0 0 ps
theorem k0d{t:List Td}(h:q0b t=0):0<t.length:=by
 rcases Nat.eq_zero_or_pos t.length with A|A
 ·have:t=[]:=List.eq_nil_of_length_eq_zero A
  subst this
  have:=(q2j h).2.2.1
  rw[q8c [] 0 0 (by simp)]at this;cases this
 ·exact A
def q7d(ps:List (List Td))(k:Nat):Int:=if k=0 then 0 else opT (ps.getD (k-1) [])
theorem z6q{ps:List (List Td)}{k:Nat}(h:k<ps.length):q7d ps (k+1)=opT ps[k]:=by
 simp[q7d,h]
theorem j9a{ps:List (List Td)}{k:Nat}{A:Int}(h:k<ps.length)(he:q0b ps[k]≠0):q5r A k (ps.drop k)=(k,q0b ps[k]):=by
 rw[List.drop_eq_getElem_cons h,q5r,if_pos he]
theorem j9b{ps:List (List Td)}{k:Nat}{A:Int}(h:k<ps.length)(he:q0b ps[k]=0)(h2:opT ps[k]=9/\A=9):q5r A k (ps.drop k)=(k,2):=by
 rw[List.drop_eq_getElem_cons h,q5r,if_neg (by simp[he]),if_pos h2]
theorem j1j{ps:List (List Td)}{k:Nat}{A:Int}(h:k<ps.length)(he:q0b ps[k]=0)(h2:¬(opT ps[k]=9/\A=9)):q5r A k (ps.drop k)=q5r (q7d ps (k+1)) (k+1) (ps.drop (k+1)):=by
 rw[List.drop_eq_getElem_cons h,q5r,if_neg (by simp[he]),if_neg h2,z6q h]
def Tds(w:World)(a:Option Addr)(ds:List Td):Prop:=
 ∀i(h:i<ds.length),∃b o,a=some ⟨b,o,none⟩/\b<w.heap.size/\w.cell? ⟨b,o+i*3,none⟩=some (.int .i64 ds[i].op)/\w.cell? ⟨b,o+i*3+1,none⟩=some (.string ds[i].tx)/\w.cell? ⟨b,o+i*3+2,none⟩=some (.int .i64 ds[i].n)
theorem Tds.W{w w':World}{a:Option Addr}{ds:List Td}(h:Tds w a ds)(hb:Below w w w'):Tds w' a ds:=by
 intro i G;obtain⟨b,o,e,A,C,D,E⟩:=h i G;obtain⟨B,_⟩:=q1o hb
 have:=hb.size
 exact⟨b,o,e,by omega,(B _ _ A).trans C,(B _ _ A).trans D,(B _ _ A).trans E⟩
theorem Tds.alloc{w:World}{a:Option Addr}{ds:List Td}(h:Tds w a ds)(o:Obj):Tds (w.alloc o) a ds:=h.W (Zb.alloc Zl _)
theorem Tds.nil(w:World)(a:Option Addr):Tds w a []:=fun i hi=>by simp at hi
abbrev tdV(x:Td):Value:=.agg #[.int .i64 x.op,.string x.tx,.int .i64 x.n]
def z8b(o:Option Nat):Int:=match o with|some j=>j|none=>-1
def kdZ(x:Td):Int:=if x.op=3\/x.op=4 then x.n else(kdT x:Int)
theorem v7z{x:Td}(h:q0m x=0):kdZ x=(kdT x:Int):=by
 unfold kdZ
 split
 ·rename_i h1;rw[kdT,if_pos h1];unfold q0m at h
  split at h
  ·cases h
  ·split at h
   ·cases h
   ·omega
 ·rfl
end Go.Proofs.YtfdppahhbpfnoaaGreatDoor
