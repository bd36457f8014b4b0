import Derived.Test.YtelcnplcpboonaaGreatDoorPe01
open Go.Proofs.Tryz
open List renaming length->ſ
open List renaming length_cons->À,cons_append->Â,eq_nil_of_length_eq_zero->Å,append_assoc->Ç,all_eq_true->È,suffix_cons->É,mem_cons->Ê,suffix_refl->Ë,length_append->Í,append_nil->Î,foldl_cons->Ï,eq_nil_or_concat->Ð,takeWhile_cons->Ò,flatMap_nil->Ô
open Bool renaming and_eq_true->Á,true->Æ,false->Ì,or_eq_false_iff->Ñ,false_eq_true->Ó,true_and->Õ
open List.cons renaming injEq->Ã
open Option renaming some->Ä
namespace Go.Proofs.YtelcnplcpboonaaGreatDoor
open Go Go.RowKit
def aG(w:World)(a:Option Addr)(ds:List Td):Prop:=
 ∀i(h:i<ſ ds),∃b o,a=Ä ⟨b,o,none⟩/\b<w.heap.size/\w.cell? ⟨b,o+i*3,none⟩=Ä (.int .i64 ds[i].op)/\w.cell? ⟨b,o+i*3+1,none⟩=Ä (.string ds[i].tx)/\w.cell? ⟨b,o+i*3+2,none⟩=Ä (.int .i64 ds[i].n)
theorem aG.W{w w' a H}(h:aG w a H)(I:Below w w w'):aG w' a H:=by
 intro i G;obtain⟨b,o,e,A,C,D,E⟩:=h i G;obtain⟨B,_⟩:=a9 I
 have:=I.size
 exact⟨b,o,e,by omega,(B _ _ A).trans C,(B _ _ A).trans D,(B _ _ A).trans E⟩
theorem aG.alloc{w a A}(h:aG w a A)(o):aG (w.alloc o) a A:=h.W (Zb.alloc Zl _)
theorem aG.nil(w a):aG w a []:=λi hi=>by simp at hi
abbrev fk(x:Td):Value:=.agg #[.int .i64 x.op,.string x.tx,.int .i64 x.n]
def kr(o:Option Nat):Int:=match o with|some j=>j|none=>-1
def eU(x:Td):Int:=if x.op=3\/x.op=4 then x.n else(aE x:Int)
theorem Id{x}(h:aq x=0):eU x=(aE x:Int):=by
 unfold eU
 split
 .rename_i h1;rw[aE,if_pos h1];unfold aq at h
  split at h
  .cases h
  .split at h
   .cases h
   .omega
 .rfl
set_option maxRecDepth 100000
theorem pT(c w):Cw 51 #[.int .u8 (c.toNat:Int)] w (.bool (aI c)):=by
 unfold Cw;by_cases B:(97:Int)<=(c.toNat:Int)
 .by_cases C:(c.toNat:Int)<=122
  .have A:Hid (aI c=Æ):=by show aI c=Æ;simp[aI];omega
   go_in;go_wp2;go_ret;exact⟨by rw[A.o];rfl,rfl⟩
  .have A:Hid (aI c=Ì):=by show aI c=Ì;simp[aI];omega
   go_in;go_wp2;go_ret;exact⟨by rw[A.o];rfl,rfl⟩
 .have A:Hid (aI c=Ì):=by show aI c=Ì;simp[aI];omega
  go_in;go_wp2;go_ret;exact⟨by rw[A.o];rfl,rfl⟩
inductive dO where
 | level (k:Nat):dO
 | loop (k:Nat) (acc:List Td):dO
 | single:dO
 | args (e:Wd) (n:Nat) (acc:List Td):dO
inductive Rs where
 | ok (n:Nat) (ns:List Td) (rest:List Wd):Rs
 | bad (rest:List Wd):Rs
def jk(k:Nat):Wd:=if k=0 then [43]else [42]
def dB(k:Nat):Td:=⟨5+k,⟨#[]⟩,0⟩
def dN(w:Wd):Bool:=ay (w.headD 0)
def bb(w:Wd):Bool:=aL (ab w)
def nH(w:Wd):Td:=⟨1,⟨#[]⟩,(aY w:Nat)⟩
def lz(w:Wd):Td:=⟨2,ab w,0⟩
def tW(w:Wd)(n:Nat):Td:=⟨3,ab w,(n:Nat)⟩
def kD(n:Nat):Td:=⟨4,⟨#[]⟩,(n:Nat)⟩
inductive PR:dO->List Wd->Rs->Prop where
 | lev2 {ts r}:PR .single ts r->PR (.level 2) ts r
 | levB {k ts u}:k<2->PR (.level (k+1)) ts (.bad u)->PR (.level k) ts (.bad u)
 | levO {k ts m ns u r}:k<2->PR (.level (k+1)) ts (.ok m ns u)->PR (.loop k ns) u r->PR (.level k) ts r
 | lopE {k acc ts}:ts.head?≠Ä (jk k)->PR (.loop k acc) ts (.ok 0 acc ts)
 | lopB {k acc ts u}:PR (.level (k+1)) ts (.bad u)->PR (.loop k acc) (jk k::ts) (.bad u)
 | lopO {k acc ts m ns u r}:PR (.level (k+1)) ts (.ok m ns u)->PR (.loop k (dB k::(acc++ns))) u r->PR (.loop k acc) (jk k::ts) r
 | sinN:PR .single [] (.bad [])
 | sPB {ts u}:PR (.level 0) ts (.bad u)->PR .single ([40]::ts) (.bad u)
 | sPC {ts m ns u}:PR (.level 0) ts (.ok m ns ([41]::u))->PR .single ([40]::ts) (.ok 0 ns u)
 | sPX {ts m ns u}:PR (.level 0) ts (.ok m ns u)->u.head?≠Ä [41]->PR .single ([40]::ts) (.bad u)
 | sLB {ts u}:PR (.args [93] 0 []) ts (.bad u)->PR .single ([91]::ts) (.bad u)
 | sLO {ts n ns u}:PR (.args [93] 0 []) ts (.ok n ns u)->PR .single ([91]::ts) (.ok 0 (kD n::ns) u)
 | sNum {w ts}:dN w=Æ->PR .single (w::ts) (.ok 0 [nH w] ts)
 | sName {w ts}:bb w=Æ->ts.head?≠Ä [40]->PR .single (w::ts) (.ok 0 [lz w] ts)
 | sCB {w ts u}:bb w=Æ->PR (.args [41] 0 []) ts (.bad u)->PR .single (w::[40]::ts) (.bad u)
 | sCO {w ts n ns u}:bb w=Æ->PR (.args [41] 0 []) ts (.ok n ns u)->PR .single (w::[40]::ts) (.ok 0 (tW w n::ns) u)
 | sBad {w ts}:w≠[40]->w≠[91]->dN w=Ì->bb w=Ì->PR .single (w::ts) (.bad (w::ts))
 | aEnd {e n acc ts}:PR (.args e n acc) (e::ts) (.ok n acc ts)
 | aSep {e n acc ts}:ts.head?≠Ä e->ts.head?≠Ä [44]->PR (.args e (n+1) acc) ts (.bad ts)
 | aB0 {e acc ts u}:ts.head?≠Ä e->PR (.level 0) ts (.bad u)->PR (.args e 0 acc) ts (.bad u)
 | aO0 {e acc ts m ns u r}:ts.head?≠Ä e->PR (.level 0) ts (.ok m ns u)->PR (.args e 1 (acc++ns)) u r->PR (.args e 0 acc) ts r
 | aB {e n acc ts u}:e≠[44]->PR (.level 0) ts (.bad u)->PR (.args e (n+1) acc) ([44]::ts) (.bad u)
 | aO {e n acc ts m ns u r}:e≠[44]->PR (.level 0) ts (.ok m ns u)->PR (.args e (n+2) (acc++ns)) u r->PR (.args e (n+1) acc) ([44]::ts) r
theorem nZ{w}(h:dN w=Æ):bb w=false:=by
 cases A:bb w with
 | false=>rfl
 | true=>
  exfalso;unfold bb aL at A;simp only[Á,È,decide_eq_true_eq]at A;cases w with
  | nil=>simp[ab,ByteArray.size]at A
  | cons c z=>
   have B:=A.2 c (by show c∈(c::z);simp);have C:ay c=true:=h
   have:=rS C
   rw[B]at this;cases this
theorem Iz:dN [40]=false:=by decide
theorem IA:dN [91]=false:=by decide
theorem vV:bb [40]=false:=by decide
theorem vW:bb [91]=false:=by decide
theorem fL{j I r}(h:PR j I r):∀{H:Rs},PR j I H->r=H:=by
 have D:=Iz;have E:=IA;have B:=vV;have C:=vW
 induction h with
 | lev2 _ ih=>intro H A;cases A with
  | lev2 h2=>exact ih h2
  | levB h0=>omega
  | levO h0=>omega
 | levB h0 _ ih=>intro H A;cases A with
  | lev2 h2=>omega
  | levB _ h2=>exact ih h2
  | levO _ h2 _=>cases ih h2
 | levO h0 _ _ ih1 ih2=>intro H A;cases A with
  | lev2 h2=>omega
  | levB _ h2=>cases ih1 h2
  | levO _ h2 h3=>cases ih1 h2;exact ih2 h3
 | lopE h0=>intro H A;cases A with
  | lopE _=>rfl
  | lopB _=>simp at h0
  | lopO _ _=>simp at h0
 | lopB _ ih=>intro H A;cases A with
  | lopE h0=>simp at h0
  | lopB h2=>exact ih h2
  | lopO h2 _=>cases ih h2
 | lopO _ _ ih1 ih2=>intro H A;cases A with
  | lopE h0=>simp at h0
  | lopB h2=>cases ih1 h2
  | lopO h2 h3=>cases ih1 h2;exact ih2 h3
 | sinN=>intro H A;cases A;rfl
 | sPB _ ih=>intro H A;cases A with
  | sPB h2=>exact ih h2
  | sPC h2=>cases ih h2
  | sPX h2 _=>cases ih h2
  | sNum h2=>rw[D]at h2;cases h2
  | sName h2 _=>rw[B]at h2;cases h2
  | sCB h2 _=>rw[B]at h2;cases h2
  | sCO h2 _=>rw[B]at h2;cases h2
  | sBad h2=>exact absurd rfl h2
 | sPC _ ih=>intro H A;cases A with
  | sPB h2=>cases ih h2
  | sPC h2=>cases ih h2;rfl
  | sPX h2 h3=>cases ih h2;simp at h3
  | sNum h2=>rw[D]at h2;cases h2
  | sName h2 _=>rw[B]at h2;cases h2
  | sCB h2 _=>rw[B]at h2;cases h2
  | sCO h2 _=>rw[B]at h2;cases h2
  | sBad h2=>exact absurd rfl h2
 | sPX _ h0 ih=>intro H A;cases A with
  | sPB h2=>cases ih h2
  | sPC h2=>cases ih h2;simp at h0
  | sPX h2 h3=>cases ih h2;rfl
  | sNum h2=>rw[D]at h2;cases h2
  | sName h2 _=>rw[B]at h2;cases h2
  | sCB h2 _=>rw[B]at h2;cases h2
  | sCO h2 _=>rw[B]at h2;cases h2
  | sBad h2=>exact absurd rfl h2
 | sLB _ ih=>intro H A;cases A with
  | sLB h2=>exact ih h2
  | sLO h2=>cases ih h2
  | sNum h2=>rw[E]at h2;cases h2
  | sName h2 _=>rw[C]at h2;cases h2
  | sCB h2 _=>rw[C]at h2;cases h2
  | sCO h2 _=>rw[C]at h2;cases h2
  | sBad _ h2=>exact absurd rfl h2
 | sLO _ ih=>intro H A;cases A with
  | sLB h2=>cases ih h2
  | sLO h2=>cases ih h2;rfl
  | sNum h2=>rw[E]at h2;cases h2
  | sName h2 _=>rw[C]at h2;cases h2
  | sCB h2 _=>rw[C]at h2;cases h2
  | sCO h2 _=>rw[C]at h2;cases h2
  | sBad _ h2=>exact absurd rfl h2
 | sNum h0=>
  have G:=nZ h0;intro H A;cases A with
  | sPB h2=>rw[D]at h0;cases h0
  | sPC h2=>rw[D]at h0;cases h0
  | sPX h2 h3=>rw[D]at h0;cases h0
  | sLB h2=>rw[E]at h0;cases h0
  | sLO h2=>rw[E]at h0;cases h0
  | sNum h2=>rfl
  | sName h2 _=>rw[G]at h2;cases h2
  | sCB h2 _=>rw[G]at h2;cases h2
  | sCO h2 _=>rw[G]at h2;cases h2
  | sBad _ _ h2=>rw[h0]at h2;cases h2
 | sName h0 h1=>
  intro H A;cases A with
  | sPB h2=>rw[B]at h0;cases h0
  | sPC h2=>rw[B]at h0;cases h0
  | sPX h2 h3=>rw[B]at h0;cases h0
  | sLB h2=>rw[C]at h0;cases h0
  | sLO h2=>rw[C]at h0;cases h0
  | sNum h2=>rw[nZ h2]at h0;cases h0
  | sName h2 _=>rfl
  | sCB h2 _=>simp at h1
  | sCO h2 _=>simp at h1
  | sBad _ _ _ h2=>rw[h0]at h2;cases h2
 | sCB h0 _ ih=>
  intro H A;cases A with
  | sPB h2=>rw[B]at h0;cases h0
  | sPC h2=>rw[B]at h0;cases h0
  | sPX h2 h3=>rw[B]at h0;cases h0
  | sLB h2=>rw[C]at h0;cases h0
  | sLO h2=>rw[C]at h0;cases h0
  | sNum h2=>rw[nZ h2]at h0;cases h0
  | sName _ h2=>simp at h2
  | sCB _ h2=>exact ih h2
  | sCO _ h2=>cases ih h2
  | sBad _ _ _ h2=>rw[h0]at h2;cases h2
 | sCO h0 _ ih=>
  intro H A;cases A with
  | sPB h2=>rw[B]at h0;cases h0
  | sPC h2=>rw[B]at h0;cases h0
  | sPX h2 h3=>rw[B]at h0;cases h0
  | sLB h2=>rw[C]at h0;cases h0
  | sLO h2=>rw[C]at h0;cases h0
  | sNum h2=>rw[nZ h2]at h0;cases h0
  | sName _ h2=>simp at h2
  | sCB _ h2=>cases ih h2
  | sCO _ h2=>cases ih h2;rfl
  | sBad _ _ _ h2=>rw[h0]at h2;cases h2
 | sBad h0 h1 h3 h4=>
  intro H A;cases A with
  | sPB h2=>exact absurd rfl h0
  | sPC h2=>exact absurd rfl h0
  | sPX h2 _=>exact absurd rfl h0
  | sLB h2=>exact absurd rfl h1
  | sLO h2=>exact absurd rfl h1
  | sNum h2=>rw[h3]at h2;cases h2
  | sName h2 _=>rw[h4]at h2;cases h2
  | sCB h2 _=>rw[h4]at h2;cases h2
  | sCO h2 _=>rw[h4]at h2;cases h2
  | sBad _ _ _ h2=>rfl
 | aEnd=>
  intro H A;cases A with
  | aEnd=>rfl
  | aSep h2 _=>simp at h2
  | aB0 h2 _=>simp at h2
  | aO0 h2 _ _=>simp at h2
  | aB h2 _=>exact absurd rfl h2
  | aO h2 _ _=>exact absurd rfl h2
 | aSep h0 h1=>
  intro H A;cases A with
  | aEnd=>simp at h0
  | aSep h2 _=>rfl
  | aB h2 _=>simp at h1
  | aO h2 _ _=>simp at h1
 | aB0 h0 _ ih=>
  intro H A;cases A with
  | aEnd=>simp at h0
  | aB0 _ h2=>exact ih h2
  | aO0 _ h2 _=>cases ih h2
 | aO0 h0 _ _ ih1 ih2=>
  intro H A;cases A with
  | aEnd=>simp at h0
  | aB0 _ h2=>cases ih1 h2
  | aO0 _ h2 h3=>cases ih1 h2;exact ih2 h3
 | aB h0 _ ih=>
  intro H A;cases A with
  | aEnd=>exact absurd rfl h0
  | aSep _ h2=>simp at h2
  | aB _ h2=>exact ih h2
  | aO _ h2 _=>cases ih h2
 | aO h0 _ _ ih1 ih2=>
  intro H A;cases A with
  | aEnd=>exact absurd rfl h0
  | aSep _ h2=>simp at h2
  | aB _ h2=>cases ih1 h2
  | aO _ h2 h3=>cases ih1 h2;exact ih2 h3
def Rs.rest:Rs->List Wd
 | .ok _ _ u=>u
 | .bad u=>u
def dO.eats:dO->Nat
 | .level _=>1
 | .single=>1
 | _=>0
theorem iX{α:Type}{u A}(w:α)(h:u <:+ A):u <:+ w::A:=h.trans (É w A)
theorem il{j D r}(h:PR j D r):r.rest <:+ D/\∀m C u,r=.ok m C u->ſ u+j.eats<=ſ D:=by
 induction h with
 | lev2 _ ih=>exact ih
 | levB _ _ ih=>exact⟨ih.1,λ_ _ _ e=>by cases e⟩
 | levO _ _ _ ih1 ih2=>
  have A:=ih1.2 _ _ _ rfl;refine⟨ih2.1.trans ih1.1,λm C u e=>?_⟩;have B:=ih2.2 _ _ _ e;simp only[dO.eats]at A B⊢;omega
 | lopE _=>exact⟨Ë _,λ_ _ _ e=>by cases e;simp[dO.eats]⟩
 | lopB _ ih=>exact⟨iX _ ih.1,λ_ _ _ e=>by cases e⟩
 | lopO _ _ ih1 ih2=>
  have A:=ih1.2 _ _ _ rfl;refine⟨iX _ (ih2.1.trans ih1.1),λm C u e=>?_⟩;have B:=ih2.2 _ _ _ e;simp only[dO.eats,À]at A B⊢;omega
 | sinN=>exact⟨Ë _,λ_ _ _ e=>by cases e⟩
 | sPB _ ih=>exact⟨iX _ ih.1,λ_ _ _ e=>by cases e⟩
 | sPC _ ih=>
  have A:=ih.2 _ _ _ rfl;refine⟨iX _ ((É _ _).trans ih.1),λm C u e=>?_⟩;cases e;simp only[dO.eats,À]at A⊢;omega
 | sPX _ _ ih=>exact⟨iX _ ih.1,λ_ _ _ e=>by cases e⟩
 | sLB _ ih=>exact⟨iX _ ih.1,λ_ _ _ e=>by cases e⟩
 | sLO _ ih=>
  have A:=ih.2 _ _ _ rfl;refine⟨iX _ ih.1,λm C u e=>?_⟩;cases e;simp only[dO.eats,À]at A⊢;omega
 | sNum _=>exact⟨É _ _,λ_ _ _ e=>by cases e;simp[dO.eats]⟩
 | sName _ _=>exact⟨É _ _,λ_ _ _ e=>by cases e;simp[dO.eats]⟩
 | sCB _ _ ih=>exact⟨iX _ (iX _ ih.1),λ_ _ _ e=>by cases e⟩
 | sCO _ _ ih=>
  have A:=ih.2 _ _ _ rfl;refine⟨iX _ (iX _ ih.1),λm C u e=>?_⟩;cases e;simp only[dO.eats,À]at A⊢;omega
 | sBad _ _ _ _=>exact⟨Ë _,λ_ _ _ e=>by cases e⟩
 | aEnd=>exact⟨É _ _,λ_ _ _ e=>by cases e;simp[dO.eats]⟩
 | aSep _ _=>exact⟨Ë _,λ_ _ _ e=>by cases e⟩
 | aB0 _ _ ih=>exact⟨ih.1,λ_ _ _ e=>by cases e⟩
 | aO0 _ _ _ ih1 ih2=>
  have A:=ih1.2 _ _ _ rfl;refine⟨ih2.1.trans ih1.1,λm C u e=>?_⟩;have B:=ih2.2 _ _ _ e;simp only[dO.eats]at A B⊢;omega
 | aB _ _ ih=>exact⟨iX _ ih.1,λ_ _ _ e=>by cases e⟩
 | aO _ _ _ ih1 ih2=>
  have A:=ih1.2 _ _ _ rfl;refine⟨iX _ (ih2.1.trans ih1.1),λm C u e=>?_⟩;have B:=ih2.2 _ _ _ e;simp only[dO.eats,À]at A B⊢;omega
def pk(w:Wd):Prop:=w=[40]\/w=[91]\/dN w=Æ\/bb w=Æ
theorem sC{w}(h:bb w=Æ):∃c z,w=c::z/\aI c=Æ/\w≠[108,101,116]/\(ſ w)<=8/\∀b∈w,aI b=true:=by
 unfold bb aL at h;simp only[Á,È,decide_eq_true_eq]at h;obtain⟨⟨⟨C,A⟩,D⟩,B⟩:=h;cases w with
 | nil=>simp[ab,ByteArray.size]at C
 | cons c z=>
  refine⟨c,z,rfl,B c (by show c∈(c::z);simp),D,?_,B⟩;have e:(ab (c::z)).size=(c::z).length:=by rw[<-aw];rfl
  rw[e]at A;exact A
theorem EX{w}(h:pk w):w≠[41]/\w≠[93]/\w≠[44]/\w≠[108,101,116]/\w.headD 0≠35:=by
 rcases h with rfl|rfl|h|h
 .decide
 .decide
 .have:∀c:UInt8,ay c=Æ->c≠41/\c≠93/\c≠44/\c≠108/\c≠35:=λc A=>by
   refine⟨?_,?_,?_,?_,?_⟩<;>(rintro rfl;revert A;decide)
  cases w with
  | nil=>exact absurd h (by decide)
  | cons c z=>
   obtain⟨D,E,G,H,B⟩:=this c h;refine⟨?_,?_,?_,?_,B⟩<;>(intro e;rw[Ã]at e;simp_all)
 .obtain⟨c,z,rfl,A,C,_,_⟩:=sC h
  have:c≠41/\c≠93/\c≠44/\c≠35:=by
   refine⟨?_,?_,?_,?_⟩<;>(rintro rfl;revert A;decide)
  refine⟨?_,?_,?_,C,this.2.2.2⟩<;>(intro e;rw[Ã]at e;simp_all)
structure jo(t:Tn):Prop where
 b:∃w z,t.tk=w::z/\pk w
 s:∀rest:List Wd,rest.head?≠Ä [40]->PR .single (brk 2 t++rest) (.ok 0 t.ns rest)
 l1:∀(rest:List Wd)(r:Rs),rest.head?≠Ä [40]->PR (.loop 1 t.ns) rest r->PR (.level 1) (brk 1 t++rest) r
 l0:∀(rest:List Wd)(r:Rs),rest.head?≠Ä [40]->rest.head?≠Ä [42]->PR (.loop 0 t.ns) rest r->PR (.level 0) (brk 0 t++rest) r
theorem tI(t):brk 0 t=t.tk:=by simp[brk]
theorem vS{t}(h:jo t){rest}(A:rest.head?≠Ä [40])(B:rest.head?≠Ä [42])(C:rest.head?≠Ä [43]):PR (.level 0) (t.tk++rest) (.ok 0 t.ns rest):=by
 have:=h.l0 rest (.ok 0 t.ns rest) A B (.lopE C)
 rwa[tI]at this
theorem K8{t}(h:jo t){rest}(A:rest.head?≠Ä [40])(B:rest.head?≠Ä [42]):PR (.level 1) (brk 1 t++rest) (.ok 0 t.ns rest):=
 h.l1 rest (.ok 0 t.ns rest) A (.lopE B)
theorem sq{t}(I:da t.x=2)(G:∃w z,t.tk=w::z/\pk w)(h:∀a:List Wd,a.head?≠Ä [40]->PR .single (t.tk++a) (.ok 0 t.ns a)):jo t:=by
 have B:brk 1 t=t.tk:=by rw[brk,if_neg (by omega)]
 have C:brk 2 t=t.tk:=by rw[brk,if_neg (by omega)]
 have A:∀(rest:List Wd)(r:Rs),rest.head?≠Ä [40]->PR (.loop 1 t.ns) rest r->PR (.level 1) (t.tk++rest) r:=
  λrest r E D=>.levO (by omega) (.lev2 (h rest E)) D
 refine⟨G,by rw[C];exact h,by rw[B];exact A,λrest r E H D=>?_⟩;rw[tI];exact .levO (by omega) (A rest _ E (.lopE H)) D
theorem FD{t}(h:∃w z,t.tk=w::z/\pk w)(l r):∃w z,brk l t++r=w::z/\pk w:=by
 by_cases A:da t.x<l
 .rw[brk,if_pos A];exact⟨[40],_,rfl,.inl rfl⟩
 .rw[brk,if_neg A];obtain⟨w,z,e,B⟩:=h;exact⟨w,z++r,by rw[e];rfl,B⟩
theorem DQ{t l}(B:da t.x<l)(A:∀a:List Wd,a.head?≠Ä [40]->a.head?≠Ä [42]->a.head?≠Ä [43]->PR (.level 0) (t.tk++a) (.ok 0 t.ns a))(rest):PR .single (brk l t++rest) (.ok 0 t.ns rest):=by
 rw[brk,if_pos B,Â,Ç];exact .sPC (A ([41]::rest) (by simp) (by simp) (by simp))
theorem SG{x a b}(P:x=dB 1)(O:jo a)(R:jo b):jo (ao x [a,b]):=by
 have H:x.op=6:=by rw[P];rfl
 have J:da (ao x [a,b]).x=1:=by simp[ao,da,H]
 have G:(ao x [a,b]).tk=brk 1 a++[42]::brk 2 b:=by simp[ao,iU,two2,H]
 have I:(ao x [a,b]).ns=dB 1::(a.ns++b.ns):=by simp[ao,P]
 have E:∀(A:List Wd)(r:Rs),A.head?≠Ä [40]->PR (.loop 1 (ao x [a,b]).ns) A r->PR (.level 1) ((ao x [a,b]).tk++A) r:=by
  intro A r C B;rw[G,Ç];refine O.l1 _ _ (by simp) ?_;rw[I]at B;exact .lopO (k:=1) (.lev2 (R.s A C)) B
 have D:∀(A:List Wd)(r:Rs),A.head?≠Ä [40]->A.head?≠Ä [42]->PR (.loop 0 (ao x [a,b]).ns) A r->PR (.level 0) ((ao x [a,b]).tk++A) r:=
  λA r C N B=>.levO (by omega) (E A _ C (.lopE N)) B
 refine⟨by rw[G];exact FD O.b _ _,λA _=>DQ (by omega) (λA K L M=>D A _ K L (.lopE M)) A,λA r C B=>?_,λA r C N B=>?_⟩
 .rw[brk,if_neg (by omega)];exact E A r C B
 .rw[tI];exact D A r C N B
theorem SH{x a b}(O:x=dB 0)(N:jo a)(P:jo b):jo (ao x [a,b]):=by
 have H:x.op=5:=by rw[O];rfl
 have J:da (ao x [a,b]).x=0:=by simp[ao,da,H]
 have G:(ao x [a,b]).tk=brk 0 a++[43]::brk 1 b:=by simp[ao,iU,two2,H]
 have I:(ao x [a,b]).ns=dB 0::(a.ns++b.ns):=by simp[ao,O]
 have E:∀(A:List Wd)(r:Rs),A.head?≠Ä [40]->A.head?≠Ä [42]->PR (.loop 0 (ao x [a,b]).ns) A r->PR (.level 0) ((ao x [a,b]).tk++A) r:=by
  intro A r D C B;rw[G,Ç];refine N.l0 _ _ (by simp) (by simp) ?_;rw[I]at B;exact .lopO (k:=0) (K8 P D C) B
 have C:∀l,0<l->∀A:List Wd,PR .single (brk l (ao x [a,b])++A) (.ok 0 (ao x [a,b]).ns A):=
  λl B A=>DQ (by omega) (λA K L M=>E A _ K L (.lopE M)) A
 refine⟨by rw[G];exact FD N.b _ _,λA _=>C 2 (by omega) A,λA r _ B=>.levO (by omega) (.lev2 (C 1 (by omega) A)) B,λA r D C B=>?_⟩;rw[tI];exact E A r D C B
def iw:List Tn->List Wd
 | []=>[]
 | t::r=>[44]::gu (t::r)
theorem zm(t r):gu (t::r)=t.tk++iw r:=by
 cases r with
 | nil=>simp[gu,iw]
 | cons u r=>simp[gu,iw]
theorem zn{e}(A:e=[41]\/e=[93])(r rest):(iw r++e::rest).head?≠Ä [40]/\(iw r++e::rest).head?≠Ä [42]/\(iw r++e::rest).head?≠Ä [43]:=by
 cases r with
 | nil=>rcases A with rfl|rfl<;>simp[iw]
 | cons t r=>simp[iw]
theorem BV{e:Wd}(E:e=[41]\/e=[93]):∀(D:List Tn),(∀t∈D,jo t)->∀(n:Nat)(C:List Td)(rest:List Wd),
  PR (.args e (n+1) C) (iw D++e::rest) (.ok (n+1+ſ D) (C++D.flatMap (·.ns)) rest)
 | [],_,n,C,rest=>by simpa[iw]using PR.aEnd
 | t::r,h,n,C,rest=>by
  obtain⟨H,I,J⟩:=zn E r rest;have ih:=BV E r (λu L=>h u (by simp[L])) (n+1) (C++t.ns) rest;have K:=vS (h t (by simp)) H I J;have G:iw (t::r)++e::rest=[44]::(t.tk++(iw r++e::rest)):=by rw[iw,zm];simp
  have A:n+1+(t::r).length=n+1+1+ſ r:=by simp;omega
  have B:C++(t::r).flatMap (·.ns)=C++t.ns++r.flatMap (·.ns):=by simp
  rw[G,A,B];exact .aO (by rcases E with rfl|rfl<;>decide) K ih
theorem ze{e}(O:e=[41]\/e=[93])(N)(h:∀t∈N,jo t)(rest):
  PR (.args e 0 []) (gu N++e::rest) (.ok (ſ N) (N.flatMap (·.ns)) rest):=by
 cases N with
 | nil=>simpa[gu]using PR.aEnd
 | cons t r=>
  obtain⟨H,I,J⟩:=zn O r rest;have M:=BV O r (λu P=>h u (by simp[P])) 0 ([]++t.ns) rest;have K:=vS (h t (by simp)) H I J;obtain⟨w,z,C,L⟩:=(h t (by simp)).b;have A:=EX L;have D:gu (t::r)++e::rest=t.tk++(iw r++e::rest):=by rw[zm];simp
  have E:(t::r).length=0+1+ſ r:=by simp;omega
  have G:(t::r).flatMap (·.ns)=[]++t.ns++r.flatMap (·.ns):=by simp
  rw[D,E,G];refine .aO0 ?_ K M;rw[C,Â,List.head?_cons];intro B;rcases O with rfl|rfl
  .exact A.1 (Option.some.inj B)
  .exact A.2.1 (Option.some.inj B)
theorem kw{x:Td}{op tx n}(A:x.op=op)(B:x.tx=tx)(C:x.n=n):x=⟨op,tx,n⟩:=by
 cases x;simp_all
theorem nG{α:Type}{l:List α}(h:ſ l=2):∃a b,l=[a,b]:=by
 match l,h with
 | [a,b],_=>exact⟨a,b,rfl⟩
theorem xZ:∀F:Fo,F.ok->F.exs->∀t∈F.R,jo t
 | .nil,_,_,t,ht=>by cases ht
 | .cons x k n,hok,hex,t,ht=>by
  have V:k.exs:=λy Y=>hex y (by simp[Fo.N,Y])
  have W:n.exs:=λy Y=>hex y (by simp[Fo.N,Y])
  have S:=xZ k hok.2.1 V;rw[Fo.R]at ht;rcases Ê.1 ht with rfl|ht
  .have U:ſ k.R=aE x:=by rw[oY];exact hok.1
   rcases iE (hex x (by simp[Fo.N]))with⟨B,E,C,M,J⟩|⟨B,L,C,J⟩|⟨B,L,C,M,J⟩|⟨B,E,C,M,J⟩|⟨B,E,C,J⟩|⟨B,E,C,J⟩
   .have K:k.R=[]:=Å (by omega)
    have H:dN (aA x.n.toNat)=true:=by
     have P:=qq x.n.toNat;cases O:aA x.n.toNat with
     | nil=>exact absurd O (qL _)
     | cons c z=>exact P c (by rw[O];simp)
    have A:(ao x k.R).tk=[aA x.n.toNat]:=by simp[ao,iU,B]
    have D:(ao x k.R).ns=[nH (aA x.n.toNat)]:=by
     rw[ao,K];simp only[Ô,Ã,and_true];exact kw B E (by rw[U1];omega)
    refine sq (by simp[ao,da,B]) ⟨_,_,A,.inr (.inr (.inl H))⟩ λrest _=>?_
    rw[A,D];exact .sNum H
   .have K:k.R=[]:=Å (by omega);have G:=L;have A:(ao x k.R).tk=[ae x.tx]:=by simp[ao,iU,B]
    have D:(ao x k.R).ns=[lz (ae x.tx)]:=by
     rw[ao,K];simp only[Ô,Ã,and_true];exact kw B rfl C
    refine sq (by simp[ao,da,B]) ⟨_,_,A,.inr (.inr (.inr G))⟩ λrest X=>?_
    rw[A,D];exact .sName G X
   .have G:=L;have A:(ao x k.R).tk=ae x.tx::[40]::(gu k.R++[[41]]):=by simp[ao,iU,B]
    have D:(ao x k.R).ns=tW (ae x.tx) (ſ k.R)::k.R.flatMap (·.ns):=by
     rw[ao];simp only[Ã,and_true];exact kw B rfl (by omega)
    refine sq (by simp[ao,da,B]) ⟨_,_,A,.inr (.inr (.inr G))⟩ λrest X=>?_
    rw[A,D]
    have:=ze (.inl rfl) k.R S rest
    refine .sCO G ?_;simpa using this
   .have A:(ao x k.R).tk=[91]::(gu k.R++[[93]]):=by simp[ao,iU,B]
    have D:(ao x k.R).ns=kD (ſ k.R)::k.R.flatMap (·.ns):=by
     rw[ao];simp only[Ã,and_true];exact kw B E (by omega)
    refine sq (by simp[ao,da,B]) ⟨_,_,A,.inr (.inl rfl)⟩ λrest X=>?_
    rw[A,D]
    have:=ze (.inr rfl) k.R S rest
    refine .sLO ?_;simpa using this
   .obtain⟨a,b,I⟩:=nG (U.trans J);rw[I]at S⊢;exact SH (kw B E C) (S a (by simp)) (S b (by simp))
   .obtain⟨a,b,I⟩:=nG (U.trans J);rw[I]at S⊢;exact SG (kw B E C) (S a (by simp)) (S b (by simp))
  .exact xZ n hok.2.2 W t ht
theorem o2(l t):(br l t).length<=ſ t.tx+2:=by
 unfold br
 split
 .simp
 .omega
theorem Hu:∀A:List Tn,(∀t∈A,ſ t.tx+4<=16*ſ t.ns)->(cm A).length<=16*(A.flatMap (·.ns)).length
 | [],_=>by simp[cm]
 | [t],h=>by
  have:=h t (by simp)
  simp[cm];omega
 | t::u::r,h=>by
  have C:=h t (by simp);have D:=Hu (u::r) (λx B=>h x (by simp[B]));rw[cm,List.flatMap_cons,Í,Í];simp only[À];omega
theorem jd{s}(h:aL s=Æ):(ae s).length<=8:=by
 unfold aL at h;simp only[Á,decide_eq_true_eq]at h;rw[aw];exact h.1.1.2
theorem rK:∀F:Fo,F.ok->F.exs->∀t∈F.R,ſ t.tx+4<=16*ſ t.ns
 | .nil,_,_,t,ht=>by cases ht
 | .cons x k n,hok,hex,t,ht=>by
  have S:k.exs:=λy V=>hex y (by simp[Fo.N,V])
  have U:n.exs:=λy V=>hex y (by simp[Fo.N,V])
  have O:=rK k hok.2.1 S;rw[Fo.R]at ht;rcases Ê.1 ht with rfl|ht
  .have P:ſ k.R=aE x:=by rw[oY];exact hok.1
   have I:=Hu k.R O;rcases iE (hex x (by simp[Fo.N]))with⟨B,G,A,H,D⟩|⟨B,E,A,D⟩|⟨B,E,A,H,D⟩|⟨B,G,A,H,D⟩|⟨B,G,A,D⟩|⟨B,G,A,D⟩
   .have:=gX 5 x.n.toNat (by omega)
    simp[ao,bh,B];omega
   .have:=jd E
    simp only[ao,bh,B];simp at this⊢;omega
   .have:=jd E
    simp only[ao,bh,B];simp at this I⊢;omega
   .simp only[ao,bh,B];simp at I⊢;omega
   .obtain⟨a,b,C⟩:=nG (P.trans D);rw[C]at O⊢;have J:=O a (by simp);have K:=O b (by simp);have L:=o2 0 a;have M:=o2 1 b;simp[ao,bh,B,two2];omega
   .obtain⟨a,b,C⟩:=nG (P.trans D);rw[C]at O⊢;have J:=O a (by simp);have K:=O b (by simp);have L:=o2 1 a;have M:=o2 2 b;simp[ao,bh,B,two2];omega
  .exact rK n hok.2.2 U t ht
def Fo.tk:Nat->Fo->Fo
 | 0,_=>.nil
 | _+1,.nil=>.nil
 | k+1,.cons x a n=>.cons x a (Fo.tk k n)
def Fo.dp:Nat->Fo->Fo
 | 0,f=>f
 | _+1,.nil=>.nil
 | k+1,.cons _ _ n=>Fo.dp k n
theorem vK:∀f g:Fo,Fo.tk f.len (f.app g)=f
 | .nil,g=>by cases g<;>rfl
 | .cons x k n,g=>by simp only[Fo.len,Fo.app,Fo.tk,vK n g]
theorem vI:∀f g:Fo,Fo.dp f.len (f.app g)=g
 | .nil,g=>by cases g<;>rfl
 | .cons x k n,g=>by simp only[Fo.len,Fo.app,Fo.dp,vI n g]
theorem xz:∀f:Fo,f.app .nil=f
 | .nil=>rfl
 | .cons x k n=>by simp only[Fo.app,xz n]
def jE:List Td->Fo
 | []=>.nil
 | x::r=>.cons x (Fo.tk (aE x) (jE r)) (Fo.dp (aE x) (jE r))
theorem uH:∀(F:Fo),F.ok->∀r,jE (F.N++r)=F.app (jE r)
 | .nil,_,r=>rfl
 | .cons x k n,h,r=>by
  have A:=uH n h.2.2 r;have B:=uH k h.2.1 (n.N++r);rw[Fo.N,Â,Ç,jE,B,A,<-h.1,vK,vI];rfl
theorem Nh(F)(h:F.ok):jE F.N=F:=by
 have:=uH F h []
 rw[Î]at this;rw[this];exact xz F
theorem kL{U}(h:ag U=0):(∃x,U=[x]/\x.op=9/\x.n=0/\cX x.tx=0)\/
  (∃(x:Td)(F:Fo),U=x::F.N/\F.ok/\F.exs/\F.len=1/\((x.op=7/\aL x.tx=Æ/\x.n=0)\/(x.op=8/\x.tx=⟨#[]⟩/\x.n=0))):=by
 obtain⟨_,Q,H,R⟩:=lF h;cases U with
 | nil=>rw[oH [] 0 0 (by simp)]at H;cases H
 | cons x r=>
  have B:=Q x (by simp);simp only[gK,Á,decide_eq_true_eq,È]at R;rw[bJ,List.drop_zero,mC,Option.map_map,Option.map_eq_some_iff]at H;obtain⟨j,P,J⟩:=H;simp only[Function.comp_apply,À]at J;have K:j=ſ r:=by omega
  rw[Nat.add_zero,K]at P;obtain⟨F,O,G,D⟩:=tZ (ſ r) r (aE x) (ſ r) Zl P;rw[List.take_length]at D
  have E:F.exs:=λy V=>by
   rw[D]at V;exact⟨Q y (by simp[V]),R.2 y V⟩
  have I:∀s:ByteArray,¬0<s.size->s=⟨#[]⟩:=λs X=>by
   apply ByteArray.ext;apply Array.toList_inj.1;exact Å (by have:=aw s;simp only[ae]at this;omega)
  unfold aq at B
  split at B
  .cases B
  .rename_i h1
   split at B
   .cases B
   .split at B
    .cases B
    .rename_i h3;have A:x.op=7\/x.op=8\/x.op=9:=by omega
     rcases A with A|A|A
     .have C:aE x=1:=by unfold aE;rw[A];rfl
      rw[if_neg (by omega)]at B
      split at B
      .cases B
      .rename_i h4;refine .inr ⟨x,F,by rw[D],O,E,by rw[G,C],.inl ⟨A,?_,by omega⟩⟩;cases M:aL x.tx with
       | true=>rfl
       | false=>exact absurd ⟨by rw[A];rfl,M⟩ h4
     .have C:aE x=1:=by unfold aE;rw[A];rfl
      exact .inr ⟨x,F,by rw[D],O,E,by rw[G,C],.inr ⟨A,I _ (λW=>h3 (.inr ⟨by rw[A];rfl,W⟩)),by omega⟩⟩
     .have L:aE x=0:=by unfold aE;rw[A];rfl
      rw[if_pos A]at B
      have S:F=.nil:=by
       cases F with
       | nil=>rfl
       | cons y k n=>rw[L]at G;simp[Fo.len]at G
      rw[S]at D;exact .inl ⟨x,by rw[<-D];rfl,A,by omega,B⟩
def iM(ks:List Tn):List UInt8:=match ks with
 | t::_=>t.tx
 | []=>[]
def nN(ks:List Tn):List Wd:=match ks with
 | t::_=>t.tk
 | []=>[]
def fT(x:Td)(ks:List Tn):List UInt8:=
 if x.op=7 then [108,101,116,32]++ae x.tx++[32,61,32]++iM ks++[59]else if x.op=8 then iM ks++[59]else if x.tx.size=0 then [35]else [35,32]++ae x.tx
def jl(x:Td)(ks:List Tn):List Wd:=
 if x.op=7 then [108,101,116]::ae x.tx::[61]::(nN ks++[[59]])else if x.op=8 then nN ks++[[59]]else [if x.tx.size=0 then [35]else [35,32]++ae x.tx]
def aT(ds:List Td):List UInt8:=match jE ds with
 | .nil=>[]
 | .cons x k _=>fT x k.R
def iA(ds:List Td):List Wd:=match jE ds with
 | .nil=>[]
 | .cons x k _=>jl x k.R
theorem yr{x F}(h:F.ok)(C:F.len=aE x):jE (x::F.N)=.cons x F .nil:=by
 have A:=vK F .nil;have B:=vI F .nil;rw[xz]at A B;rw[jE,Nh F h,<-C,A,B]
theorem jJ{x}{F:Fo}(h:F.ok)(A:F.len=aE x):aT (x::F.N)=fT x F.R/\iA (x::F.N)=jl x F.R:=by
 rw[aT,iA,yr h A];exact⟨rfl,rfl⟩
def dh(ps:List (List Td)):List UInt8:=ps.flatMap λt=>aT t++[10]
theorem JJ(t r):dh (t::r)=aT t++[10]++dh r:=by simp[dh]
theorem NV(r t):dh (r++[t])=dh r++(aT t++[10]):=by simp[dh]
def mj(a b:UInt8):Bool:=(aI a&&aI b)||(ay a&&ay b)
def kf(b:UInt8):Bool:=!aI b&&!ay b
def kd(s rest:List UInt8):Prop:=∀a b,s.getLast?=Ä a->rest.head?=Ä b->mj a b=Ì
theorem NC{a b}(h:kf b=Æ):mj a b=false:=by grind [kf,mj]
theorem RP{a b}(h:kf a=Æ):mj a b=false:=by grind [kf,mj]
theorem lD{s b}(h:kf b=Æ)(r):kd s (b::r):=by grind [NC,kf,kd]
theorem Ns{a}(h:kf a=Æ)(s r):kd (s++[a]) r:=by grind [RP,kf,kd]
def Lx(s:List UInt8)(ws:List Wd):Prop:=∀a i,kd s a->(bZ (s++a) i).map (·.2)=ws++(bZ a (i+ſ s)).map (·.2)/\cM (s++a) i=cM a (i+ſ s)
theorem Lx.nil:Lx [] []:=λa i _=>by simp
theorem Lx.app{s t ws L}(M:Lx s ws)(N:Lx t L)(h:kd s t):Lx (s++t) (ws++L):=by
 intro A i D
 have E:kd s (t++A):=by
  intro a b B C;cases t with
  | nil=>
   rw[Î]at D;exact D a b B C
  | cons c t=>exact h a b B C
 have G:kd t A:=by
  intro a b B C;refine D a b ?_ C;rw[List.getLast?_append,B];rfl
 obtain⟨H,I⟩:=M (t++A) i E;obtain⟨J,K⟩:=N A (i+ſ s) G;rw[Ç,H,I,J,K,Í,Nat.add_assoc];exact⟨by simp,rfl⟩
theorem Lx.blank{c}(h:cZ c=Æ):Lx [c] []:=by grind [bZ,cM,ku,cZ,Lx]
theorem Lx.tok{c r}(A:cZ c=Ì)(h:∀a,kd (c::r) a->bX (c::r++a)=Æ/\aV (c::r++a)=(c::r).length)(B:bU (c::r)=c::r):Lx (c::r) [c::r]:=by grind [aV,aK,bZ,cM,nk,cZ,kd,bX,bU,Lx]
theorem rI{p:UInt8->Bool}:∀(r rest:List UInt8),(∀x∈r,p x=Æ)->(∀b,rest.head?=Ä b->p b=Ì)->(r++rest).takeWhile p=r
 | [],rest,_,h=>by
  cases rest with
  | nil=>rfl
  | cons b t=>rw[List.nil_append,Ò,if_neg (by simp[h b rfl])]
 | a::r,rest,h,h2=>by
  rw[Â,Ò,if_pos (h a (by simp)),rI r rest (λx A=>h x (by simp[A])) h2]
theorem zO{s:List UInt8}(h:s≠[]):∃a,s.getLast?=Ä a/\a∈s:=by
 refine⟨s.getLast h,List.getLast?_eq_some_getLast h,List.getLast_mem h⟩
theorem G8{p:UInt8->Bool}(A:∀x,p x=Æ->x≠32){l}(h:∀x∈l,p x=Æ):bU l=l:=by
 rcases Ð l with rfl|⟨v,c,rfl⟩
 .rfl
 .rw[List.concat_eq_append]at h⊢;exact jA v (A c (h c (by simp)))
theorem Mz{c}(h:aI c=Æ):cZ c=false:=by
 have A:=pK h;have B:c≠10:=by rintro rfl;revert h;decide
 simp[cZ,A,B]
theorem Ml{c}(h:ay c=Æ):cZ c=false:=by
 have A:=pG h;have B:c≠10:=by rintro rfl;revert h;decide
 simp[cZ,A,B]
theorem Lx.name{w}(h:∀x∈w,aI x=Æ)(G:w≠[])(E:ſ w<=8):Lx w [w]:=by
 cases w with
 | nil=>exact absurd rfl G
 | cons c r=>
  have B:=h c (by simp);refine Lx.tok (Mz B) (λrest H=>?_) (G8 (λ_=>pK) h);obtain⟨a,C,D⟩:=zO (s:=c::r) (by simp)
  have A:∀b,rest.head?=Ä b->aI b=false:=λb A=>by
   have:=H a b C A
   simp only[mj,h a D,Õ,Ñ]at this;exact this.1
  have e:=rI r rest (λx I=>h x (by simp[I])) A;rw[Â];simp only[bX,aV,B,if_true,e];simp only[À]at E⊢;exact⟨decide_eq_true E,trivial⟩
theorem Lx.num(n)(N:n<=999999):Lx (aA n) [aA n]:=by
 have B:=qq n;have D:=gX 5 n (by omega)
 have K:∀c r,aA n=c::r->(c != 48||(ſ r)==0)=true:=λc r e=>by
  rcases Nat.eq_zero_or_pos n with h|h
  .subst h;rw[aA,dif_pos (by omega)]at e;cases e;rfl
  .obtain⟨d,z,H,A⟩:=CB n h;rw[e,Ã]at H;rw[H.1];simp[A]
 cases A:aA n with
 | nil=>exact absurd A (qL n)
 | cons c r=>
  rw[A]at B D;have G:=B c (by simp);have C:=rS G;refine Lx.tok (Ml G) (λrest L=>?_) (G8 (λ_=>pG) B);obtain⟨a,I,J⟩:=zO (s:=c::r) (by simp)
  have E:∀b,rest.head?=Ä b->ay b=false:=λb E=>by
   have:=L a b I E
   simp only[mj,B a J,Õ,Ñ]at this;exact this.2
  have e:=rI r rest (λx M=>B x (by simp[M])) E;rw[Â];simp only[bX,aV,G,C,if_true,Ó,if_false,e];simp only[À]at D⊢;exact⟨by rw[decide_eq_true D,K c r A];rfl,trivial⟩
theorem Lx.mark{c}(h:ml c=Æ):Lx [c] [[c]]:=by
 have G:cZ c=Ì/\aI c=Ì/\ay c=Ì/\(c==35)=Ì/\c≠32:=by
  simp only[ml,mw,List.any_cons,List.any_nil,Bool.or_false,Bool.or_eq_true,beq_iff_eq]at h;rcases h with h|h|h|h|h|h|h|h|h<;>(subst h;decide)
 obtain⟨A,B,C,D,E⟩:=G;refine Lx.tok A (λrest _=>?_) (jA [] E);rw[Â];simp only[bX,aV,B,C,D,Ó,if_false];exact⟨h,rfl⟩
theorem Lx.pre{c t ws A}(B:Lx [c] ws)(D:kf c=Æ)(C:Lx t A):Lx (c::t) (ws++A):=
 Lx.app B C (Ns D [] t)
theorem Lx.post{c s ws A}(B:Lx s ws)(D:kf c=Æ)(C:Lx [c] A):Lx (s++[c]) (ws++A):=
 Lx.app B C (lD D [])
theorem rv{t}(h:Lx t.tx t.tk)(l):Lx (br l t) (brk l t):=by
 unfold br brk
 split
 .exact Lx.pre (Lx.mark (c:=40) rfl) rfl (Lx.post h rfl (Lx.mark (c:=41) rfl))
 .exact h
theorem yN:∀A:List Tn,(∀t∈A,Lx t.tx t.tk)->Lx (cm A) (gu A)
 | [],_=>Lx.nil
 | [t],h=>by simpa[cm,gu]using h t (by simp)
 | t::u::r,h=>by
  have ih:=yN (u::r) λx C=>h x (by simp[C])
  rw[cm,gu]
  have B:Lx (44::32::cm (u::r)) ([44]::gu (u::r)):=by
   have:=Lx.pre (Lx.mark (c:=44) rfl) rfl (Lx.pre (Lx.blank (c:=32) rfl) rfl ih)
   simpa using this
  exact Lx.app (h t (by simp)) B (lD rfl _)
theorem wU:∀F:Fo,F.ok->F.exs->∀t∈F.R,Lx t.tx t.tk
 | .nil,_,_,t,ht=>by cases ht
 | .cons x k n,hok,hex,t,ht=>by
  have S:k.exs:=λy V=>hex y (by simp[Fo.N,V])
  have U:n.exs:=λy V=>hex y (by simp[Fo.N,V])
  have O:=wU k hok.2.1 S;rw[Fo.R]at ht;rcases Ê.1 ht with rfl|ht
  .have P:ſ k.R=aE x:=by rw[oY];exact hok.1
   have M:=yN k.R O;rcases iE (hex x (by simp[Fo.N]))with⟨A,J,E,K,H⟩|⟨A,I,E,H⟩|⟨A,I,E,K,H⟩|⟨A,J,E,K,H⟩|⟨A,J,E,H⟩|⟨A,J,E,H⟩
   .have B:(ao x k.R).tx=aA x.n.toNat:=by simp[ao,bh,A]
    have C:(ao x k.R).tk=[aA x.n.toNat]:=by simp[ao,iU,A]
    rw[B,C];exact Lx.num _ (by omega)
   .obtain⟨c,z,e,_,_,L,D⟩:=sC (w:=ae x.tx) I;have B:(ao x k.R).tx=ae x.tx:=by simp[ao,bh,A]
    have C:(ao x k.R).tk=[ae x.tx]:=by simp[ao,iU,A]
    rw[B,C];exact Lx.name D (by rw[e];simp) L
   .obtain⟨c,z,e,_,_,L,D⟩:=sC (w:=ae x.tx) I;have B:(ao x k.R).tx=ae x.tx++40::(cm k.R++[41]):=by simp[ao,bh,A]
    have C:(ao x k.R).tk=[ae x.tx]++([[40]]++(gu k.R++[[41]])):=by simp[ao,iU,A]
    rw[B,C];exact Lx.app (Lx.name D (by rw[e];simp) L) (Lx.pre (Lx.mark (c:=40) rfl) rfl (Lx.post M rfl (Lx.mark (c:=41) rfl))) (lD rfl _)
   .have B:(ao x k.R).tx=91::(cm k.R++[93]):=by simp[ao,bh,A]
    have C:(ao x k.R).tk=[[91]]++(gu k.R++[[93]]):=by simp[ao,iU,A]
    rw[B,C];exact Lx.pre (Lx.mark (c:=91) rfl) rfl (Lx.post M rfl (Lx.mark (c:=93) rfl))
   .obtain⟨a,b,G⟩:=nG (P.trans H);rw[G]at O⊢;have B:(ao x [a,b]).tx=br 0 a++32::43::32::br 1 b:=by simp[ao,bh,two2,A]
    have C:(ao x [a,b]).tk=brk 0 a++([]++([[43]]++([]++brk 1 b))):=by simp[ao,iU,two2,A]
    rw[B,C];exact Lx.app (rv (O a (by simp)) 0) (Lx.pre (Lx.blank (c:=32) rfl) rfl (Lx.pre (Lx.mark (c:=43) rfl) rfl (Lx.pre (Lx.blank (c:=32) rfl) rfl (rv (O b (by simp)) 1)))) (lD rfl _)
   .obtain⟨a,b,G⟩:=nG (P.trans H);rw[G]at O⊢;have B:(ao x [a,b]).tx=br 1 a++32::42::32::br 2 b:=by simp[ao,bh,two2,A]
    have C:(ao x [a,b]).tk=brk 1 a++([]++([[42]]++([]++brk 2 b))):=by simp[ao,iU,two2,A]
    rw[B,C];exact Lx.app (rv (O a (by simp)) 1) (Lx.pre (Lx.blank (c:=32) rfl) rfl (Lx.pre (Lx.mark (c:=42) rfl) rfl (Lx.pre (Lx.blank (c:=32) rfl) rfl (rv (O b (by simp)) 2)))) (lD rfl _)
  .exact wU n hok.2.2 U t ht
def cK(t l:Wd):Wd:=(if l≠[]/\t≠[]then t++[32]else t)++l
def gk(ws:List Wd):Wd:=ws.foldl cK []
def cI(w:Wd):Wd:=gk (ar (w.drop 1))
def jb:List Wd->Wd
 | []=>[]
 | w::r=>w++match r with
  | []=>[]
  | _::_=>32::jb r
theorem pI:∀s:List UInt8,jb (bV s)=s
 | []=>rfl
 | c::r=>by
  have ih:=pI r;by_cases B:c=32
  .subst B;rw[ou];cases A:bV r with
   | nil=>exact absurd A (kN r)
   | cons w ws=>
    rw[A]at ih;simp[jb,<-ih]
  .cases A:bV r with
   | nil=>exact absurd A (kN r)
   | cons w ws=>
    rw[ow B A];rw[A]at ih;rw[<-ih];simp[jb]
theorem FV:∀(ws:List Wd)(t:Wd),(∀w∈ws,w≠[])->t≠[]->ws.foldl cK t=t++(match ws with|[]=>[]|_::_=>32::jb ws)
 | [],t,_,_=>by simp
 | w::r,t,h,ht=>by
  have A:=h w (by simp);have e:cK t w=t++32::w:=by simp[cK,A,ht]
  rw[Ï,e,FV r _ (λx B=>h x (by simp[B])) (by simp)];cases r with
  | nil=>simp[jb]
  | cons u r=>simp[jb]
theorem Iy{ws}(h:∀w∈ws,w≠[]):gk ws=jb ws:=by
 cases ws with
 | nil=>rfl
 | cons w r=>
  have A:=h w (by simp);have e:cK [] w=w:=by simp[cK]
  rw[gk,Ï,e,FV r w (λx B=>h x (by simp[B])) A];cases r<;>simp[jb]
theorem Sm(ws):gk ([]::ws)=gk ws:=by
 have e:cK [] []=[]:=by simp[cK]
 rw[gk,Ï,e];rfl
theorem qQ{tx}(h:cX tx=0):(ar (ae tx)).length<=60/\∀w∈ar (ae tx),w≠[]/\(ſ w)<=20/\∀b∈w,gE b=true:=by
 obtain⟨B,C⟩:=Jg h;refine⟨by simpa using B,λw E=>?_⟩;have A:=C (ab w) (List.mem_map.2 ⟨w,E,rfl⟩);have D:(ab w).size=ſ w:=by rw[<-aw];rfl
 simp only[dY,Á,decide_eq_true_eq,È,D]at A;refine⟨λe=>?_,A.1.2,A.2⟩;rw[e]at A;simp at A
def i8(tx:ByteArray):Wd:=if tx.size=0 then [35]else [35,32]++ae tx
theorem qC{tx}:tx.size=0↔ae tx=[]:=by
 rw[<-aw];exact List.length_eq_zero_iff
theorem NM{tx}(h:cX tx=0):cI (i8 tx)=ae tx:=by
 obtain⟨_,E⟩:=qQ h;unfold i8 cI;by_cases A:tx.size=0
 .rw[if_pos A,qC.1 A];rfl
 .rw[if_neg A];have B:ae tx≠[]:=λe=>A (qC.2 e)
  have C:([35,32]++ae tx).drop 1=32::ae tx:=rfl;have D:ar (ae tx)=bV (ae tx):=by rw[ar,if_neg B]
  rw[C,ar,if_neg (by simp),ou,Sm,Iy (λw G=>(E w (by rw[D];exact G)).1),pI]
theorem uU{p:UInt8->Bool}(A:p 32=Æ):∀a:List Wd,(∀w∈a,∀b∈w,p b=Æ)->∀b∈jb a,p b=Æ
 | [],_,b,hb=>by cases hb
 | [w],h,b,hb=>by
  have e:jb [w]=w:=by simp[jb]
  rw[e]at hb;exact h w (by simp) b hb
 | w::u::r,h,b,hb=>by
  have e:jb (w::u::r)=w++32::jb (u::r):=by simp[jb]
  rw[e]at hb;rcases List.mem_append.1 hb with hb|hb
  .exact h w (by simp) b hb
  .rcases Ê.1 hb with rfl|hb
   .exact A
   .exact uU A (u::r) (λx B=>h x (by simp[B])) b hb
theorem vN:∀(ws:List Wd),ws≠[]->(∀w∈ws,w≠[])->∃v c,jb ws=v++[c]/\∃w∈ws,c∈w
 | [],h,_=>absurd rfl h
 | [w],_,h=>by
  have B:=h w (by simp);rcases Ð w with e|⟨v,c,e⟩
  .exact absurd e B
  .exact⟨v,c,by rw[jb,e];simp,w,by simp,by rw[e];simp⟩
 | w::u::r,_,h=>by
  obtain⟨v,c,e,x,C,A⟩:=vN (u::r) (by simp) λy D=>h y (by simp[D])
  exact⟨w++32::v,c,by rw[jb];simp[e],x,by simp[C],A⟩
theorem UY{tx}(h:cX tx=0):dR (i8 tx):=by
 obtain⟨_,H⟩:=qQ h;unfold i8;by_cases I:tx.size=0
 .rw[if_pos I];exact⟨35,[],rfl,rfl,rfl,rfl,rfl⟩
 .rw[if_neg I];have J:ae tx≠[]:=λe=>I (qC.2 e)
  have M:ar (ae tx)=bV (ae tx):=by rw[ar,if_neg J]
  rw[M]at H;have L:=pI (ae tx)
  have D:∀b∈ae tx,dW b=Æ/\bO b=true:=by
   intro b B;rw[<-L]at B
   have:=uU (p:=λb=>dW b&&bO b) rfl (bV (ae tx)) (λw G b B=>by
    have K:=(H w G).2.2 b B;simp only[gE,Á,decide_eq_true_eq]at K;simp only[dW,bO,Á,decide_eq_true_eq,bne_iff_ne,ne_eq];refine⟨by omega,?_⟩;rintro rfl
    simp at K) b B
   simpa using this
  have E:(32::ae tx).takeWhile bO=32::ae tx:=by
   have:=rI (p:=bO) (32::ae tx) [] (λx A=>by
    rcases Ê.1 A with rfl|A
    .rfl
    .exact(D x A).2) (λb B=>by cases B)
   rw[Î]at this;exact this
  refine⟨35,32::ae tx,rfl,rfl,?_,?_,?_⟩
  .simp only[bX];rw[E];simp only[aI,ay];show List.all _ _=Æ;rw[È];intro x A;rcases Ê.1 A with rfl|A
   .rfl
   .exact(D x A).1
  .simp only[aV];rw[E];rfl
  .obtain⟨v,c,e,w,G,O⟩:=vN (bV (ae tx)) (kN _) (λw G=>(H w G).1);rw[L]at e
   have C:c≠32:=by
    rintro rfl
    have:=(H w G).2.2 32 O
    revert this;decide
   have N:(35::32::ae tx)=(35::32::v)++[c]:=by rw[e];rfl
   rw[N];exact jA _ C
inductive Rp where
 | ok (ps:List (List Td)):Rp
 | bad (rest:List Wd):Rp
abbrev dH:Wd:=[108,101,116]
def gL(t:Wd):Td:=⟨9,ab t,0⟩
def iT(w:Wd):Td:=⟨7,ab w,0⟩
def du:Td:=⟨8,⟨#[]⟩,0⟩
def iF(acc:List (List Td)):Wd:=match acc.getLast? with
 | some (x::_)=>ae x.tx
 | _=>[]
def gg(pv:Bool)(acc:List (List Td))(t:Wd):List (List Td):=if pv then acc.dropLast++[[gL (cK (iF acc) t)]]else acc++[[gL t]]
inductive PG:Bool->List (List Td)->List Wd->Rp->Prop where
 | done {pv acc}:PG pv acc [] (.ok acc)
 | note {pv acc w ts r}:w.headD 0=35->PG Æ (gg pv acc (cI w)) ts r->PG pv acc (w::ts) r
 | letN {pv acc ts}:(∀w,ts.head?=Ä w->bb w=Ì)->PG pv acc (dH::ts) (.bad ts)
 | letE {pv acc nm ts}:bb nm=Æ->ts.head?≠Ä [61]->PG pv acc (dH::nm::ts) (.bad ts)
 | letB {pv acc nm ts u}:bb nm=Æ->PR (.level 0) ts (.bad u)->PG pv acc (dH::nm::[61]::ts) (.bad u)
 | letX {pv acc nm ts m ns u}:bb nm=Æ->PR (.level 0) ts (.ok m ns u)->u.head?≠Ä [59]->PG pv acc (dH::nm::[61]::ts) (.bad u)
 | letO {pv acc nm ts m ns u r}:bb nm=Æ->PR (.level 0) ts (.ok m ns ([59]::u))->PG Ì (acc++[iT nm::ns]) u r->PG pv acc (dH::nm::[61]::ts) r
 | doB {pv acc w ts u}:w.headD 0≠35->w≠dH->PR (.level 0) (w::ts) (.bad u)->PG pv acc (w::ts) (.bad u)
 | doX {pv acc w ts m ns u}:w.headD 0≠35->w≠dH->PR (.level 0) (w::ts) (.ok m ns u)->u.head?≠Ä [59]->PG pv acc (w::ts) (.bad u)
 | doO {pv acc w ts m ns u r}:w.headD 0≠35->w≠dH->PR (.level 0) (w::ts) (.ok m ns ([59]::u))->PG Ì (acc++[du::ns]) u r->PG pv acc (w::ts) r
theorem j4:dH.headD 0≠35:=by decide
theorem j6{D B E r}(h:PG D B E r):∀{C:Rp},PG D B E C->r=C:=by
 induction h with
 | done=>intro C A;cases A;rfl
 | note h0 _ ih=>intro C A;cases A with
  | note _ h2=>exact ih h2
  | letN=>exact absurd h0 j4
  | letE=>exact absurd h0 j4
  | letB=>exact absurd h0 j4
  | letX=>exact absurd h0 j4
  | letO=>exact absurd h0 j4
  | doB h2=>exact absurd h0 h2
  | doX h2=>exact absurd h0 h2
  | doO h2=>exact absurd h0 h2
 | letN h0=>intro C A;cases A with
  | note h2=>exact absurd h2 j4
  | letN=>rfl
  | letE h2=>rw[h0 _ rfl]at h2;cases h2
  | letB h2=>rw[h0 _ rfl]at h2;cases h2
  | letX h2=>rw[h0 _ rfl]at h2;cases h2
  | letO h2=>rw[h0 _ rfl]at h2;cases h2
  | doB _ h2=>exact absurd rfl h2
  | doX _ h2=>exact absurd rfl h2
  | doO _ h2=>exact absurd rfl h2
 | letE h0 h1=>intro C A;cases A with
  | note h2=>exact absurd h2 j4
  | letN h2=>rw[h2 _ rfl]at h0;cases h0
  | letE=>rfl
  | letB=>simp at h1
  | letX=>simp at h1
  | letO=>simp at h1
  | doB _ h2=>exact absurd rfl h2
  | doX _ h2=>exact absurd rfl h2
  | doO _ h2=>exact absurd rfl h2
 | letB h0 h1=>intro C A;cases A with
  | note h2=>exact absurd h2 j4
  | letN h2=>rw[h2 _ rfl]at h0;cases h0
  | letE _ h2=>simp at h2
  | letB _ h2=>cases fL h1 h2;rfl
  | letX _ h2=>cases fL h1 h2
  | letO _ h2=>cases fL h1 h2
  | doB _ h2=>exact absurd rfl h2
  | doX _ h2=>exact absurd rfl h2
  | doO _ h2=>exact absurd rfl h2
 | letX h0 h1 h3=>intro C A;cases A with
  | note h2=>exact absurd h2 j4
  | letN h2=>rw[h2 _ rfl]at h0;cases h0
  | letE _ h2=>simp at h2
  | letB _ h2=>cases fL h1 h2
  | letX _ h2 _=>cases fL h1 h2;rfl
  | letO _ h2 _=>cases fL h1 h2;simp at h3
  | doB _ h2=>exact absurd rfl h2
  | doX _ h2=>exact absurd rfl h2
  | doO _ h2=>exact absurd rfl h2
 | letO h0 h1 _ ih=>intro C A;cases A with
  | note h2=>exact absurd h2 j4
  | letN h2=>rw[h2 _ rfl]at h0;cases h0
  | letE _ h2=>simp at h2
  | letB _ h2=>cases fL h1 h2
  | letX _ h2 h4=>cases fL h1 h2;simp at h4
  | letO _ h2 h4=>cases fL h1 h2;exact ih h4
  | doB _ h2=>exact absurd rfl h2
  | doX _ h2=>exact absurd rfl h2
  | doO _ h2=>exact absurd rfl h2
 | doB h0 h1 h3=>intro C A;cases A with
  | note h2=>exact absurd h2 h0
  | letN=>exact absurd rfl h1
  | letE=>exact absurd rfl h1
  | letB=>exact absurd rfl h1
  | letX=>exact absurd rfl h1
  | letO=>exact absurd rfl h1
  | doB _ _ h2=>cases fL h3 h2;rfl
  | doX _ _ h2=>cases fL h3 h2
  | doO _ _ h2=>cases fL h3 h2
 | doX h0 h1 h3 h4=>intro C A;cases A with
  | note h2=>exact absurd h2 h0
  | letN=>exact absurd rfl h1
  | letE=>exact absurd rfl h1
  | letB=>exact absurd rfl h1
  | letX=>exact absurd rfl h1
  | letO=>exact absurd rfl h1
  | doB _ _ h2=>cases fL h3 h2
  | doX _ _ h2 _=>cases fL h3 h2;rfl
  | doO _ _ h2 _=>cases fL h3 h2;simp at h4
 | doO h0 h1 h3 _ ih=>intro C A;cases A with
  | note h2=>exact absurd h2 h0
  | letN=>exact absurd rfl h1
  | letE=>exact absurd rfl h1
  | letB=>exact absurd rfl h1
  | letX=>exact absurd rfl h1
  | letO=>exact absurd rfl h1
  | doB _ _ h2=>cases fL h3 h2
  | doX _ _ h2 h4=>cases fL h3 h2;simp at h4
  | doO _ _ h2 h4=>cases fL h3 h2;exact ih h4
def bP(w:World)(a:Option Addr)(ps:List (List Td)):Prop:=
 ∀i(h:i<ſ ps),∃b o a' c',a=Ä ⟨b,o,none⟩/\b<w.heap.size/\w.cell? ⟨b,o+i,none⟩=Ä (.slice a' ps[i].length c')/\ps[i].length<=c'/\aG w a' ps[i]
theorem bP.W{w w' a ps}(h:bP w a ps)(I:Below w w w'):bP w' a ps:=by
 intro i H;obtain⟨b,o,B,C,e,A,D,E,G⟩:=h i H
 have:=I.size
 exact⟨b,o,B,C,e,by omega,((a9 I).1 _ _ A).trans D,E,G.W I⟩
theorem bP.nil(w a):bP w a []:=λi hi=>by simp at hi
