/- Texts as one: SynP, SynR, SynT, SynL, SynS, DocP, FlatP. -/
import Derived.Test.YthjapabokcajhaaGreatDoorPi00
open Go.Proofs.Tryz
namespace Go.Proofs.YthjapabokcajhaaGreatDoor
open Go
inductive Fo where
 | nil:Fo
 | cons (x:Td) (k n:Fo):Fo
def Fo.len:Fo->Nat
 | .nil=>0
 | .cons _ _ n=>n.len+1
def Fo.nodes:Fo->List Td
 | .nil=>[]
 | .cons x k n=>x::(k.nodes++n.nodes)
def Fo.ok:Fo->Prop
 | .nil=>True
 | .cons x k n=>k.len=kdT x/\k.ok/\n.ok
def Fo.app:Fo->Fo->Fo
 | .nil,g=>g
 | .cons x k n,g=>.cons x k (n.app g)
theorem v9u:∀(l:Nat)(ds:List Td)(m k:Nat),ds.length<=l->z6d ds m=some k->∃F:Fo,F.ok/\F.len=m/\F.nodes=ds.take k
 | l,ds,0,k,_,h=>by
  rw[q7q]at h;cases h;exact⟨.nil,trivial,rfl,by simp[Fo.nodes]⟩
 | 0,ds,m+1,k,hl,h=>by
  have:ds=[]:=List.eq_nil_of_length_eq_zero (by omega)
  subst this;rw[q8k]at h;cases h
 | l+1,[],m+1,k,hl,h=>by rw[q8k]at h;cases h
 | l+1,x::r,m+1,k,hl,h=>by
  rw[q4y,Option.map_eq_some_iff]at h;obtain⟨j,h1,rfl⟩:=h;rw[z8c]at h1;cases h2:z6d r (kdT x)with
  | none=>rw[h2]at h1;cases h1
  | some a=>
   rw[h2,Option.bind_some,Option.map_eq_some_iff]at h1;obtain⟨b,h3,rfl⟩:=h1;obtain⟨K,k1,k2,k3⟩:=v9u l r (kdT x) a (by simp at hl;omega) h2;obtain⟨N,n1,n2,n3⟩:=v9u l (r.drop a) m b (by simp at hl⊢;omega) h3;refine⟨.cons x K N,⟨k2,k1,n1⟩,by simp[Fo.len,n2],?_⟩;have ha:=(k3h _ _ _ h2).2;rw[Fo.nodes,k3,n3,List.take_succ_cons,List.cons.injEq];refine⟨rfl,?_⟩;rw[List.take_add]
theorem j4d:∀(F:Fo),F.ok->∀(r:List Td)(m:Nat),z6d (F.nodes++r) (F.len+m)=(z6d r m).map (F.nodes.length+·)
 | .nil,_,r,m=>by simp[Fo.nodes,Fo.len]
 | .cons x k n,h,r,m=>by
  have e1:=j4d n h.2.2 r m;have e2:=j4d k h.2.1 (n.nodes++r) (n.len+m);rw[e1,h.1]at e2;have e3:(Fo.cons x k n).len+m=(n.len+m)+1:=by simp only[Fo.len];omega
  rw[e3,Fo.nodes,List.cons_append,q4y,List.append_assoc,e2];cases z6d r m with
  | none=>rfl
  | some j=>simp;omega
abbrev Wd:=List UInt8
def q7l(n:Nat):Wd:=if h:n<=9 then [UInt8.ofNat (48+n)]else q7l (n / 10)++[UInt8.ofNat (48+n % 10)]
termination_by n
decreasing_by omega
def z9b(w:Wd):Nat:=w.foldl (fun a c=>a*10+(c.toNat-48)) 0
theorem v9l{n:Nat}(h:n<=9):(UInt8.ofNat (48+n)).toNat=48+n:=by
 rw[UInt8.toNat_ofNat'];omega
theorem v1t(n:Nat):∀c∈q7l n,q1z c=true:=by
 induction n using Nat.strongRecOn with
 | ind n ih=>
  have hd:∀k,k<=9->q1z (UInt8.ofNat (48+k))=true:=fun k hk=>by
   simp only[q1z,v9l hk];simp;omega
  rw[q7l]
  split
  ·rename_i h;intro c hc;rw[List.mem_singleton]at hc;rw[hc];exact hd n h
  ·rename_i h;intro c hc;rcases List.mem_append.1 hc with hc|hc
   ·exact ih (n / 10) (by omega) c hc
   ·rw[List.mem_singleton]at hc;rw[hc];exact hd _ (by omega)
theorem v9j(n:Nat):q7l n≠[]:=by
 rw[q7l]
 split<;>simp
theorem z3a:∀(k n:Nat),n<10 ^ (k+1)->(q7l n).length<=k+1
 | k,n,h=>by
  rw[q7l]
  split
  ·simp
  ·rename_i h9;cases k with
   | zero=>simp at h;omega
   | succ k=>
    have:=z3a k (n / 10) (by rw[Nat.pow_succ]at h;omega)
    simp only[List.length_append,List.length_cons,List.length_nil];omega
structure Tn where
 x:Td
 ns:List Td
 tk:List Wd
 tx:List UInt8
def prc(x:Td):Nat:=if x.op=5 then 0 else if x.op=6 then 1 else 2
def brk(l:Nat)(t:Tn):List Wd:=if prc t.x<l then [40]::(t.tk++[[41]])else t.tk
def brx(l:Nat)(t:Tn):List UInt8:=if prc t.x<l then 40::(t.tx++[41])else t.tx
def cmk:List Tn->List Wd
 | []=>[]
 | t::r=>t.tk++match r with
  | []=>[]
  | _::_=>[44]::cmk r
def cmx:List Tn->List UInt8
 | []=>[]
 | t::r=>t.tx++match r with
  | []=>[]
  | _::_=>44::32::cmx r
def two2{α:Type}(f:Tn->Tn->List α):List Tn->List α
 | [a,b]=>f a b
 | _=>[]
def k2v(x:Td)(ks:List Tn):List Wd:=
 if x.op=1 then [q7l x.n.toNat]
 else if x.op=2 then [btL x.tx]
 else if x.op=3 then btL x.tx::[40]::(cmk ks++[[41]])
 else if x.op=4 then [91]::(cmk ks++[[93]])
 else if x.op=5 then two2 (fun a b=>brk 0 a++[43]::brk 1 b) ks
 else two2 (fun a b=>brk 1 a++[42]::brk 2 b) ks
def k7v(x:Td)(ks:List Tn):List UInt8:=
 if x.op=1 then q7l x.n.toNat
 else if x.op=2 then btL x.tx
 else if x.op=3 then btL x.tx++40::(cmx ks++[41])
 else if x.op=4 then 91::(cmx ks++[93])
 else if x.op=5 then two2 (fun a b=>brx 0 a++32::43::32::brx 1 b) ks
 else two2 (fun a b=>brx 1 a++32::42::32::brx 2 b) ks
def y1d(x:Td)(ks:List Tn):Tn:=⟨x,x::ks.flatMap (·.ns),k2v x ks,k7v x ks⟩
def Fo.trs:Fo->List Tn
 | .nil=>[]
 | .cons x k n=>y1d x k.trs::n.trs
def exN(x:Td):Prop:=q0t x=0/\x.op<7
def Fo.exs(F:Fo):Prop:=∀x∈F.nodes,exN x
theorem q5a{x:Td}(h:exN x):(x.op=1/\x.tx=⟨#[]⟩/\0<=x.n/\x.n<=999999/\kdT x=0)\/(x.op=2/\q0o x.tx=true/\x.n=0/\kdT x=0)
  \/(x.op=3/\q0o x.tx=true/\0<=x.n/\x.n<=6/\kdT x=x.n.toNat)\/(x.op=4/\x.tx=⟨#[]⟩/\0<=x.n/\x.n<=6/\kdT x=x.n.toNat)
  \/(x.op=5/\x.tx=⟨#[]⟩/\x.n=0/\kdT x=2)\/(x.op=6/\x.tx=⟨#[]⟩/\x.n=0/\kdT x=2):=by
 obtain⟨h0,h7⟩:=h
 have hem:∀s:ByteArray,¬0<s.size->s=⟨#[]⟩:=fun s hs=>by
  apply ByteArray.ext;apply Array.toList_inj.1;exact List.eq_nil_of_length_eq_zero (by have:=q0c s;simp only[btL]at this;omega)
 unfold q0t at h0
 split at h0
 ·cases h0
 ·rename_i h1
  split at h0
  ·cases h0
  ·rename_i h2
   split at h0
   ·cases h0
   ·rename_i h3;have h9:¬x.op=9:=by omega
    rw[if_neg h9]at h0
    split at h0
    ·cases h0
    ·rename_i h4;have ho:x.op=1\/x.op=2\/x.op=3\/x.op=4\/x.op=5\/x.op=6:=by omega
     rcases ho with e|e|e|e|e|e
     ·refine .inl ⟨e,hem _ (fun hh=>h3 (.inr ⟨by rw[e];rfl,hh⟩)),by omega,by omega,by unfold kdT;rw[e];rfl⟩
     ·refine .inr (.inl ⟨e,?_,by omega,by unfold kdT;rw[e];rfl⟩);cases hn:q0o x.tx with
      | true=>rfl
      | false=>exact absurd ⟨by rw[e];rfl,hn⟩ h4
     ·refine .inr (.inr (.inl ⟨e,?_,by omega,by omega,by unfold kdT;rw[if_pos (.inl e)]⟩));cases hn:q0o x.tx with
      | true=>rfl
      | false=>exact absurd ⟨by rw[e];rfl,hn⟩ h4
     ·exact .inr (.inr (.inr (.inl ⟨e,hem _ (fun hh=>h3 (.inr ⟨by rw[e];rfl,hh⟩)),by omega,by omega,by unfold kdT;rw[if_pos (.inr e)]⟩)))
     ·exact .inr (.inr (.inr (.inr (.inl ⟨e,hem _ (fun hh=>h3 (.inr ⟨by rw[e];rfl,hh⟩)),by omega,by unfold kdT;rw[e];rfl⟩))))
     ·exact .inr (.inr (.inr (.inr (.inr ⟨e,hem _ (fun hh=>h3 (.inr ⟨by rw[e];rfl,hh⟩)),by omega,by unfold kdT;rw[e];rfl⟩))))
inductive Job where
 | level (k:Nat):Job
 | loop (k:Nat) (acc:List Td):Job
 | single:Job
 | args (e:Wd) (n:Nat) (acc:List Td):Job
inductive Rs where
 | ok (n:Nat) (ns:List Td) (rest:List Wd):Rs
 | bad (rest:List Wd):Rs
def sgn(k:Nat):Wd:=if k=0 then [43]else [42]
def sgT(k:Nat):Td:=⟨5+k,⟨#[]⟩,0⟩
def z0k(w:Wd):Bool:=q1z (w.headD 0)
def nmW(w:Wd):Bool:=q0o (wbS w)
def y4j(w:Wd):Td:=⟨1,⟨#[]⟩,(z9b w:Nat)⟩
def nmT(w:Wd):Td:=⟨2,wbS w,0⟩
def clT(w:Wd)(n:Nat):Td:=⟨3,wbS w,(n:Nat)⟩
def lsT(n:Nat):Td:=⟨4,⟨#[]⟩,(n:Nat)⟩
inductive PR:Job->List Wd->Rs->Prop where
 | lev2 {ts r}:PR .single ts r->PR (.level 2) ts r
 | levB {k ts u}:k<2->PR (.level (k+1)) ts (.bad u)->PR (.level k) ts (.bad u)
 | levO {k ts m ns u r}:k<2->PR (.level (k+1)) ts (.ok m ns u)->PR (.loop k ns) u r->PR (.level k) ts r
 | lopE {k acc ts}:ts.head?≠some (sgn k)->PR (.loop k acc) ts (.ok 0 acc ts)
 | lopB {k acc ts u}:PR (.level (k+1)) ts (.bad u)->PR (.loop k acc) (sgn k::ts) (.bad u)
 | lopO {k acc ts m ns u r}:PR (.level (k+1)) ts (.ok m ns u)->PR (.loop k (sgT k::(acc++ns))) u r->PR (.loop k acc) (sgn k::ts) r
 | sinN:PR .single [] (.bad [])
 | sPB {ts u}:PR (.level 0) ts (.bad u)->PR .single ([40]::ts) (.bad u)
 | sPC {ts m ns u}:PR (.level 0) ts (.ok m ns ([41]::u))->PR .single ([40]::ts) (.ok 0 ns u)
 | sPX {ts m ns u}:PR (.level 0) ts (.ok m ns u)->u.head?≠some [41]->PR .single ([40]::ts) (.bad u)
 | sLB {ts u}:PR (.args [93] 0 []) ts (.bad u)->PR .single ([91]::ts) (.bad u)
 | sLO {ts n ns u}:PR (.args [93] 0 []) ts (.ok n ns u)->PR .single ([91]::ts) (.ok 0 (lsT n::ns) u)
 | sNum {w ts}:z0k w=true->PR .single (w::ts) (.ok 0 [y4j w] ts)
 | sName {w ts}:nmW w=true->ts.head?≠some [40]->PR .single (w::ts) (.ok 0 [nmT w] ts)
 | sCB {w ts u}:nmW w=true->PR (.args [41] 0 []) ts (.bad u)->PR .single (w::[40]::ts) (.bad u)
 | sCO {w ts n ns u}:nmW w=true->PR (.args [41] 0 []) ts (.ok n ns u)->PR .single (w::[40]::ts) (.ok 0 (clT w n::ns) u)
 | sBad {w ts}:w≠[40]->w≠[91]->z0k w=false->nmW w=false->PR .single (w::ts) (.bad (w::ts))
 | aEnd {e n acc ts}:PR (.args e n acc) (e::ts) (.ok n acc ts)
 | aSep {e n acc ts}:ts.head?≠some e->ts.head?≠some [44]->PR (.args e (n+1) acc) ts (.bad ts)
 | aB0 {e acc ts u}:ts.head?≠some e->PR (.level 0) ts (.bad u)->PR (.args e 0 acc) ts (.bad u)
 | aO0 {e acc ts m ns u r}:ts.head?≠some e->PR (.level 0) ts (.ok m ns u)->PR (.args e 1 (acc++ns)) u r->PR (.args e 0 acc) ts r
 | aB {e n acc ts u}:e≠[44]->PR (.level 0) ts (.bad u)->PR (.args e (n+1) acc) ([44]::ts) (.bad u)
 | aO {e n acc ts m ns u r}:e≠[44]->PR (.level 0) ts (.ok m ns u)->PR (.args e (n+2) (acc++ns)) u r->PR (.args e (n+1) acc) ([44]::ts) r
theorem q3d{w:Wd}(h:z0k w=true):nmW w=false:=by
 cases hn:nmW w with
 | false=>rfl
 | true=>
  exfalso;unfold nmW q0o at hn;simp only[Bool.and_eq_true,List.all_eq_true,decide_eq_true_eq]at hn;cases w with
  | nil=>simp[wbS,ByteArray.size]at hn
  | cons c z=>
   have h1:=hn.2 c (by show c∈(c::z);simp);have h2:q1z c=true:=h
   have:=k3p h2
   rw[h1]at this;cases this
theorem v7n:z0k [40]=false:=by decide
theorem v7o:z0k [91]=false:=by decide
theorem k4a:nmW [40]=false:=by decide
theorem k4b:nmW [91]=false:=by decide
theorem q3e{j:Job}{ts:List Wd}{r:Rs}(h:PR j ts r):∀{r':Rs},PR j ts r'->r=r':=by
 have n40:=v7n;have n91:=v7o;have a40:=k4a;have a91:=k4b
 induction h with
 | lev2 _ ih=>intro r' h';cases h' with
  | lev2 h2=>exact ih h2
  | levB h0=>omega
  | levO h0=>omega
 | levB h0 _ ih=>intro r' h';cases h' with
  | lev2 h2=>omega
  | levB _ h2=>exact ih h2
  | levO _ h2 _=>cases ih h2
 | levO h0 _ _ ih1 ih2=>intro r' h';cases h' with
  | lev2 h2=>omega
  | levB _ h2=>cases ih1 h2
  | levO _ h2 h3=>cases ih1 h2;exact ih2 h3
 | lopE h0=>intro r' h';cases h' with
  | lopE _=>rfl
  | lopB _=>simp at h0
  | lopO _ _=>simp at h0
 | lopB _ ih=>intro r' h';cases h' with
  | lopE h0=>simp at h0
  | lopB h2=>exact ih h2
  | lopO h2 _=>cases ih h2
 | lopO _ _ ih1 ih2=>intro r' h';cases h' with
  | lopE h0=>simp at h0
  | lopB h2=>cases ih1 h2
  | lopO h2 h3=>cases ih1 h2;exact ih2 h3
 | sinN=>intro r' h';cases h';rfl
 | sPB _ ih=>intro r' h';cases h' with
  | sPB h2=>exact ih h2
  | sPC h2=>cases ih h2
  | sPX h2 _=>cases ih h2
  | sNum h2=>rw[n40]at h2;cases h2
  | sName h2 _=>rw[a40]at h2;cases h2
  | sCB h2 _=>rw[a40]at h2;cases h2
  | sCO h2 _=>rw[a40]at h2;cases h2
  | sBad h2=>exact absurd rfl h2
 | sPC _ ih=>intro r' h';cases h' with
  | sPB h2=>cases ih h2
  | sPC h2=>cases ih h2;rfl
  | sPX h2 h3=>cases ih h2;simp at h3
  | sNum h2=>rw[n40]at h2;cases h2
  | sName h2 _=>rw[a40]at h2;cases h2
  | sCB h2 _=>rw[a40]at h2;cases h2
  | sCO h2 _=>rw[a40]at h2;cases h2
  | sBad h2=>exact absurd rfl h2
 | sPX _ h0 ih=>intro r' h';cases h' with
  | sPB h2=>cases ih h2
  | sPC h2=>cases ih h2;simp at h0
  | sPX h2 h3=>cases ih h2;rfl
  | sNum h2=>rw[n40]at h2;cases h2
  | sName h2 _=>rw[a40]at h2;cases h2
  | sCB h2 _=>rw[a40]at h2;cases h2
  | sCO h2 _=>rw[a40]at h2;cases h2
  | sBad h2=>exact absurd rfl h2
 | sLB _ ih=>intro r' h';cases h' with
  | sLB h2=>exact ih h2
  | sLO h2=>cases ih h2
  | sNum h2=>rw[n91]at h2;cases h2
  | sName h2 _=>rw[a91]at h2;cases h2
  | sCB h2 _=>rw[a91]at h2;cases h2
  | sCO h2 _=>rw[a91]at h2;cases h2
  | sBad _ h2=>exact absurd rfl h2
 | sLO _ ih=>intro r' h';cases h' with
  | sLB h2=>cases ih h2
  | sLO h2=>cases ih h2;rfl
  | sNum h2=>rw[n91]at h2;cases h2
  | sName h2 _=>rw[a91]at h2;cases h2
  | sCB h2 _=>rw[a91]at h2;cases h2
  | sCO h2 _=>rw[a91]at h2;cases h2
  | sBad _ h2=>exact absurd rfl h2
 | sNum h0=>
  have hn:=q3d h0;intro r' h';cases h' with
  | sPB h2=>rw[n40]at h0;cases h0
  | sPC h2=>rw[n40]at h0;cases h0
  | sPX h2 h3=>rw[n40]at h0;cases h0
  | sLB h2=>rw[n91]at h0;cases h0
  | sLO h2=>rw[n91]at h0;cases h0
  | sNum h2=>rfl
  | sName h2 _=>rw[hn]at h2;cases h2
  | sCB h2 _=>rw[hn]at h2;cases h2
  | sCO h2 _=>rw[hn]at h2;cases h2
  | sBad _ _ h2=>rw[h0]at h2;cases h2
 | sName h0 h1=>
  intro r' h';cases h' with
  | sPB h2=>rw[a40]at h0;cases h0
  | sPC h2=>rw[a40]at h0;cases h0
  | sPX h2 h3=>rw[a40]at h0;cases h0
  | sLB h2=>rw[a91]at h0;cases h0
  | sLO h2=>rw[a91]at h0;cases h0
  | sNum h2=>rw[q3d h2]at h0;cases h0
  | sName h2 _=>rfl
  | sCB h2 _=>simp at h1
  | sCO h2 _=>simp at h1
  | sBad _ _ _ h2=>rw[h0]at h2;cases h2
 | sCB h0 _ ih=>
  intro r' h';cases h' with
  | sPB h2=>rw[a40]at h0;cases h0
  | sPC h2=>rw[a40]at h0;cases h0
  | sPX h2 h3=>rw[a40]at h0;cases h0
  | sLB h2=>rw[a91]at h0;cases h0
  | sLO h2=>rw[a91]at h0;cases h0
  | sNum h2=>rw[q3d h2]at h0;cases h0
  | sName _ h2=>simp at h2
  | sCB _ h2=>exact ih h2
  | sCO _ h2=>cases ih h2
  | sBad _ _ _ h2=>rw[h0]at h2;cases h2
 | sCO h0 _ ih=>
  intro r' h';cases h' with
  | sPB h2=>rw[a40]at h0;cases h0
  | sPC h2=>rw[a40]at h0;cases h0
  | sPX h2 h3=>rw[a40]at h0;cases h0
  | sLB h2=>rw[a91]at h0;cases h0
  | sLO h2=>rw[a91]at h0;cases h0
  | sNum h2=>rw[q3d h2]at h0;cases h0
  | sName _ h2=>simp at h2
  | sCB _ h2=>cases ih h2
  | sCO _ h2=>cases ih h2;rfl
  | sBad _ _ _ h2=>rw[h0]at h2;cases h2
 | sBad h0 h1 h3 h4=>
  intro r' h';cases h' with
  | sPB h2=>exact absurd rfl h0
  | sPC h2=>exact absurd rfl h0
  | sPX h2 _=>exact absurd rfl h0
  | sLB h2=>exact absurd rfl h1
  | sLO h2=>exact absurd rfl h1
  | sNum h2=>rw[h3]at h2;cases h2
  | sName h2 _=>rw[h4]at h2;cases h2
  | sCB h2 _=>rw[h4]at h2;cases h2
  | sCO h2 _=>rw[h4]at h2;cases h2
  | sBad _ _ _ h2=>rfl
 | aEnd=>
  intro r' h';cases h' with
  | aEnd=>rfl
  | aSep h2 _=>simp at h2
  | aB0 h2 _=>simp at h2
  | aO0 h2 _ _=>simp at h2
  | aB h2 _=>exact absurd rfl h2
  | aO h2 _ _=>exact absurd rfl h2
 | aSep h0 h1=>
  intro r' h';cases h' with
  | aEnd=>simp at h0
  | aSep h2 _=>rfl
  | aB h2 _=>simp at h1
  | aO h2 _ _=>simp at h1
 | aB0 h0 _ ih=>
  intro r' h';cases h' with
  | aEnd=>simp at h0
  | aB0 _ h2=>exact ih h2
  | aO0 _ h2 _=>cases ih h2
 | aO0 h0 _ _ ih1 ih2=>
  intro r' h';cases h' with
  | aEnd=>simp at h0
  | aB0 _ h2=>cases ih1 h2
  | aO0 _ h2 h3=>cases ih1 h2;exact ih2 h3
 | aB h0 _ ih=>
  intro r' h';cases h' with
  | aEnd=>exact absurd rfl h0
  | aSep _ h2=>simp at h2
  | aB _ h2=>exact ih h2
  | aO _ h2 _=>cases ih h2
 | aO h0 _ _ ih1 ih2=>
  intro r' h';cases h' with
  | aEnd=>exact absurd rfl h0
  | aSep _ h2=>simp at h2
  | aB _ h2=>cases ih1 h2
  | aO _ h2 h3=>cases ih1 h2;exact ih2 h3
def Rs.rest:Rs->List Wd
 | .ok _ _ u=>u
 | .bad u=>u
def Job.eats:Job->Nat
 | .level _=>1
 | .single=>1
 | _=>0
theorem q2q{α:Type}{u ts:List α}(w:α)(h:u <:+ ts):u <:+ w::ts:=h.trans (List.suffix_cons w ts)
theorem q5e{j:Job}{ts:List Wd}{r:Rs}(h:PR j ts r):r.rest <:+ ts/\∀m ns u,r=.ok m ns u->u.length+j.eats<=ts.length:=by
 induction h with
 | lev2 _ ih=>exact ih
 | levB _ _ ih=>exact⟨ih.1,fun _ _ _ e=>by cases e⟩
 | levO _ _ _ ih1 ih2=>
  have h1:=ih1.2 _ _ _ rfl;refine⟨ih2.1.trans ih1.1,fun m ns u e=>?_⟩;have h2:=ih2.2 _ _ _ e;simp only[Job.eats]at h1 h2⊢;omega
 | lopE _=>exact⟨List.suffix_refl _,fun _ _ _ e=>by cases e;simp[Job.eats]⟩
 | lopB _ ih=>exact⟨q2q _ ih.1,fun _ _ _ e=>by cases e⟩
 | lopO _ _ ih1 ih2=>
  have h1:=ih1.2 _ _ _ rfl;refine⟨q2q _ (ih2.1.trans ih1.1),fun m ns u e=>?_⟩;have h2:=ih2.2 _ _ _ e;simp only[Job.eats,List.length_cons]at h1 h2⊢;omega
 | sinN=>exact⟨List.suffix_refl _,fun _ _ _ e=>by cases e⟩
 | sPB _ ih=>exact⟨q2q _ ih.1,fun _ _ _ e=>by cases e⟩
 | sPC _ ih=>
  have h1:=ih.2 _ _ _ rfl;refine⟨q2q _ ((List.suffix_cons _ _).trans ih.1),fun m ns u e=>?_⟩;cases e;simp only[Job.eats,List.length_cons]at h1⊢;omega
 | sPX _ _ ih=>exact⟨q2q _ ih.1,fun _ _ _ e=>by cases e⟩
 | sLB _ ih=>exact⟨q2q _ ih.1,fun _ _ _ e=>by cases e⟩
 | sLO _ ih=>
  have h1:=ih.2 _ _ _ rfl;refine⟨q2q _ ih.1,fun m ns u e=>?_⟩;cases e;simp only[Job.eats,List.length_cons]at h1⊢;omega
 | sNum _=>exact⟨List.suffix_cons _ _,fun _ _ _ e=>by cases e;simp[Job.eats]⟩
 | sName _ _=>exact⟨List.suffix_cons _ _,fun _ _ _ e=>by cases e;simp[Job.eats]⟩
 | sCB _ _ ih=>exact⟨q2q _ (q2q _ ih.1),fun _ _ _ e=>by cases e⟩
 | sCO _ _ ih=>
  have h1:=ih.2 _ _ _ rfl;refine⟨q2q _ (q2q _ ih.1),fun m ns u e=>?_⟩;cases e;simp only[Job.eats,List.length_cons]at h1⊢;omega
 | sBad _ _ _ _=>exact⟨List.suffix_refl _,fun _ _ _ e=>by cases e⟩
 | aEnd=>exact⟨List.suffix_cons _ _,fun _ _ _ e=>by cases e;simp[Job.eats]⟩
 | aSep _ _=>exact⟨List.suffix_refl _,fun _ _ _ e=>by cases e⟩
 | aB0 _ _ ih=>exact⟨ih.1,fun _ _ _ e=>by cases e⟩
 | aO0 _ _ _ ih1 ih2=>
  have h1:=ih1.2 _ _ _ rfl;refine⟨ih2.1.trans ih1.1,fun m ns u e=>?_⟩;have h2:=ih2.2 _ _ _ e;simp only[Job.eats]at h1 h2⊢;omega
 | aB _ _ ih=>exact⟨q2q _ ih.1,fun _ _ _ e=>by cases e⟩
 | aO _ _ _ ih1 ih2=>
  have h1:=ih1.2 _ _ _ rfl;refine⟨q2q _ (ih2.1.trans ih1.1),fun m ns u e=>?_⟩;have h2:=ih2.2 _ _ _ e;simp only[Job.eats,List.length_cons]at h1 h2⊢;omega
def cmt:List Tn->List Wd
 | []=>[]
 | t::r=>[44]::cmk (t::r)
theorem v1p(t:Tn)(r:List Tn):cmk (t::r)=t.tk++cmt r:=by
 cases r with
 | nil=>simp[cmk,cmt]
 | cons u r=>simp[cmk,cmt]
theorem q3l{s:ByteArray}(h:q0o s=true):(btL s).length<=8:=by
 unfold q0o at h;simp only[Bool.and_eq_true,decide_eq_true_eq]at h;rw[q0c];exact h.1.1.2
def Fo.tk:Nat->Fo->Fo
 | 0,_=>.nil
 | _+1,.nil=>.nil
 | k+1,.cons x a n=>.cons x a (Fo.tk k n)
def Fo.dp:Nat->Fo->Fo
 | 0,f=>f
 | _+1,.nil=>.nil
 | k+1,.cons _ _ n=>Fo.dp k n
theorem k3u:∀f g:Fo,Fo.tk f.len (f.app g)=f
 | .nil,g=>by cases g<;>rfl
 | .cons x k n,g=>by simp only[Fo.len,Fo.app,Fo.tk,k3u n g]
theorem k3r:∀f g:Fo,Fo.dp f.len (f.app g)=g
 | .nil,g=>by cases g<;>rfl
 | .cons x k n,g=>by simp only[Fo.len,Fo.app,Fo.dp,k3r n g]
theorem z1s:∀f:Fo,f.app .nil=f
 | .nil=>rfl
 | .cons x k n=>by simp only[Fo.app,z1s n]
def j2a:List Td->Fo
 | []=>.nil
 | x::r=>.cons x (Fo.tk (kdT x) (j2a r)) (Fo.dp (kdT x) (j2a r))
theorem z7y:∀(F:Fo),F.ok->∀r,j2a (F.nodes++r)=F.app (j2a r)
 | .nil,_,r=>rfl
 | .cons x k n,h,r=>by
  have e1:=z7y n h.2.2 r;have e2:=z7y k h.2.1 (n.nodes++r);rw[Fo.nodes,List.cons_append,List.append_assoc,j2a,e2,e1,<-h.1,k3u,k3r];rfl
theorem k8e(F:Fo)(h:F.ok):j2a F.nodes=F:=by
 have:=z7y F h []
 rw[List.append_nil]at this;rw[this];exact z1s F
theorem z9j{ds:List Td}(h:q0b ds=0):(∃x,ds=[x]/\x.op=9/\x.n=0/\q2u x.tx=0)\/
  (∃(x:Td)(F:Fo),ds=x::F.nodes/\F.ok/\F.exs/\F.len=1/\((x.op=7/\q0o x.tx=true/\x.n=0)\/(x.op=8/\x.tx=⟨#[]⟩/\x.n=0))):=by
 obtain⟨_,hn,he,ht⟩:=q3f h;cases ds with
 | nil=>rw[q8m [] 0 0 (by simp)]at he;cases he
 | cons x r=>
  have hx:=hn x (by simp);simp only[k5b,Bool.and_eq_true,decide_eq_true_eq,List.all_eq_true]at ht;rw[q3q,List.drop_zero,q4y,Option.map_map,Option.map_eq_some_iff]at he;obtain⟨j,hj,hj2⟩:=he;simp only[Function.comp_apply,List.length_cons]at hj2;have hjl:j=r.length:=by omega
  rw[Nat.add_zero,hjl]at hj;obtain⟨F,f1,f2,f3⟩:=v9u r.length r (kdT x) r.length Zl hj;rw[List.take_length]at f3
  have hex:F.exs:=fun y hy=>by
   rw[f3]at hy;exact⟨hn y (by simp[hy]),ht.2 y hy⟩
  have hem:∀s:ByteArray,¬0<s.size->s=⟨#[]⟩:=fun s hs=>by
   apply ByteArray.ext;apply Array.toList_inj.1;exact List.eq_nil_of_length_eq_zero (by have:=q0c s;simp only[btL]at this;omega)
  unfold q0t at hx
  split at hx
  ·cases hx
  ·rename_i h1
   split at hx
   ·cases hx
   ·split at hx
    ·cases hx
    ·rename_i h3;have ho:x.op=7\/x.op=8\/x.op=9:=by omega
     rcases ho with ho|ho|ho
     ·have hk1:kdT x=1:=by unfold kdT;rw[ho];rfl
      rw[if_neg (by omega)]at hx
      split at hx
      ·cases hx
      ·rename_i h4;refine .inr ⟨x,F,by rw[f3],f1,hex,by rw[f2,hk1],.inl ⟨ho,?_,by omega⟩⟩;cases hnm:q0o x.tx with
       | true=>rfl
       | false=>exact absurd ⟨by rw[ho];rfl,hnm⟩ h4
     ·have hk1:kdT x=1:=by unfold kdT;rw[ho];rfl
      exact .inr ⟨x,F,by rw[f3],f1,hex,by rw[f2,hk1],.inr ⟨ho,hem _ (fun hh=>h3 (.inr ⟨by rw[ho];rfl,hh⟩)),by omega⟩⟩
     ·have hk0:kdT x=0:=by unfold kdT;rw[ho];rfl
      rw[if_pos ho]at hx
      have hF:F=.nil:=by
       cases F with
       | nil=>rfl
       | cons y k n=>rw[hk0]at f2;simp[Fo.len]at f2
      rw[hF]at f3;exact .inl ⟨x,by rw[<-f3];rfl,ho,by omega,hx⟩
def hdT(ks:List Tn):List UInt8:=match ks with
 | t::_=>t.tx
 | []=>[]
def hdK(ks:List Tn):List Wd:=match ks with
 | t::_=>t.tk
 | []=>[]
def stX(x:Td)(ks:List Tn):List UInt8:=
 if x.op=7 then [108,101,116,32]++btL x.tx++[32,61,32]++hdT ks++[59]else if x.op=8 then hdT ks++[59]else if x.tx.size=0 then [35]else [35,32]++btL x.tx
def stK(x:Td)(ks:List Tn):List Wd:=
 if x.op=7 then [108,101,116]::btL x.tx::[61]::(hdK ks++[[59]])else if x.op=8 then hdK ks++[[59]]else [if x.tx.size=0 then [35]else [35,32]++btL x.tx]
def v4t(ds:List Td):List UInt8:=match j2a ds with
 | .nil=>[]
 | .cons x k _=>stX x k.trs
def y2w(ds:List Td):List Wd:=match j2a ds with
 | .nil=>[]
 | .cons x k _=>stK x k.trs
theorem v7x{x:Td}{F:Fo}(h:F.ok)(hl:F.len=kdT x):j2a (x::F.nodes)=.cons x F .nil:=by
 have h1:=k3u F .nil;have h2:=k3r F .nil;rw[z1s]at h1 h2;rw[j2a,k8e F h,<-hl,h1,h2]
theorem v4u{x:Td}{F:Fo}(h:F.ok)(hl:F.len=kdT x):v4t (x::F.nodes)=stX x F.trs/\y2w (x::F.nodes)=stK x F.trs:=by
 rw[v4t,y2w,v7x h hl];exact⟨rfl,rfl⟩
end Go.Proofs.YthjapabokcajhaaGreatDoor
namespace Go.Proofs.YthjapabokcajhaaGreatDoor
structure Nd where
 op:Int
 tx:ByteArray
 n:Int
def pts(op:Int):Nat:=if op=6\/op=9 then 2 else if op=7\/op=8 then 1 else 0
theorem j8e(op:Int):pts op<=2:=by unfold pts;split<;>(try split)<;>omega
def cnt:List Nd->Nat->Option Nat
 | _,0=>some 0
 | [],_+1=>none
 | x::r,m+1=>(cnt r (pts x.op+m)).map (· + 1)
theorem q8l(ds:List Nd):cnt ds 0=some 0:=by cases ds<;>rfl
theorem z1o(m:Nat):cnt [] (m+1)=none:=rfl
theorem q4l(x:Nd)(r:List Nd)(m:Nat):cnt (x::r) (m+1)=(cnt r (pts x.op+m)).map (· + 1):=rfl
theorem j2s:∀(ds:List Nd)(m k:Nat),cnt ds m=some k->m<=k/\k<=ds.length
 | ds,0,k,h=>by rw[q8l]at h;cases h;simp
 | [],m+1,k,h=>by rw[z1o]at h;cases h
 | x::r,m+1,k,h=>by
  rw[q4l,Option.map_eq_some_iff]at h;obtain⟨j,h1,rfl⟩:=h
  have:=j2s r _ j h1
  simp;omega
theorem k3i:∀(ds:List Nd)(a b:Nat),cnt ds (a+b)=(cnt ds a).bind fun k=>(cnt (ds.drop k) b).map (k+·)
 | ds,0,b=>by
  rw[q8l];simp
 | [],a+1,b=>by rw[show a+1+b=(a+b)+1 by omega,z1o,z1o];rfl
 | x::r,a+1,b=>by
  rw[show a+1+b=(a+b)+1 by omega,q4l,q4l,show pts x.op+(a+b)=(pts x.op+a)+b by omega,k3i r _ b];cases cnt r (pts x.op+a)with
  | none=>rfl
  | some k=>
   simp only[Option.bind_some,Option.map_some,List.drop_succ_cons];cases cnt (r.drop k) b with
   | none=>rfl
   | some j=>simp;omega
theorem j2t:∀(ds:List Nd)(m k i:Nat),cnt ds m=some k->i<k->∃m',cnt (ds.drop i) (m'+1)=some (k-i)
 | ds,0,k,i,h,hi=>by rw[q8l]at h;cases h;omega
 | [],m+1,k,i,h,hi=>by rw[z1o]at h;cases h
 | x::r,m+1,k,i,h,hi=>by
  cases i with
  | zero=>exact⟨m,h⟩
  | succ i=>
   rw[q4l,Option.map_eq_some_iff]at h;obtain⟨j,h1,rfl⟩:=h;obtain⟨m',h2⟩:=j2t r _ j i h1 (by omega);exact⟨m',by rw[List.drop_succ_cons,h2];congr 1;omega⟩
def q0v(ds:List Nd)(i m:Nat):Option Nat:=(cnt (ds.drop i) m).map (i+·)
theorem z6j(ds:List Nd)(i:Nat):q0v ds i 0=some i:=by simp[q0v,q8l]
theorem k0n(ds:List Nd)(i m:Nat)(h:ds.length<=i):q0v ds i (m+1)=none:=by
 rw[q0v,List.drop_eq_nil_of_le h,z1o];rfl
theorem z6i(ds:List Nd)(i m:Nat)(h:i<ds.length):q0v ds i (m+1)=q0v ds (i+1) (pts ds[i].op+m):=by
 rw[q0v,List.drop_eq_getElem_cons h,q4l,q0v];cases cnt (ds.drop (i+1)) (pts ds[i].op+m)with
 | none=>rfl
 | some k=>simp;omega
theorem j3j(ds:List Nd)(i a b:Nat):q0v ds i (a+b)=(q0v ds i a).bind fun j=>q0v ds j b:=by
 rw[q0v,k3i,q0v];cases cnt (ds.drop i) a with
 | none=>rfl
 | some k=>
  simp only[Option.bind_some,Option.map_some,q0v,List.drop_drop];cases cnt (ds.drop (i+k)) b with
  | none=>rfl
  | some j=>simp;omega
theorem k5x{ds:List Nd}{i m j:Nat}(h:q0v ds i m=some j):i+m<=j/\(m=0\/j<=ds.length):=by
 rw[q0v,Option.map_eq_some_iff]at h;obtain⟨k,h1,rfl⟩:=h;have h2:=j2s _ _ _ h1;rw[List.length_drop]at h2;omega
theorem j3k{ds:List Nd}{i:Nat}(h:q0v ds 0 1=some ds.length)(hi:i<ds.length):∃j,q0v ds i 1=some j/\i<j/\j<=ds.length:=by
 rw[q0v,Option.map_eq_some_iff]at h;obtain⟨k,h1,h2⟩:=h;have hk:k=ds.length:=by omega
 subst hk;obtain⟨m',h3⟩:=j2t _ _ _ i h1 hi;rw[List.drop_zero,Nat.add_comm m' 1,k3i]at h3;cases h4:cnt (ds.drop i) 1 with
 | none=>rw[h4]at h3;cases h3
 | some j=>
  have h5:q0v ds i 1=some (i+j):=by rw[q0v,h4];rfl
  have h6:=k5x h5;exact⟨i+j,h5,by omega,by omega⟩
def q5x(b:UInt8):Bool:=decide (32<=b.toNat)&&decide (b.toNat<=126)
def isW(s:ByteArray):Bool:=decide (1<=s.size)&&decide (s.size<=20)&&s.data.toList.all q5x
def q1c(x:Nd):Int:=
 if x.op<1\/9<x.op then 1
 else if(x.op≠1/\x.tx.size≠0)\/(x.op≠7/\x.n≠0)then 2
 else if x.op=1/\isW x.tx=false then 5
 else if x.op=7/\(x.n<0\/8<x.n)then 1 else 0
def q8z:List Nd->Int
 | []=>0
 | x::r=>if q1c x=0 then q8z r else q1c x
def q3c(ds:List Nd):Int:=
 if 400<ds.length then 3 else if q8z ds=0 then(if q0v ds 0 1=some ds.length then 0 else 2)else q8z ds
theorem z1q:∀(ds:List Nd),(∀x∈ds,q1c x=0)->q8z ds=0
 | [],_=>rfl
 | x::r,h=>by rw[q8z,if_pos (h x (by simp)),z1q r fun y hy=>h y (by simp[hy])]
theorem z3y:∀(ds:List Nd),q8z ds=0->∀x∈ds,q1c x=0
 | [],_=>by simp
 | x::r,h=>by
  rw[q8z]at h
  split at h
  ·rename_i h0;intro y hy;rcases List.mem_cons.1 hy with rfl|hy
   ·exact h0
   ·exact z3y r h y hy
  ·rename_i h0;exact absurd h h0
theorem k0r:∀(ds:List Nd)(k:Nat)(h:k<ds.length),(∀x∈ds.take k,q1c x=0)->q1c ds[k]≠0->q8z ds=q1c ds[k]
 | x::r,0,_,_,h=>by
  have h':q1c x≠0:=h;rw[q8z,if_neg h'];rfl
 | x::r,k+1,hk,ha,h=>by
  rw[q8z,if_pos (ha x (by simp)),k0r r k (by simpa using hk) (fun y hy=>ha y (by simp[hy])) h];rfl
theorem q4z{ds:List Nd}(h:q3c ds=0):ds.length<=400/\(∀x∈ds,q1c x=0)/\q0v ds 0 1=some ds.length:=by
 unfold q3c at h
 split at h
 ·cases h
 ·rename_i h1
  split at h
  ·rename_i h2
   split at h
   ·rename_i h3;exact⟨by omega,z3y ds h2,h3⟩
   ·cases h
  ·rename_i h2;exact absurd h h2
theorem v9m{ds:List Nd}(h1:ds.length<=400)(h2:∀x∈ds,q1c x=0)(h3:q0v ds 0 1=some ds.length):q3c ds=0:=by
 rw[q3c,if_neg (by omega),if_pos (z1q ds h2),if_pos h3]
inductive Tr where
 | leaf (x:Nd)
 | one (x:Nd) (a:Tr)
 | two (x:Nd) (a b:Tr)
def Tr.nodes:Tr->List Nd
 | .leaf x=>[x]
 | .one x a=>x::a.nodes
 | .two x a b=>x::(a.nodes++b.nodes)
def Tr.Wf:Tr->Prop
 | .leaf x=>q1c x=0/\pts x.op=0
 | .one x a=>q1c x=0/\pts x.op=1/\a.Wf
 | .two x a b=>q1c x=0/\pts x.op=2/\a.Wf/\b.Wf
theorem y4z:∀(ds:List Nd)(m k:Nat),(∀x∈ds,q1c x=0)->cnt ds m=some k->∃ts:List Tr,ts.length=m/\(∀t∈ts,t.Wf)/\ds.take k=(ts.map Tr.nodes).flatten
 | ds,0,k,_,h=>by rw[q8l]at h;cases h;exact⟨[],rfl,by simp,by simp⟩
 | [],m+1,k,_,h=>by rw[z1o]at h;cases h
 | x::r,m+1,k,hn,h=>by
  rw[q4l,Option.map_eq_some_iff]at h;obtain⟨j,h1,rfl⟩:=h;obtain⟨ts,e1,e2,e3⟩:=y4z r _ j (fun y hy=>hn y (by simp[hy])) h1;have hx:=hn x (by simp);have h012:pts x.op=0\/pts x.op=1\/pts x.op=2:=by have:=j8e x.op;omega
  rcases h012 with h0|h0|h0
  ·exact⟨.leaf x::ts,by simp[e1,h0],by intro t ht;rcases List.mem_cons.1 ht with rfl|ht;exact⟨hx,h0⟩;exact e2 t ht,by simp[Tr.nodes,e3]⟩
  ·match ts,e1,e2,e3 with
   | [],e1,_,_=>simp at e1;omega
   | a::ts,e1,e2,e3=>
    refine⟨.one x a::ts,by simp at e1⊢;omega,?_,by simp[Tr.nodes,e3]⟩;intro t ht;rcases List.mem_cons.1 ht with rfl|ht
    ·exact⟨hx,h0,e2 a (by simp)⟩
    ·exact e2 t (by simp[ht])
  ·match ts,e1,e2,e3 with
   | [],e1,_,_=>simp at e1;omega
   | [a],e1,_,_=>simp at e1;omega
   | a::b::ts,e1,e2,e3=>
    refine⟨.two x a b::ts,by simp at e1⊢;omega,?_,by simp[Tr.nodes,e3]⟩;intro t ht;rcases List.mem_cons.1 ht with rfl|ht
    ·exact⟨hx,h0,e2 a (by simp),e2 b (by simp)⟩
    ·exact e2 t (by simp[ht])
theorem z2w:∀(t:Tr)(r:List Nd)(m:Nat),t.Wf->cnt (t.nodes++r) (m+1)=(cnt r m).map (t.nodes.length+·)
 | .leaf x,r,m,h=>by
  simp only[Tr.nodes,List.cons_append,List.nil_append,q4l,h.2,Nat.zero_add,List.length_cons,List.length_nil];cases cnt r m<;>simp[Nat.add_comm]
 | .one x a,r,m,h=>by
  simp only[Tr.nodes,List.cons_append,q4l,h.2.1,Nat.add_comm 1 m,z2w a r m h.2.2,List.length_cons];cases cnt r m<;>simp;omega
 | .two x a b,r,m,h=>by
  simp only[Tr.nodes,List.cons_append,List.append_assoc,q4l,h.2.1,show 2+m=(m+1)+1 by omega,z2w a (b.nodes++r) (m+1) h.2.2.1,z2w b r m h.2.2.2,List.length_cons,List.length_append];cases cnt r m<;>simp;omega
theorem Tr.pos:∀t:Tr,0<t.nodes.length
 | .leaf _=>by simp[Tr.nodes]
 | .one _ _=>by simp[Tr.nodes]
 | .two _ _ _=>by simp[Tr.nodes]
theorem q4r{ds:List Nd}{i:Nat}{t:Tr}{r:List Nd}(h:t.Wf)(hd:ds.drop i=t.nodes++r):q0v ds i 1=some (i+t.nodes.length):=by
 rw[q0v,hd,z2w t r 0 h,q8l];rfl
theorem j9h{ds:List Nd}{i j:Nat}(hn:∀x∈ds,q1c x=0)(h:q0v ds i 1=some j):∃t:Tr,t.Wf/\ds.drop i=t.nodes++ds.drop j/\j=i+t.nodes.length:=by
 rw[q0v,Option.map_eq_some_iff]at h;obtain⟨k,h1,rfl⟩:=h;obtain⟨ts,e1,e2,e3⟩:=y4z _ _ _ (fun x hx=>hn x (List.mem_of_mem_drop hx)) h1
 match ts,e1,e2,e3 with
 | [t],_,e2,e3=>
  have e4:(ds.drop i).take k=t.nodes:=by simpa using e3
  have e5:=j2s _ _ _ h1;refine⟨t,e2 t (by simp),?_,?_⟩
  ·rw[<-e4,<-List.drop_drop,List.take_append_drop]
  ·rw[<-e4,List.length_take];omega
theorem z8g{ds:List Nd}(h:q3c ds=0):∃t:Tr,t.Wf/\ds=t.nodes:=by
 obtain⟨_,h2,h3⟩:=q4z h;obtain⟨t,ht,e1,e2⟩:=j9h h2 h3;refine⟨t,ht,?_⟩;rw[List.drop_zero,List.drop_length,List.append_nil]at e1;exact e1
theorem z1b{t:Tr}(h:t.Wf)(hl:t.nodes.length<=400):q3c t.nodes=0:=by
 refine v9m hl ?_ ?_
 ·clear hl
  induction t with
  | leaf x=>intro y hy;simp[Tr.nodes]at hy;subst hy;exact h.1
  | one x a ih=>
   intro y hy;rcases List.mem_cons.1 hy with rfl|hy
   ·exact h.1
   ·exact ih h.2.2 y hy
  | two x a b ia ib=>
   intro y hy;rcases List.mem_cons.1 hy with rfl|hy
   ·exact h.1
   ·rcases List.mem_append.1 hy with hy|hy
    ·exact ia h.2.2.1 y hy
    ·exact ib h.2.2.2 y hy
 ·have:=q4r (ds:=t.nodes) (i:=0) (r:=[]) h (by simp)
  simpa using this
theorem q1x{x:Nd}(h:q1c x=0):1<=x.op/\x.op<=9/\(x.op=1\/x.tx.size=0)/\(x.op=7\/x.n=0)/\(x.op=1->isW x.tx=true)/\(x.op=7->0<=x.n/\x.n<=8):=by
 unfold q1c at h
 split at h
 ·cases h
 split at h
 ·cases h
 split at h
 ·cases h
 split at h
 ·cases h
 rename_i h1 h2 h3 h4;refine⟨by omega,by omega,by omega,by omega,?_,by omega⟩;intro h5;cases h6:isW x.tx with
 | true=>rfl
 | false=>exact absurd ⟨h5,h6⟩ h3
theorem q3y{s:ByteArray}(h:isW s=true):1<=s.size/\s.size<=20:=by
 simp[isW]at h;omega
theorem q0q(s:ByteArray):s.data.toList.length=s.size:=(Lib.size_eq s).symm
theorem q3w{x:Nd}(h:q1c x=0)(hp:pts x.op=0):x.op=1\/x.op=2\/x.op=3\/x.op=4\/x.op=5:=by
 have:=q1x h
 unfold pts at hp
 split at hp
 ·cases hp
 split at hp
 ·cases hp
 omega
theorem q7z{x:Nd}(hp:pts x.op=1):x.op=7\/x.op=8:=by
 unfold pts at hp
 split at hp
 ·cases hp
 split at hp
 ·omega
 ·cases hp
theorem q7m{x:Nd}(hp:pts x.op=2):x.op=6\/x.op=9:=by
 unfold pts at hp
 split at hp
 ·omega
 split at hp<;>cases hp
theorem q6a{a b:ByteArray}(h:a.data.toList=b.data.toList):a=b:=by
 cases a;cases b;simp only[ByteArray.mk.injEq];exact Array.toList_inj.1 h
theorem k2i{a:ByteArray}(h:a.size=0):a=⟨#[]⟩:=q6a (by
 have:=q0q a
 rw[h]at this
 rw[List.eq_nil_of_length_eq_zero this])
def Tr.flat:Tr->Option (List UInt8)
 | .leaf x=>if x.op=1 then some x.tx.data.toList else if x.op=2 then some [32]else if x.op=4 then none else some []
 | .one _ a=>a.flat
 | .two x a b=>if x.op=6 then(match a.flat,b.flat with|some s,some t=>some (s++t)|_,_=>none)else a.flat
def Tr.line(t:Tr):ByteArray:=⟨(t.flat.getD []).toArray⟩
def Tr.isFlat(t:Tr):Bool:=t.flat.isSome
theorem z4g(t:Tr):t.line.data.toList=t.flat.getD []:=by simp[Tr.line]
theorem q7x(t:Tr):t.line.size=(t.flat.getD []).length:=by rw[<-q0q,z4g]
theorem q7t:∀t:Tr,t.Wf->(t.flat.getD []).length<=20*t.nodes.length
 | .leaf x,h=>by
  obtain⟨_,_,_,_,h5,_⟩:=q1x h.1;simp only[Tr.flat,Tr.nodes]
  split
  ·rename_i h1
   have:=q3y (h5 h1)
   have e:=q0q x.tx;simp only[Option.getD_some,List.length_cons,List.length_nil];omega
  ·repeat' split
   all_goals simp
 | .one x a,h=>by
  have:=q7t a h.2.2
  simp only[Tr.flat,Tr.nodes,List.length_cons];omega
 | .two x a b,h=>by
  have h1:=q7t a h.2.2.1;have h2:=q7t b h.2.2.2;simp only[Tr.flat,Tr.nodes,List.length_cons,List.length_append]
  split
  ·cases ha:a.flat with
   | none=>simp
   | some s=>
    cases hb:b.flat with
    | none=>simp
    | some t=>
     rw[ha]at h1;rw[hb]at h2;simp only[Option.getD_some]at h1 h2⊢;rw[List.length_append];omega
  ·omega
theorem q7u:∀(t:Tr)(s:List UInt8),t.Wf->t.flat=some s->∀b∈s,b≠10
 | .leaf x,s,h,e=>by
  obtain⟨_,_,_,_,h5,_⟩:=q1x h.1;simp only[Tr.flat]at e
  split at e
  ·rename_i h1;cases e;have hw:=h5 h1;simp only[isW,Bool.and_eq_true,List.all_eq_true]at hw;intro b hb hc
   have:=hw.2 b hb
   subst hc;simp[q5x]at this
  ·split at e
   ·cases e;simp
   ·split at e
    ·cases e
    ·cases e;simp
 | .one x a,s,h,e=>q7u a s h.2.2 e
 | .two x a b,s,h,e=>by
  simp only[Tr.flat]at e
  split at e
  ·cases ha:a.flat with
   | none=>rw[ha]at e;cases e
   | some u=>
    cases hb:b.flat with
    | none=>rw[ha,hb]at e;cases e
    | some v=>
     rw[ha,hb]at e;cases e;intro c hc;rcases List.mem_append.1 hc with hc|hc
     ·exact q7u a u h.2.2.1 ha c hc
     ·exact q7u b v h.2.2.2 hb c hc
  ·exact q7u a s h.2.2.1 e
end Go.Proofs.YthjapabokcajhaaGreatDoor
