import Derived.Test.YthcpdohdppkmkaaGreatDoorPu00
open Go.Proofs.Tryz
namespace Go.Proofs.YthcpdohdppkmkaaGreatDoor
open Go Go.RowKit
def Prg(w:World)(a:Option Addr)(ps:List (List Td)):Prop:=
 ∀i(h:i<ps.length),∃b o a' c',a=some ⟨b,o,none⟩/\b<w.heap.size/\w.cell? ⟨b,o+i,none⟩=some (.slice a' ps[i].length c')/\ps[i].length<=c'/\Tds w a' ps[i]
theorem Prg.W{w w':World}{a:Option Addr}{ps:List (List Td)}(h:Prg w a ps)(hb:Below w w w'):Prg w' a ps:=by
 intro i hi;obtain⟨b,o,a',c',e,hlt,c1,c2,c3⟩:=h i hi
 have:=hb.size
 exact⟨b,o,a',c',e,by omega,((q1c hb).1 _ _ hlt).trans c1,c2,c3.W hb⟩
theorem Prg.nil(w:World)(a:Option Addr):Prg w a []:=fun i hi=>by simp at hi
inductive Fo where
 | nil:Fo
 | cons (x:Td) (k n:Fo):Fo
def Fo.len:Fo->Nat
 | .nil=>0
 | .cons _ _ n=>n.len+1
def Fo.N:Fo->List Td
 | .nil=>[]
 | .cons x k n=>x::(k.N++n.N)
def Fo.ok:Fo->Prop
 | .nil=>True
 | .cons x k n=>k.len=kdT x/\k.ok/\n.ok
def Fo.app:Fo->Fo->Fo
 | .nil,g=>g
 | .cons x k n,g=>.cons x k (n.app g)
theorem j5l:∀(f g:Fo),(f.app g).len=f.len+g.len
 | .nil,g=>by simp[Fo.app,Fo.len]
 | .cons x k n,g=>by simp only[Fo.app,Fo.len,j5l n g];omega
theorem q9y:∀(f g:Fo),(f.app g).N=f.N++g.N
 | .nil,g=>rfl
 | .cons x k n,g=>by simp[Fo.app,Fo.N,q9y n g]
theorem j5m:∀{f g:Fo},f.ok->g.ok->(f.app g).ok
 | .nil,_,_,h=>h
 | .cons _ _ _,_,h,h2=>⟨h.1,h.2.1,j5m h.2.2 h2⟩
theorem y5f:∀(l:Nat)(ds:List Td)(m k:Nat),ds.length<=l->k5r ds m=some k->∃F:Fo,F.ok/\F.len=m/\F.N=ds.take k
 | l,ds,0,k,_,h=>by
  rw[z0e]at h;cases h;exact⟨.nil,trivial,rfl,by simp[Fo.N]⟩
 | 0,ds,m+1,k,hl,h=>by
  have:ds=[]:=List.eq_nil_of_length_eq_zero (by omega)
  subst this;rw[q8j]at h;cases h
 | l+1,[],m+1,k,hl,h=>by rw[q8j]at h;cases h
 | l+1,x::r,m+1,k,hl,h=>by
  rw[q5w,Option.map_eq_some_iff]at h;obtain⟨j,h1,rfl⟩:=h;rw[k9n]at h1;cases h2:k5r r (kdT x)with
  | none=>rw[h2]at h1;cases h1
  | some a=>
   rw[h2,Option.bind_some,Option.map_eq_some_iff]at h1;obtain⟨b,h3,rfl⟩:=h1;obtain⟨K,k1,k2,k3⟩:=y5f l r (kdT x) a (by simp at hl;omega) h2;obtain⟨N,n1,n2,n3⟩:=y5f l (r.drop a) m b (by simp at hl⊢;omega) h3;refine⟨.cons x K N,⟨k2,k1,n1⟩,by simp[Fo.len,n2],?_⟩;have ha:=(j6x _ _ _ h2).2;rw[Fo.N,k3,n3,List.take_succ_cons,List.cons.injEq];refine⟨rfl,?_⟩;rw[List.take_add]
abbrev Wd:=List UInt8
def q3q(n:Nat):Wd:=if h:n<=9 then [UInt8.ofNat (48+n)]else q3q (n / 10)++[UInt8.ofNat (48+n % 10)]
termination_by n
decreasing_by omega
def z4a(w:Wd):Nat:=w.foldl (fun a c=>a*10+(c.toNat-48)) 0
theorem z8x{n:Nat}(h:n<=9):(UInt8.ofNat (48+n)).toNat=48+n:=by
 rw[UInt8.toNat_ofNat'];omega
theorem v8h(n:Nat):z4a (q3q n)=n:=by
 induction n using Nat.strongRecOn with
 | ind n ih=>
  rw[q3q]
  split
  ·rename_i h;simp only[z4a,List.foldl_cons,List.foldl_nil,z8x h];omega
  ·rename_i h;have h2:=ih (n / 10) (by omega);unfold z4a at h2⊢;rw[List.foldl_append,h2];simp only[List.foldl_cons,List.foldl_nil,z8x (show n % 10<=9 by omega)];omega
theorem z3v(n:Nat):∀c∈q3q n,q4d c=true:=by
 induction n using Nat.strongRecOn with
 | ind n ih=>
  have hd:∀k,k<=9->q4d (UInt8.ofNat (48+k))=true:=fun k hk=>by
   simp only[q4d,z8x hk];simp;omega
  rw[q3q]
  split
  ·rename_i h;intro c hc;rw[List.mem_singleton]at hc;rw[hc];exact hd n h
  ·rename_i h;intro c hc;rcases List.mem_append.1 hc with hc|hc
   ·exact ih (n / 10) (by omega) c hc
   ·rw[List.mem_singleton]at hc;rw[hc];exact hd _ (by omega)
theorem k5v(n:Nat):q3q n≠[]:=by
 rw[q3q]
 split<;>simp
theorem z0g:∀(k n:Nat),n<10 ^ (k+1)->(q3q n).length<=k+1
 | k,n,h=>by
  rw[q3q]
  split
  ·simp
  ·rename_i h9;cases k with
   | zero=>simp at h;omega
   | succ k=>
    have:=z0g k (n / 10) (by rw[Nat.pow_succ]at h;omega)
    simp only[List.length_append,List.length_cons,List.length_nil];omega
theorem k2d(n:Nat)(h:0<n):∃c z,q3q n=c::z/\c≠48:=by
 induction n using Nat.strongRecOn with
 | ind n ih=>
  rw[q3q]
  split
  ·rename_i h9;refine⟨_,[],rfl,fun e=>?_⟩
   have:=congrArg UInt8.toNat e
   rw[z8x h9]at this;simp at this;omega
  ·obtain⟨c,z,e,hc⟩:=ih (n / 10) (by omega) (by omega);exact⟨c,z++[UInt8.ofNat (48+n % 10)],by rw[e];rfl,hc⟩
structure Tn where
 x:Td
 ns:List Td
 tk:List Wd
 tx:List UInt8
def prc(x:Td):Nat:=if x.op=5 then 0 else if x.op=6 then 1 else 2
def brk(l:Nat)(t:Tn):List Wd:=if prc t.x<l then [40]::(t.tk++[[41]])else t.tk
def brx(l:Nat)(t:Tn):List UInt8:=if prc t.x<l then 40::(t.tx++[41])else t.tx
def cmk:List Tn->List Wd
 | []=>[]
 | t::r=>t.tk++match r with
  | []=>[]
  | _::_=>[44]::cmk r
def cmx:List Tn->List UInt8
 | []=>[]
 | t::r=>t.tx++match r with
  | []=>[]
  | _::_=>44::32::cmx r
def two2{α:Type}(f:Tn->Tn->List α):List Tn->List α
 | [a,b]=>f a b
 | _=>[]
def q2w(x:Td)(ks:List Tn):List Wd:=
 if x.op=1 then [q3q x.n.toNat]
 else if x.op=2 then [btL x.tx]
 else if x.op=3 then btL x.tx::[40]::(cmk ks++[[41]])
 else if x.op=4 then [91]::(cmk ks++[[93]])
 else if x.op=5 then two2 (fun a b=>brk 0 a++[43]::brk 1 b) ks
 else two2 (fun a b=>brk 1 a++[42]::brk 2 b) ks
def q3o(x:Td)(ks:List Tn):List UInt8:=
 if x.op=1 then q3q x.n.toNat
 else if x.op=2 then btL x.tx
 else if x.op=3 then btL x.tx++40::(cmx ks++[41])
 else if x.op=4 then 91::(cmx ks++[93])
 else if x.op=5 then two2 (fun a b=>brx 0 a++32::43::32::brx 1 b) ks
 else two2 (fun a b=>brx 1 a++32::42::32::brx 2 b) ks
def q0m(x:Td)(ks:List Tn):Tn:=⟨x,x::ks.flatMap (·.ns),q2w x ks,q3o x ks⟩
def Fo.R:Fo->List Tn
 | .nil=>[]
 | .cons x k n=>q0m x k.R::n.R
theorem q2s:∀F:Fo,F.R.length=F.len
 | .nil=>rfl
 | .cons _ _ n=>by simp[Fo.R,Fo.len,q2s n]
theorem q8c:∀F:Fo,F.R.flatMap (·.ns)=F.N
 | .nil=>rfl
 | .cons x k n=>by
  rw[Fo.R,List.flatMap_cons,q8c n,q0m,q8c k];simp[Fo.N]
def exN(x:Td):Prop:=q0r x=0/\x.op<7
def Fo.exs(F:Fo):Prop:=∀x∈F.N,exN x
theorem q2j{x:Td}(h:exN x):(x.op=1/\x.tx=⟨#[]⟩/\0<=x.n/\x.n<=999999/\kdT x=0)\/(x.op=2/\q0z x.tx=true/\x.n=0/\kdT x=0)
  \/(x.op=3/\q0z x.tx=true/\0<=x.n/\x.n<=6/\kdT x=x.n.toNat)\/(x.op=4/\x.tx=⟨#[]⟩/\0<=x.n/\x.n<=6/\kdT x=x.n.toNat)
  \/(x.op=5/\x.tx=⟨#[]⟩/\x.n=0/\kdT x=2)\/(x.op=6/\x.tx=⟨#[]⟩/\x.n=0/\kdT x=2):=by
 obtain⟨h0,h7⟩:=h
 have hem:∀s:ByteArray,¬0<s.size->s=⟨#[]⟩:=fun s hs=>by
  apply ByteArray.ext;apply Array.toList_inj.1;exact List.eq_nil_of_length_eq_zero (by have:=q0b s;simp only[btL]at this;omega)
 unfold q0r at h0
 split at h0
 ·cases h0
 ·rename_i h1
  split at h0
  ·cases h0
  ·rename_i h2
   split at h0
   ·cases h0
   ·rename_i h3;have h9:¬x.op=9:=by omega
    rw[if_neg h9]at h0
    split at h0
    ·cases h0
    ·rename_i h4;have ho:x.op=1\/x.op=2\/x.op=3\/x.op=4\/x.op=5\/x.op=6:=by omega
     rcases ho with e|e|e|e|e|e
     ·refine .inl ⟨e,hem _ (fun hh=>h3 (.inr ⟨by rw[e];rfl,hh⟩)),by omega,by omega,by unfold kdT;rw[e];rfl⟩
     ·refine .inr (.inl ⟨e,?_,by omega,by unfold kdT;rw[e];rfl⟩);cases hn:q0z x.tx with
      | true=>rfl
      | false=>exact absurd ⟨by rw[e];rfl,hn⟩ h4
     ·refine .inr (.inr (.inl ⟨e,?_,by omega,by omega,by unfold kdT;rw[if_pos (.inl e)]⟩));cases hn:q0z x.tx with
      | true=>rfl
      | false=>exact absurd ⟨by rw[e];rfl,hn⟩ h4
     ·exact .inr (.inr (.inr (.inl ⟨e,hem _ (fun hh=>h3 (.inr ⟨by rw[e];rfl,hh⟩)),by omega,by omega,by unfold kdT;rw[if_pos (.inr e)]⟩)))
     ·exact .inr (.inr (.inr (.inr (.inl ⟨e,hem _ (fun hh=>h3 (.inr ⟨by rw[e];rfl,hh⟩)),by omega,by unfold kdT;rw[e];rfl⟩))))
     ·exact .inr (.inr (.inr (.inr (.inr ⟨e,hem _ (fun hh=>h3 (.inr ⟨by rw[e];rfl,hh⟩)),by omega,by unfold kdT;rw[e];rfl⟩))))
inductive Job where
 | level (k:Nat):Job
 | loop (k:Nat) (acc:List Td):Job
 | single:Job
 | args (e:Wd) (n:Nat) (acc:List Td):Job
inductive Rs where
 | ok (n:Nat) (ns:List Td) (rest:List Wd):Rs
 | bad (rest:List Wd):Rs
def sgn(k:Nat):Wd:=if k=0 then [43]else [42]
def sgT(k:Nat):Td:=⟨5+k,⟨#[]⟩,0⟩
def z7w(w:Wd):Bool:=q4d (w.headD 0)
def nmW(w:Wd):Bool:=q0z (wbS w)
def j5b(w:Wd):Td:=⟨1,⟨#[]⟩,(z4a w:Nat)⟩
def nmT(w:Wd):Td:=⟨2,wbS w,0⟩
def clT(w:Wd)(n:Nat):Td:=⟨3,wbS w,(n:Nat)⟩
def lsT(n:Nat):Td:=⟨4,⟨#[]⟩,(n:Nat)⟩
inductive PR:Job->List Wd->Rs->Prop where
 | lev2 {ts r}:PR .single ts r->PR (.level 2) ts r
 | levB {k ts u}:k<2->PR (.level (k+1)) ts (.bad u)->PR (.level k) ts (.bad u)
 | levO {k ts m ns u r}:k<2->PR (.level (k+1)) ts (.ok m ns u)->PR (.loop k ns) u r->PR (.level k) ts r
 | lopE {k acc ts}:ts.head?≠some (sgn k)->PR (.loop k acc) ts (.ok 0 acc ts)
 | lopB {k acc ts u}:PR (.level (k+1)) ts (.bad u)->PR (.loop k acc) (sgn k::ts) (.bad u)
 | lopO {k acc ts m ns u r}:PR (.level (k+1)) ts (.ok m ns u)->PR (.loop k (sgT k::(acc++ns))) u r->PR (.loop k acc) (sgn k::ts) r
 | sinN:PR .single [] (.bad [])
 | sPB {ts u}:PR (.level 0) ts (.bad u)->PR .single ([40]::ts) (.bad u)
 | sPC {ts m ns u}:PR (.level 0) ts (.ok m ns ([41]::u))->PR .single ([40]::ts) (.ok 0 ns u)
 | sPX {ts m ns u}:PR (.level 0) ts (.ok m ns u)->u.head?≠some [41]->PR .single ([40]::ts) (.bad u)
 | sLB {ts u}:PR (.args [93] 0 []) ts (.bad u)->PR .single ([91]::ts) (.bad u)
 | sLO {ts n ns u}:PR (.args [93] 0 []) ts (.ok n ns u)->PR .single ([91]::ts) (.ok 0 (lsT n::ns) u)
 | sNum {w ts}:z7w w=true->PR .single (w::ts) (.ok 0 [j5b w] ts)
 | sName {w ts}:nmW w=true->ts.head?≠some [40]->PR .single (w::ts) (.ok 0 [nmT w] ts)
 | sCB {w ts u}:nmW w=true->PR (.args [41] 0 []) ts (.bad u)->PR .single (w::[40]::ts) (.bad u)
 | sCO {w ts n ns u}:nmW w=true->PR (.args [41] 0 []) ts (.ok n ns u)->PR .single (w::[40]::ts) (.ok 0 (clT w n::ns) u)
 | sBad {w ts}:w≠[40]->w≠[91]->z7w w=false->nmW w=false->PR .single (w::ts) (.bad (w::ts))
 | aEnd {e n acc ts}:PR (.args e n acc) (e::ts) (.ok n acc ts)
 | aSep {e n acc ts}:ts.head?≠some e->ts.head?≠some [44]->PR (.args e (n+1) acc) ts (.bad ts)
 | aB0 {e acc ts u}:ts.head?≠some e->PR (.level 0) ts (.bad u)->PR (.args e 0 acc) ts (.bad u)
 | aO0 {e acc ts m ns u r}:ts.head?≠some e->PR (.level 0) ts (.ok m ns u)->PR (.args e 1 (acc++ns)) u r->PR (.args e 0 acc) ts r
 | aB {e n acc ts u}:e≠[44]->PR (.level 0) ts (.bad u)->PR (.args e (n+1) acc) ([44]::ts) (.bad u)
 | aO {e n acc ts m ns u r}:e≠[44]->PR (.level 0) ts (.ok m ns u)->PR (.args e (n+2) (acc++ns)) u r->PR (.args e (n+1) acc) ([44]::ts) r
theorem q5j{w:Wd}(h:z7w w=true):nmW w=false:=by
 cases hn:nmW w with
 | false=>rfl
 | true=>
  exfalso;unfold nmW q0z at hn;simp only[Bool.and_eq_true,List.all_eq_true,decide_eq_true_eq]at hn;cases w with
  | nil=>simp[wbS,ByteArray.size]at hn
  | cons c z=>
   have h1:=hn.2 c (by show c∈(c::z);simp);have h2:q4d c=true:=h
   have:=z9c h2
   rw[h1]at this;cases this
theorem y2k:z7w [40]=false:=by decide
theorem g2b:z7w [91]=false:=by decide
theorem v0m:nmW [40]=false:=by decide
theorem y6n:nmW [91]=false:=by decide
theorem q3d{j:Job}{ts:List Wd}{r:Rs}(h:PR j ts r):∀{r':Rs},PR j ts r'->r=r':=by
 have n40:=y2k;have n91:=g2b;have a40:=v0m;have a91:=y6n
 induction h with
 | lev2 _ ih=>intro r' h';cases h' with
  | lev2 h2=>exact ih h2
  | levB h0=>omega
  | levO h0=>omega
 | levB h0 _ ih=>intro r' h';cases h' with
  | lev2 h2=>omega
  | levB _ h2=>exact ih h2
  | levO _ h2 _=>cases ih h2
 | levO h0 _ _ ih1 ih2=>intro r' h';cases h' with
  | lev2 h2=>omega
  | levB _ h2=>cases ih1 h2
  | levO _ h2 h3=>cases ih1 h2;exact ih2 h3
 | lopE h0=>intro r' h';cases h' with
  | lopE _=>rfl
  | lopB _=>simp at h0
  | lopO _ _=>simp at h0
 | lopB _ ih=>intro r' h';cases h' with
  | lopE h0=>simp at h0
  | lopB h2=>exact ih h2
  | lopO h2 _=>cases ih h2
 | lopO _ _ ih1 ih2=>intro r' h';cases h' with
  | lopE h0=>simp at h0
  | lopB h2=>cases ih1 h2
  | lopO h2 h3=>cases ih1 h2;exact ih2 h3
 | sinN=>intro r' h';cases h';rfl
 | sPB _ ih=>intro r' h';cases h' with
  | sPB h2=>exact ih h2
  | sPC h2=>cases ih h2
  | sPX h2 _=>cases ih h2
  | sNum h2=>rw[n40]at h2;cases h2
  | sName h2 _=>rw[a40]at h2;cases h2
  | sCB h2 _=>rw[a40]at h2;cases h2
  | sCO h2 _=>rw[a40]at h2;cases h2
  | sBad h2=>exact absurd rfl h2
 | sPC _ ih=>intro r' h';cases h' with
  | sPB h2=>cases ih h2
  | sPC h2=>cases ih h2;rfl
  | sPX h2 h3=>cases ih h2;simp at h3
  | sNum h2=>rw[n40]at h2;cases h2
  | sName h2 _=>rw[a40]at h2;cases h2
  | sCB h2 _=>rw[a40]at h2;cases h2
  | sCO h2 _=>rw[a40]at h2;cases h2
  | sBad h2=>exact absurd rfl h2
 | sPX _ h0 ih=>intro r' h';cases h' with
  | sPB h2=>cases ih h2
  | sPC h2=>cases ih h2;simp at h0
  | sPX h2 h3=>cases ih h2;rfl
  | sNum h2=>rw[n40]at h2;cases h2
  | sName h2 _=>rw[a40]at h2;cases h2
  | sCB h2 _=>rw[a40]at h2;cases h2
  | sCO h2 _=>rw[a40]at h2;cases h2
  | sBad h2=>exact absurd rfl h2
 | sLB _ ih=>intro r' h';cases h' with
  | sLB h2=>exact ih h2
  | sLO h2=>cases ih h2
  | sNum h2=>rw[n91]at h2;cases h2
  | sName h2 _=>rw[a91]at h2;cases h2
  | sCB h2 _=>rw[a91]at h2;cases h2
  | sCO h2 _=>rw[a91]at h2;cases h2
  | sBad _ h2=>exact absurd rfl h2
 | sLO _ ih=>intro r' h';cases h' with
  | sLB h2=>cases ih h2
  | sLO h2=>cases ih h2;rfl
  | sNum h2=>rw[n91]at h2;cases h2
  | sName h2 _=>rw[a91]at h2;cases h2
  | sCB h2 _=>rw[a91]at h2;cases h2
  | sCO h2 _=>rw[a91]at h2;cases h2
  | sBad _ h2=>exact absurd rfl h2
 | sNum h0=>
  have hn:=q5j h0;intro r' h';cases h' with
  | sPB h2=>rw[n40]at h0;cases h0
  | sPC h2=>rw[n40]at h0;cases h0
  | sPX h2 h3=>rw[n40]at h0;cases h0
  | sLB h2=>rw[n91]at h0;cases h0
  | sLO h2=>rw[n91]at h0;cases h0
  | sNum h2=>rfl
  | sName h2 _=>rw[hn]at h2;cases h2
  | sCB h2 _=>rw[hn]at h2;cases h2
  | sCO h2 _=>rw[hn]at h2;cases h2
  | sBad _ _ h2=>rw[h0]at h2;cases h2
 | sName h0 h1=>
  intro r' h';cases h' with
  | sPB h2=>rw[a40]at h0;cases h0
  | sPC h2=>rw[a40]at h0;cases h0
  | sPX h2 h3=>rw[a40]at h0;cases h0
  | sLB h2=>rw[a91]at h0;cases h0
  | sLO h2=>rw[a91]at h0;cases h0
  | sNum h2=>rw[q5j h2]at h0;cases h0
  | sName h2 _=>rfl
  | sCB h2 _=>simp at h1
  | sCO h2 _=>simp at h1
  | sBad _ _ _ h2=>rw[h0]at h2;cases h2
 | sCB h0 _ ih=>
  intro r' h';cases h' with
  | sPB h2=>rw[a40]at h0;cases h0
  | sPC h2=>rw[a40]at h0;cases h0
  | sPX h2 h3=>rw[a40]at h0;cases h0
  | sLB h2=>rw[a91]at h0;cases h0
  | sLO h2=>rw[a91]at h0;cases h0
  | sNum h2=>rw[q5j h2]at h0;cases h0
  | sName _ h2=>simp at h2
  | sCB _ h2=>exact ih h2
  | sCO _ h2=>cases ih h2
  | sBad _ _ _ h2=>rw[h0]at h2;cases h2
 | sCO h0 _ ih=>
  intro r' h';cases h' with
  | sPB h2=>rw[a40]at h0;cases h0
  | sPC h2=>rw[a40]at h0;cases h0
  | sPX h2 h3=>rw[a40]at h0;cases h0
  | sLB h2=>rw[a91]at h0;cases h0
  | sLO h2=>rw[a91]at h0;cases h0
  | sNum h2=>rw[q5j h2]at h0;cases h0
  | sName _ h2=>simp at h2
  | sCB _ h2=>cases ih h2
  | sCO _ h2=>cases ih h2;rfl
  | sBad _ _ _ h2=>rw[h0]at h2;cases h2
 | sBad h0 h1 h3 h4=>
  intro r' h';cases h' with
  | sPB h2=>exact absurd rfl h0
  | sPC h2=>exact absurd rfl h0
  | sPX h2 _=>exact absurd rfl h0
  | sLB h2=>exact absurd rfl h1
  | sLO h2=>exact absurd rfl h1
  | sNum h2=>rw[h3]at h2;cases h2
  | sName h2 _=>rw[h4]at h2;cases h2
  | sCB h2 _=>rw[h4]at h2;cases h2
  | sCO h2 _=>rw[h4]at h2;cases h2
  | sBad _ _ _ h2=>rfl
 | aEnd=>
  intro r' h';cases h' with
  | aEnd=>rfl
  | aSep h2 _=>simp at h2
  | aB0 h2 _=>simp at h2
  | aO0 h2 _ _=>simp at h2
  | aB h2 _=>exact absurd rfl h2
  | aO h2 _ _=>exact absurd rfl h2
 | aSep h0 h1=>
  intro r' h';cases h' with
  | aEnd=>simp at h0
  | aSep h2 _=>rfl
  | aB h2 _=>simp at h1
  | aO h2 _ _=>simp at h1
 | aB0 h0 _ ih=>
  intro r' h';cases h' with
  | aEnd=>simp at h0
  | aB0 _ h2=>exact ih h2
  | aO0 _ h2 _=>cases ih h2
 | aO0 h0 _ _ ih1 ih2=>
  intro r' h';cases h' with
  | aEnd=>simp at h0
  | aB0 _ h2=>cases ih1 h2
  | aO0 _ h2 h3=>cases ih1 h2;exact ih2 h3
 | aB h0 _ ih=>
  intro r' h';cases h' with
  | aEnd=>exact absurd rfl h0
  | aSep _ h2=>simp at h2
  | aB _ h2=>exact ih h2
  | aO _ h2 _=>cases ih h2
 | aO h0 _ _ ih1 ih2=>
  intro r' h';cases h' with
  | aEnd=>exact absurd rfl h0
  | aSep _ h2=>simp at h2
  | aB _ h2=>cases ih1 h2
  | aO _ h2 h3=>cases ih1 h2;exact ih2 h3
def Rs.rest:Rs->List Wd
 | .ok _ _ u=>u
 | .bad u=>u
def Job.eats:Job->Nat
 | .level _=>1
 | .single=>1
 | _=>0
theorem q2n{α:Type}{u ts:List α}(w:α)(h:u <:+ ts):u <:+ w::ts:=h.trans (List.suffix_cons w ts)
theorem q4z{j:Job}{ts:List Wd}{r:Rs}(h:PR j ts r):r.rest <:+ ts/\∀m ns u,r=.ok m ns u->u.length+j.eats<=ts.length:=by
 induction h with
 | lev2 _ ih=>exact ih
 | levB _ _ ih=>exact⟨ih.1,fun _ _ _ e=>by cases e⟩
 | levO _ _ _ ih1 ih2=>
  have h1:=ih1.2 _ _ _ rfl;refine⟨ih2.1.trans ih1.1,fun m ns u e=>?_⟩;have h2:=ih2.2 _ _ _ e;simp only[Job.eats]at h1 h2⊢;omega
 | lopE _=>exact⟨List.suffix_refl _,fun _ _ _ e=>by cases e;simp[Job.eats]⟩
 | lopB _ ih=>exact⟨q2n _ ih.1,fun _ _ _ e=>by cases e⟩
 | lopO _ _ ih1 ih2=>
  have h1:=ih1.2 _ _ _ rfl;refine⟨q2n _ (ih2.1.trans ih1.1),fun m ns u e=>?_⟩;have h2:=ih2.2 _ _ _ e;simp only[Job.eats,List.length_cons]at h1 h2⊢;omega
 | sinN=>exact⟨List.suffix_refl _,fun _ _ _ e=>by cases e⟩
 | sPB _ ih=>exact⟨q2n _ ih.1,fun _ _ _ e=>by cases e⟩
 | sPC _ ih=>
  have h1:=ih.2 _ _ _ rfl;refine⟨q2n _ ((List.suffix_cons _ _).trans ih.1),fun m ns u e=>?_⟩;cases e;simp only[Job.eats,List.length_cons]at h1⊢;omega
 | sPX _ _ ih=>exact⟨q2n _ ih.1,fun _ _ _ e=>by cases e⟩
 | sLB _ ih=>exact⟨q2n _ ih.1,fun _ _ _ e=>by cases e⟩
 | sLO _ ih=>
  have h1:=ih.2 _ _ _ rfl;refine⟨q2n _ ih.1,fun m ns u e=>?_⟩;cases e;simp only[Job.eats,List.length_cons]at h1⊢;omega
 | sNum _=>exact⟨List.suffix_cons _ _,fun _ _ _ e=>by cases e;simp[Job.eats]⟩
 | sName _ _=>exact⟨List.suffix_cons _ _,fun _ _ _ e=>by cases e;simp[Job.eats]⟩
 | sCB _ _ ih=>exact⟨q2n _ (q2n _ ih.1),fun _ _ _ e=>by cases e⟩
 | sCO _ _ ih=>
  have h1:=ih.2 _ _ _ rfl;refine⟨q2n _ (q2n _ ih.1),fun m ns u e=>?_⟩;cases e;simp only[Job.eats,List.length_cons]at h1⊢;omega
 | sBad _ _ _ _=>exact⟨List.suffix_refl _,fun _ _ _ e=>by cases e⟩
 | aEnd=>exact⟨List.suffix_cons _ _,fun _ _ _ e=>by cases e;simp[Job.eats]⟩
 | aSep _ _=>exact⟨List.suffix_refl _,fun _ _ _ e=>by cases e⟩
 | aB0 _ _ ih=>exact⟨ih.1,fun _ _ _ e=>by cases e⟩
 | aO0 _ _ _ ih1 ih2=>
  have h1:=ih1.2 _ _ _ rfl;refine⟨ih2.1.trans ih1.1,fun m ns u e=>?_⟩;have h2:=ih2.2 _ _ _ e;simp only[Job.eats]at h1 h2⊢;omega
 | aB _ _ ih=>exact⟨q2n _ ih.1,fun _ _ _ e=>by cases e⟩
 | aO _ _ _ ih1 ih2=>
  have h1:=ih1.2 _ _ _ rfl;refine⟨q2n _ (ih2.1.trans ih1.1),fun m ns u e=>?_⟩;have h2:=ih2.2 _ _ _ e;simp only[Job.eats,List.length_cons]at h1 h2⊢;omega
def y9m(w:Wd):Prop:=w=[40]\/w=[91]\/z7w w=true\/nmW w=true
theorem q8p{w:Wd}(h:nmW w=true):∃c z,w=c::z/\q3w c=true/\w≠[108,101,116]/\w.length<=8/\∀b∈w,q3w b=true:=by
 unfold nmW q0z at h;simp only[Bool.and_eq_true,List.all_eq_true,decide_eq_true_eq]at h;obtain⟨⟨⟨h1,h2⟩,h3⟩,h4⟩:=h;cases w with
 | nil=>simp[wbS,ByteArray.size]at h1
 | cons c z=>
  refine⟨c,z,rfl,h4 c (by show c∈(c::z);simp),h3,?_,h4⟩;have e:(wbS (c::z)).size=(c::z).length:=by rw[<-q0b];rfl
  rw[e]at h2;exact h2
theorem z4m{w:Wd}(h:y9m w):w≠[41]/\w≠[93]/\w≠[44]/\w≠[108,101,116]/\w.headD 0≠35:=by
 rcases h with rfl|rfl|h|h
 ·decide
 ·decide
 ·have:∀c:UInt8,q4d c=true->c≠41/\c≠93/\c≠44/\c≠108/\c≠35:=fun c hc=>by
   refine⟨?_,?_,?_,?_,?_⟩<;>(rintro rfl;revert hc;decide)
  cases w with
  | nil=>exact absurd h (by decide)
  | cons c z=>
   obtain⟨h1,h2,h3,h4,h5⟩:=this c h;refine⟨?_,?_,?_,?_,h5⟩<;>(intro e;rw[List.cons.injEq]at e;simp_all)
 ·obtain⟨c,z,rfl,hc,hl,_,_⟩:=q8p h
  have:c≠41/\c≠93/\c≠44/\c≠35:=by
   refine⟨?_,?_,?_,?_⟩<;>(rintro rfl;revert hc;decide)
  refine⟨?_,?_,?_,hl,this.2.2.2⟩<;>(intro e;rw[List.cons.injEq]at e;simp_all)
structure z3j(t:Tn):Prop where
 b:∃w z,t.tk=w::z/\y9m w
 s:∀rest:List Wd,rest.head?≠some [40]->PR .single (brk 2 t++rest) (.ok 0 t.ns rest)
 l1:∀(rest:List Wd)(r:Rs),rest.head?≠some [40]->PR (.loop 1 t.ns) rest r->PR (.level 1) (brk 1 t++rest) r
 l0:∀(rest:List Wd)(r:Rs),rest.head?≠some [40]->rest.head?≠some [42]->PR (.loop 0 t.ns) rest r->PR (.level 0) (brk 0 t++rest) r
theorem q3y(t:Tn):brk 0 t=t.tk:=by simp[brk]
theorem z9q{t:Tn}(h:z3j t){rest:List Wd}(h1:rest.head?≠some [40])(h2:rest.head?≠some [42])(h3:rest.head?≠some [43]):PR (.level 0) (t.tk++rest) (.ok 0 t.ns rest):=by
 have:=h.l0 rest (.ok 0 t.ns rest) h1 h2 (.lopE h3)
 rwa[q3y]at this
theorem y6f{t:Tn}(h:z3j t){rest:List Wd}(h1:rest.head?≠some [40])(h2:rest.head?≠some [42]):PR (.level 1) (brk 1 t++rest) (.ok 0 t.ns rest):=
 h.l1 rest (.ok 0 t.ns rest) h1 (.lopE h2)
theorem q5k{t:Tn}(hp:prc t.x=2)(hb:∃w z,t.tk=w::z/\y9m w)(h:∀rest:List Wd,rest.head?≠some [40]->PR .single (t.tk++rest) (.ok 0 t.ns rest)):z3j t:=by
 have b1:brk 1 t=t.tk:=by rw[brk,if_neg (by omega)]
 have b2:brk 2 t=t.tk:=by rw[brk,if_neg (by omega)]
 have h1:∀(rest:List Wd)(r:Rs),rest.head?≠some [40]->PR (.loop 1 t.ns) rest r->PR (.level 1) (t.tk++rest) r:=
  fun rest r hr hl=>.levO (by omega) (.lev2 (h rest hr)) hl
 refine⟨hb,by rw[b2];exact h,by rw[b1];exact h1,fun rest r hr hs hl=>?_⟩;rw[q3y];exact .levO (by omega) (h1 rest _ hr (.lopE hs)) hl
theorem j6e{t:Tn}(h:∃w z,t.tk=w::z/\y9m w)(l:Nat)(r:List Wd):∃w z,brk l t++r=w::z/\y9m w:=by
 by_cases hp:prc t.x<l
 ·rw[brk,if_pos hp];exact⟨[40],_,rfl,.inl rfl⟩
 ·rw[brk,if_neg hp];obtain⟨w,z,e,hw⟩:=h;exact⟨w,z++r,by rw[e];rfl,hw⟩
theorem k3z{t:Tn}{l:Nat}(hp:prc t.x<l)(hl:∀rest:List Wd,rest.head?≠some [40]->rest.head?≠some [42]->rest.head?≠some [43]->PR (.level 0) (t.tk++rest) (.ok 0 t.ns rest))(rest:List Wd):PR .single (brk l t++rest) (.ok 0 t.ns rest):=by
 rw[brk,if_pos hp,List.cons_append,List.append_assoc];exact .sPC (hl ([41]::rest) (by simp) (by simp) (by simp))
theorem v1z{x:Td}{a b:Tn}(hx:x=sgT 1)(ha:z3j a)(hb:z3j b):z3j (q0m x [a,b]):=by
 have ho:x.op=6:=by rw[hx];rfl
 have hp:prc (q0m x [a,b]).x=1:=by simp[q0m,prc,ho]
 have hk:(q0m x [a,b]).tk=brk 1 a++[42]::brk 2 b:=by simp[q0m,q2w,two2,ho]
 have hn:(q0m x [a,b]).ns=sgT 1::(a.ns++b.ns):=by simp[q0m,hx]
 have h1:∀(rest:List Wd)(r:Rs),rest.head?≠some [40]->PR (.loop 1 (q0m x [a,b]).ns) rest r->PR (.level 1) ((q0m x [a,b]).tk++rest) r:=by
  intro rest r hr hl;rw[hk,List.append_assoc];refine ha.l1 _ _ (by simp) ?_;rw[hn]at hl;exact .lopO (k:=1) (.lev2 (hb.s rest hr)) hl
 have h0:∀(rest:List Wd)(r:Rs),rest.head?≠some [40]->rest.head?≠some [42]->PR (.loop 0 (q0m x [a,b]).ns) rest r->PR (.level 0) ((q0m x [a,b]).tk++rest) r:=
  fun rest r hr hs hl=>.levO (by omega) (h1 rest _ hr (.lopE hs)) hl
 refine⟨by rw[hk];exact j6e ha.b _ _,fun rest _=>k3z (by omega) (fun rest h40 h42 h43=>h0 rest _ h40 h42 (.lopE h43)) rest,fun rest r hr hl=>?_,fun rest r hr hs hl=>?_⟩
 ·rw[brk,if_neg (by omega)];exact h1 rest r hr hl
 ·rw[q3y];exact h0 rest r hr hs hl
theorem v2a{x:Td}{a b:Tn}(hx:x=sgT 0)(ha:z3j a)(hb:z3j b):z3j (q0m x [a,b]):=by
 have ho:x.op=5:=by rw[hx];rfl
 have hp:prc (q0m x [a,b]).x=0:=by simp[q0m,prc,ho]
 have hk:(q0m x [a,b]).tk=brk 0 a++[43]::brk 1 b:=by simp[q0m,q2w,two2,ho]
 have hn:(q0m x [a,b]).ns=sgT 0::(a.ns++b.ns):=by simp[q0m,hx]
 have h0:∀(rest:List Wd)(r:Rs),rest.head?≠some [40]->rest.head?≠some [42]->PR (.loop 0 (q0m x [a,b]).ns) rest r->PR (.level 0) ((q0m x [a,b]).tk++rest) r:=by
  intro rest r hr hs hl;rw[hk,List.append_assoc];refine ha.l0 _ _ (by simp) (by simp) ?_;rw[hn]at hl;exact .lopO (k:=0) (y6f hb hr hs) hl
 have hs:∀l,0<l->∀rest:List Wd,PR .single (brk l (q0m x [a,b])++rest) (.ok 0 (q0m x [a,b]).ns rest):=
  fun l hl rest=>k3z (by omega) (fun rest h40 h42 h43=>h0 rest _ h40 h42 (.lopE h43)) rest
 refine⟨by rw[hk];exact j6e ha.b _ _,fun rest _=>hs 2 (by omega) rest,fun rest r _ hl=>.levO (by omega) (.lev2 (hs 1 (by omega) rest)) hl,fun rest r hr hs hl=>?_⟩;rw[q3y];exact h0 rest r hr hs hl
def cmt:List Tn->List Wd
 | []=>[]
 | t::r=>[44]::cmk (t::r)
theorem q3z(t:Tn)(r:List Tn):cmk (t::r)=t.tk++cmt r:=by
 cases r with
 | nil=>simp[cmk,cmt]
 | cons u r=>simp[cmk,cmt]
theorem k9m{e:Wd}(he:e=[41]\/e=[93])(r:List Tn)(rest:List Wd):(cmt r++e::rest).head?≠some [40]/\(cmt r++e::rest).head?≠some [42]/\(cmt r++e::rest).head?≠some [43]:=by
 cases r with
 | nil=>rcases he with rfl|rfl<;>simp[cmt]
 | cons t r=>simp[cmt]
theorem k1r{e:Wd}(he:e=[41]\/e=[93]):∀(ks:List Tn),(∀t∈ks,z3j t)->∀(n:Nat)(acc:List Td)(rest:List Wd),
  PR (.args e (n+1) acc) (cmt ks++e::rest) (.ok (n+1+ks.length) (acc++ks.flatMap (·.ns)) rest)
 | [],_,n,acc,rest=>by simpa[cmt]using PR.aEnd
 | t::r,h,n,acc,rest=>by
  obtain⟨h1,h2,h3⟩:=k9m he r rest;have ih:=k1r he r (fun u hu=>h u (by simp[hu])) (n+1) (acc++t.ns) rest;have hl:=z9q (h t (by simp)) h1 h2 h3;have e1:cmt (t::r)++e::rest=[44]::(t.tk++(cmt r++e::rest)):=by rw[cmt,q3z];simp
  have e2:n+1+(t::r).length=n+1+1+r.length:=by simp;omega
  have e3:acc++(t::r).flatMap (·.ns)=acc++t.ns++r.flatMap (·.ns):=by simp
  rw[e1,e2,e3];exact .aO (by rcases he with rfl|rfl<;>decide) hl ih
theorem k9d{e:Wd}(he:e=[41]\/e=[93])(ks:List Tn)(h:∀t∈ks,z3j t)(rest:List Wd):
  PR (.args e 0 []) (cmk ks++e::rest) (.ok ks.length (ks.flatMap (·.ns)) rest):=by
 cases ks with
 | nil=>simpa[cmk]using PR.aEnd
 | cons t r=>
  obtain⟨h1,h2,h3⟩:=k9m he r rest;have ih:=k1r he r (fun u hu=>h u (by simp[hu])) 0 ([]++t.ns) rest;have hl:=z9q (h t (by simp)) h1 h2 h3;obtain⟨w,z,e0,hw⟩:=(h t (by simp)).b;have hne:=z4m hw;have e1:cmk (t::r)++e::rest=t.tk++(cmt r++e::rest):=by rw[q3z];simp
  have e2:(t::r).length=0+1+r.length:=by simp;omega
  have e3:(t::r).flatMap (·.ns)=[]++t.ns++r.flatMap (·.ns):=by simp
  rw[e1,e2,e3];refine .aO0 ?_ hl ih;rw[e0,List.cons_append,List.head?_cons];intro e4;rcases he with rfl|rfl
  ·exact hne.1 (Option.some.inj e4)
  ·exact hne.2.1 (Option.some.inj e4)
theorem z2w{x:Td}{op:Int}{tx:ByteArray}{n:Int}(h1:x.op=op)(h2:x.tx=tx)(h3:x.n=n):x=⟨op,tx,n⟩:=by
 cases x;simp_all
theorem y8w{α:Type}{l:List α}(h:l.length=2):∃a b,l=[a,b]:=by
 match l,h with
 | [a,b],_=>exact⟨a,b,rfl⟩
theorem z1a:∀F:Fo,F.ok->F.exs->∀t∈F.R,z3j t
 | .nil,_,_,t,ht=>by cases ht
 | .cons x k n,hok,hex,t,ht=>by
  have hexk:k.exs:=fun y hy=>hex y (by simp[Fo.N,hy])
  have hexn:n.exs:=fun y hy=>hex y (by simp[Fo.N,hy])
  have ihk:=z1a k hok.2.1 hexk;rw[Fo.R]at ht;rcases List.mem_cons.1 ht with rfl|ht
  ·have hlen:k.R.length=kdT x:=by rw[q2s];exact hok.1
   rcases q2j (hex x (by simp[Fo.N]))with⟨ho,htx,hn0,hn1,hk⟩|⟨ho,hnm,hn0,hk⟩|⟨ho,hnm,hn0,hn1,hk⟩|⟨ho,htx,hn0,hn1,hk⟩|⟨ho,htx,hn0,hk⟩|⟨ho,htx,hn0,hk⟩
   ·have hks:k.R=[]:=List.eq_nil_of_length_eq_zero (by omega)
    have hnum:z7w (q3q x.n.toNat)=true:=by
     have h1:=z3v x.n.toNat;cases hd:q3q x.n.toNat with
     | nil=>exact absurd hd (k5v _)
     | cons c z=>exact h1 c (by rw[hd];simp)
    have htk:(q0m x k.R).tk=[q3q x.n.toNat]:=by simp[q0m,q2w,ho]
    have hns:(q0m x k.R).ns=[j5b (q3q x.n.toNat)]:=by
     rw[q0m,hks];simp only[List.flatMap_nil,List.cons.injEq,and_true];exact z2w ho htx (by rw[v8h];omega)
    refine q5k (by simp[q0m,prc,ho]) ⟨_,_,htk,.inr (.inr (.inl hnum))⟩ fun rest _=>?_
    rw[htk,hns];exact .sNum hnum
   ·have hks:k.R=[]:=List.eq_nil_of_length_eq_zero (by omega);have hnw:nmW (btL x.tx)=true:=hnm;have htk:(q0m x k.R).tk=[btL x.tx]:=by simp[q0m,q2w,ho]
    have hns:(q0m x k.R).ns=[nmT (btL x.tx)]:=by
     rw[q0m,hks];simp only[List.flatMap_nil,List.cons.injEq,and_true];exact z2w ho rfl hn0
    refine q5k (by simp[q0m,prc,ho]) ⟨_,_,htk,.inr (.inr (.inr hnw))⟩ fun rest hr=>?_
    rw[htk,hns];exact .sName hnw hr
   ·have hnw:nmW (btL x.tx)=true:=hnm;have htk:(q0m x k.R).tk=btL x.tx::[40]::(cmk k.R++[[41]]):=by simp[q0m,q2w,ho]
    have hns:(q0m x k.R).ns=clT (btL x.tx) k.R.length::k.R.flatMap (·.ns):=by
     rw[q0m];simp only[List.cons.injEq,and_true];exact z2w ho rfl (by omega)
    refine q5k (by simp[q0m,prc,ho]) ⟨_,_,htk,.inr (.inr (.inr hnw))⟩ fun rest hr=>?_
    rw[htk,hns]
    have:=k9d (.inl rfl) k.R ihk rest
    refine .sCO hnw ?_;simpa using this
   ·have htk:(q0m x k.R).tk=[91]::(cmk k.R++[[93]]):=by simp[q0m,q2w,ho]
    have hns:(q0m x k.R).ns=lsT k.R.length::k.R.flatMap (·.ns):=by
     rw[q0m];simp only[List.cons.injEq,and_true];exact z2w ho htx (by omega)
    refine q5k (by simp[q0m,prc,ho]) ⟨_,_,htk,.inr (.inl rfl)⟩ fun rest hr=>?_
    rw[htk,hns]
    have:=k9d (.inr rfl) k.R ihk rest
    refine .sLO ?_;simpa using this
   ·obtain⟨a,b,hab⟩:=y8w (hlen.trans hk);rw[hab]at ihk⊢;exact v2a (z2w ho htx hn0) (ihk a (by simp)) (ihk b (by simp))
   ·obtain⟨a,b,hab⟩:=y8w (hlen.trans hk);rw[hab]at ihk⊢;exact v1z (z2w ho htx hn0) (ihk a (by simp)) (ihk b (by simp))
  ·exact z1a n hok.2.2 hexn t ht
theorem k9h(l:Nat)(t:Tn):(brx l t).length<=t.tx.length+2:=by
 unfold brx
 split
 ·simp
 ·omega
theorem y1k:∀ks:List Tn,(∀t∈ks,t.tx.length+4<=16*t.ns.length)->(cmx ks).length<=16*(ks.flatMap (·.ns)).length
 | [],_=>by simp[cmx]
 | [t],h=>by
  have:=h t (by simp)
  simp[cmx];omega
 | t::u::r,h=>by
  have h1:=h t (by simp);have h2:=y1k (u::r) (fun x hx=>h x (by simp[hx]));rw[cmx,List.flatMap_cons,List.length_append,List.length_append];simp only[List.length_cons];omega
theorem q2e{s:ByteArray}(h:q0z s=true):(btL s).length<=8:=by
 unfold q0z at h;simp only[Bool.and_eq_true,decide_eq_true_eq]at h;rw[q0b];exact h.1.1.2
theorem v3l:∀F:Fo,F.ok->F.exs->∀t∈F.R,t.tx.length+4<=16*t.ns.length
 | .nil,_,_,t,ht=>by cases ht
 | .cons x k n,hok,hex,t,ht=>by
  have hexk:k.exs:=fun y hy=>hex y (by simp[Fo.N,hy])
  have hexn:n.exs:=fun y hy=>hex y (by simp[Fo.N,hy])
  have ihk:=v3l k hok.2.1 hexk;rw[Fo.R]at ht;rcases List.mem_cons.1 ht with rfl|ht
  ·have hlen:k.R.length=kdT x:=by rw[q2s];exact hok.1
   have hc:=y1k k.R ihk;rcases q2j (hex x (by simp[Fo.N]))with⟨ho,htx,hn0,hn1,hk⟩|⟨ho,hnm,hn0,hk⟩|⟨ho,hnm,hn0,hn1,hk⟩|⟨ho,htx,hn0,hn1,hk⟩|⟨ho,htx,hn0,hk⟩|⟨ho,htx,hn0,hk⟩
   ·have:=z0g 5 x.n.toNat (by omega)
    simp[q0m,q3o,ho];omega
   ·have:=q2e hnm
    simp only[q0m,q3o,ho];simp at this⊢;omega
   ·have:=q2e hnm
    simp only[q0m,q3o,ho];simp at this hc⊢;omega
   ·simp only[q0m,q3o,ho];simp at hc⊢;omega
   ·obtain⟨a,b,hab⟩:=y8w (hlen.trans hk);rw[hab]at ihk⊢;have h1:=ihk a (by simp);have h2:=ihk b (by simp);have h3:=k9h 0 a;have h4:=k9h 1 b;simp[q0m,q3o,ho,two2];omega
   ·obtain⟨a,b,hab⟩:=y8w (hlen.trans hk);rw[hab]at ihk⊢;have h1:=ihk a (by simp);have h2:=ihk b (by simp);have h3:=k9h 1 a;have h4:=k9h 2 b;simp[q0m,q3o,ho,two2];omega
  ·exact v3l n hok.2.2 hexn t ht
end Go.Proofs.YthcpdohdppkmkaaGreatDoor
