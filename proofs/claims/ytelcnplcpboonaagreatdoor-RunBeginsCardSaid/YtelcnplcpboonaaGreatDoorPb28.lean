import Derived.Test.YtelcnplcpboonaaGreatDoorPb25
import Derived.Deep.RegionWith
import Derived.Lay
import Derived.LaidMore
import Derived.LaidSub
import Derived.LaidOnce
import Derived.Test.YtelcnplcpboonaaGreatDoorPb20
import Derived.Test.YtelcnplcpboonaaGreatDoorShe
import Derived.Lib.AtoiAllMem
import Derived.BigGuard
open Go.Proofs.Tryz
namespace Go.Proofs.YtelcnplcpboonaaGreatDoor
open Go Go.RowKit
def y8k:Job->List Td
 | .loop _ acc=>acc
 | .args _ _ acc=>acc
 | _=>[]
theorem v7c{w:Wd}(h:nmW w=true):(wbS w).size<=8:=by
 rw[<-q0b];exact q4a h
theorem y6i{j:Job}{ts:List Wd}{r:Rs}(h:PR j ts r):(∀x∈y8k j,x.tx.size<=8)->∀m ns u,r=.ok m ns u->∀x∈ns,x.tx.size<=8:=by
 have E:∀{a b:List Td},(∀x∈a,x.tx.size<=8)->(∀x∈b,x.tx.size<=8)->∀x∈a++b,x.tx.size<=8:=fun C hb x D=>by
  rcases List.mem_append.1 D with D|D
  ·exact C x D
  ·exact hb x D
 have B:∀{y:Td}{b:List Td},y.tx.size<=8->(∀x∈b,x.tx.size<=8)->∀x∈y::b,x.tx.size<=8:=fun hy hb x D=>by
  rcases List.mem_cons.1 D with rfl|D
  ·exact hy
  ·exact hb x D
 have A:∀x∈([]:List Td),x.tx.size<=8:=fun x D=>by cases D
 have G:(⟨#[]⟩:ByteArray).size<=8:=by decide
 induction h with
 | lev2 _ ih=>intro _ m ns u e;exact ih A m ns u e
 | levB=>intro _ m ns u e;cases e
 | levO _ _ _ ih1 ih2=>intro _ m ns u e;exact ih2 (ih1 A _ _ _ rfl) m ns u e
 | lopE=>intro C m ns u e;cases e;exact C
 | lopB=>intro _ m ns u e;cases e
 | lopO _ _ ih1 ih2=>intro C m ns u e;exact ih2 (B G (E C (ih1 A _ _ _ rfl))) m ns u e
 | sinN=>intro _ m ns u e;cases e
 | sPB=>intro _ m ns u e;cases e
 | sPC _ ih=>intro _ m ns u e;cases e;exact ih A _ _ _ rfl
 | sPX=>intro _ m ns u e;cases e
 | sLB=>intro _ m ns u e;cases e
 | sLO _ ih=>intro _ m ns u e;cases e;exact B G (ih A _ _ _ rfl)
 | sNum=>intro _ m ns u e;cases e;exact B G A
 | sName h=>intro _ m ns u e;cases e;exact B (v7c h) A
 | sCB=>intro _ m ns u e;cases e
 | sCO h _ ih=>intro _ m ns u e;cases e;exact B (v7c h) (ih A _ _ _ rfl)
 | sBad=>intro _ m ns u e;cases e
 | aEnd=>intro C m ns u e;cases e;exact C
 | aSep=>intro _ m ns u e;cases e
 | aB0=>intro _ m ns u e;cases e
 | aO0 _ _ _ ih1 ih2=>intro C m ns u e;exact ih2 (E C (ih1 A _ _ _ rfl)) m ns u e
 | aB=>intro _ m ns u e;cases e
 | aO _ _ _ ih1 ih2=>intro C m ns u e;exact ih2 (E C (ih1 A _ _ _ rfl)) m ns u e
theorem k6z{t u:List Td}(ht:q0c t=0)(hu:q0c u=0)(h:q2n t=q2n u):t=u:=by
 have A:∀{v:List Td},q0c v=0->okP 0 [v]:=fun{v}hv=>by
  refine⟨hv,?_,trivial⟩;rintro⟨_,e⟩;cases e
 have E:q2a [t]=q2a [u]:=by simp[q2a,h]
 obtain⟨B,_⟩:=k3c [t] 0 0 (A ht);obtain⟨D,_⟩:=k3c [u] 0 0 (A hu);rw[E,D]at B;have G:=z2c [t] 0 false [] (A ht) (fun h=>by cases h);have C:=z2c [u] 0 false [] (A hu) (fun h=>by cases h);rw[B]at C
 have:=q7r G C
 simp only[List.nil_append,Rp.ok.injEq,List.cons.injEq,and_true]at this;exact this
def frs:List Wd->List Wd->Nat
 | _,[]=>0
 | known,t::r=>(if t∈known then 0 else 1)+frs (known++[t]) r
theorem v6m:∀(p known:List Wd),frs known p<=p.length
 | [],_=>Nat.le_refl _
 | t::r,known=>by
  have:=v6m r (known++[t])
  rw[frs,List.length_cons]
  split<;>omega
def frP(p old:List (List Td)):Nat:=frs (old.map q2n) (p.map q2n)
theorem v6l(p A:List (List Td)):frP p A<=p.length:=by
 have:=v6m (p.map q2n) (A.map q2n)
 rwa[List.length_map]at this
theorem y4s{p:List Wd}{i:Nat}(h:i<p.length)(A:List Wd):frs (A++p.take i) (p.drop i)=(if p[i]∈A\/p[i]∈p.take i then 0 else 1)+frs (A++p.take (i+1)) (p.drop (i+1)):=by
 rw[List.drop_eq_getElem_cons h,frs,List.take_succ_eq_append_getElem h];simp only[List.mem_append,List.append_assoc]
def fdL:List UInt8->List UInt8->Nat->Int
 | [],[],_=>-1
 | [],c::_,l=>if c=10 then(l:Int)+1 else l
 | c::_,[],l=>if c=10 then(l:Int)+1 else l
 | a::r,b::s,l=>if a=b then fdL r s (if a=10 then l+1 else l)else l
theorem j3i:∀(a:List UInt8)(l:Nat),fdL a a l=-1
 | [],_=>rfl
 | a::r,l=>by rw[fdL,if_pos rfl];exact j3i r _
structure Ss where
 tx:List UInt8
 ps:List (List Td)
 wd:Nat
def erN(f:Int):List UInt8:=[69,114,114]++(if f=1 then [82,97,110,103,101]else if f=2 then [83,104,97,112,101]else if f=3 then [70,117,108,108]else if f=4 then [78,111,110,101]else [83,121,110,116,97,120])
def okA:List UInt8:=[111,107,10]
def y3g:List UInt8:=[98,97,100,10]
def erA(k f:Int):List UInt8:=erN f++(if f=5 then 32::q1u k.toNat else [])++[10]
def k8x(s:List UInt8):Bool:=decide (1<=s.length)&&decide (s.length<=4)&&s.all q2s&&(decide (s.length=1)||s.head? != some 48)
inductive Kd where
 | add (x:List UInt8)
 | wide (x:List UInt8)
 | set
 | text
 | look
 | drop
 | bad
def z4v:List UInt8:=[119,105,100,101,32]
def y3l:List UInt8:=[115,101,116]
def k9y:List UInt8:=[116,101,120,116]
def k8v:List UInt8:=[108,111,111,107]
def v1i:List UInt8:=[100,114,111,112]
def kdL(l:List UInt8):Kd:=
 if l.head?=some 43 then .add l.tail
 else if l.take 5=z4v then .wide (l.drop 5)
 else if l=y3l then .set
 else if l=k9y then .text
 else if l=k8v then .look
 else if l=v1i then .drop
 else .bad
def rl(s:List UInt8):List (List UInt8):=if(lns s).getLast (z5p s)=[]then(lns s).dropLast else lns s
def brS(t:List UInt8):List UInt8:=(rl t).flatMap fun l=>124::(l++[10])
def lkA(n:Int):List UInt8:=if n<0 then [45,49,10]else q1u n.toNat++[10]
inductive LnR (σ:Ss):Kd->List UInt8->Ss->Prop where
 | add (x:List UInt8):LnR σ (.add x) okA ⟨σ.tx++(x++[10]),σ.ps,σ.wd⟩
 | wideN {x:List UInt8} (h:k8x x=false):LnR σ (.wide x) y3g σ
 | wideR {x:List UInt8} (h:k8x x=true) (hw:¬(10<=q4m x/\q4m x<=100)):LnR σ (.wide x) (erA 0 1) σ
 | wide {x:List UInt8} (h:k8x x=true) (hw:10<=q4m x/\q4m x<=100):LnR σ (.wide x) okA ⟨σ.tx,σ.ps,q4m x⟩
 | setE {ps k f} (h:q6l (wbS σ.tx) ps k f) (hf:f≠0):LnR σ .set (erA k f) σ
 | setF {ps} (h:q6l (wbS σ.tx) ps 0 0) (hf:fmE ps≠0):LnR σ .set (erA 0 (fmE ps)) σ
 | set {ps} (h:q6l (wbS σ.tx) ps 0 0) (hf:fmE ps=0):LnR σ .set (q1u (frP ps σ.ps)++[10]) ⟨σ.tx,ps,σ.wd⟩
 | text:LnR σ .text (brS (q2j σ.wd σ.ps)++okA) σ
 | lookE {ps k f} (h:q6l (wbS σ.tx) ps k f) (hf:f≠0):LnR σ .look (erA k f) σ
 | lookF {ps} (h:q6l (wbS σ.tx) ps 0 0) (hf:fmE ps≠0):LnR σ .look (erA 0 (fmE ps)) σ
 | look {ps} (h:q6l (wbS σ.tx) ps 0 0) (hf:fmE ps=0):LnR σ .look (lkA (fdL σ.tx (q2j σ.wd ps) 0)) σ
 | drop:LnR σ .drop okA ⟨[],σ.ps,σ.wd⟩
 | bad:LnR σ .bad y3g σ
theorem y0k{σ:Ss}{l:Kd}{a b:List UInt8}{τ υ:Ss}(h:LnR σ l a τ)(h':LnR σ l b υ):a=b/\τ=υ:=by
 cases h with
 | add=>cases h';exact⟨rfl,rfl⟩
 | wideN h=>cases h' with
  | wideN=>exact⟨rfl,rfl⟩
  | wideR h1=>rw[h]at h1;cases h1
  | wide h1=>rw[h]at h1;cases h1
 | wideR h hw=>cases h' with
  | wideN h1=>rw[h]at h1;cases h1
  | wideR=>exact⟨rfl,rfl⟩
  | wide _ hw'=>exact absurd hw' hw
 | wide h hw=>cases h' with
  | wideN h1=>rw[h]at h1;cases h1
  | wideR _ hw'=>exact absurd hw hw'
  | wide=>exact⟨rfl,rfl⟩
 | setE h hf=>cases h' with
  | setE h1=>
   obtain⟨_,rfl,rfl⟩:=q0p h h1;exact⟨rfl,rfl⟩
  | setF h1=>exact absurd (q0p h h1).2.2 hf
  | set h1=>exact absurd (q0p h h1).2.2 hf
 | setF h hf=>cases h' with
  | setE h1 hf1=>exact absurd (q0p h1 h).2.2 hf1
  | setF h1=>
   obtain⟨rfl,_⟩:=q0p h h1;exact⟨rfl,rfl⟩
  | set h1 hf1=>
   obtain⟨rfl,_⟩:=q0p h h1;exact absurd hf1 hf
 | set h hf=>cases h' with
  | setE h1 hf1=>exact absurd (q0p h1 h).2.2 hf1
  | setF h1 hf1=>
   obtain⟨rfl,_⟩:=q0p h h1;exact absurd hf hf1
  | set h1=>
   obtain⟨rfl,_⟩:=q0p h h1;exact⟨rfl,rfl⟩
 | text=>cases h';exact⟨rfl,rfl⟩
 | lookE h hf=>cases h' with
  | lookE h1=>
   obtain⟨_,rfl,rfl⟩:=q0p h h1;exact⟨rfl,rfl⟩
  | lookF h1=>exact absurd (q0p h h1).2.2 hf
  | look h1=>exact absurd (q0p h h1).2.2 hf
 | lookF h hf=>cases h' with
  | lookE h1 hf1=>exact absurd (q0p h1 h).2.2 hf1
  | lookF h1=>
   obtain⟨rfl,_⟩:=q0p h h1;exact⟨rfl,rfl⟩
  | look h1 hf1=>
   obtain⟨rfl,_⟩:=q0p h h1;exact absurd hf1 hf
 | look h hf=>cases h' with
  | lookE h1 hf1=>exact absurd (q0p h1 h).2.2 hf1
  | lookF h1 hf1=>
   obtain⟨rfl,_⟩:=q0p h h1;exact absurd hf hf1
  | look h1=>
   obtain⟨rfl,_⟩:=q0p h h1;exact⟨rfl,rfl⟩
 | drop=>cases h';exact⟨rfl,rfl⟩
 | bad=>cases h';exact⟨rfl,rfl⟩
inductive RnR:Ss->List (List UInt8)->List UInt8->Ss->Prop where
 | nil (σ:Ss):RnR σ [] [] σ
 | cons {σ τ υ:Ss} {l:List UInt8} {ls:List (List UInt8)} {a b:List UInt8} (h:LnR σ (kdL l) a τ) (hr:RnR τ ls b υ):RnR σ (l::ls) (a++b) υ
theorem z7t:∀{ls:List (List UInt8)}{σ τ υ:Ss}{a b:List UInt8},RnR σ ls a τ->RnR σ ls b υ->a=b/\τ=υ
 | [],_,_,_,_,_,h,h'=>by cases h;cases h';exact⟨rfl,rfl⟩
 | _::ls,_,_,_,_,_,h,h'=>by
  cases h with
  | cons h hr=>cases h' with
   | cons h1 hr1=>
    obtain⟨rfl,rfl⟩:=y0k h h1;obtain⟨rfl,rfl⟩:=z7t hr hr1;exact⟨rfl,rfl⟩
theorem k6v:∀{ls:List (List UInt8)}{σ τ υ:Ss}{l a b:List UInt8},RnR σ ls a τ->LnR τ (kdL l) b υ->RnR σ (ls++[l]) (a++b) υ
 | [],_,_,_,_,_,b,h,h'=>by
  cases h
  have:=RnR.cons h' (RnR.nil _)
  simpa using this
 | _::ls,_,_,_,_,_,_,h,h'=>by
  cases h with
  | cons h hr=>
   rw[List.append_assoc];exact .cons h (k6v hr h')
theorem j7i:∀{ls ms:List (List UInt8)}{σ τ:Ss}{a:List UInt8},RnR σ (ls++ms) a τ->∃b c υ,a=b++c/\RnR σ ls b υ/\RnR υ ms c τ
 | [],_,σ,_,a,h=>⟨[],a,σ,rfl,.nil σ,h⟩
 | _::ls,ms,_,_,_,h=>by
  cases h with
  | cons h hr=>
   obtain⟨b,c,υ,rfl,h1,h2⟩:=j7i (ls:=ls) (ms:=ms) hr;exact⟨_,c,υ,(List.append_assoc _ _ _).symm,.cons h h1,h2⟩
def lnF(A:List (List UInt8)):List UInt8:=A.flatMap fun l=>l++[10]
theorem y0j:lnF []=[]:=rfl
theorem q3z(l:List UInt8)(A:List (List UInt8)):lnF (l::A)=l++10::lnF A:=by simp[lnF]
theorem z7f(A:List (List UInt8))(l:List UInt8):lnF (A++[l])=lnF A++(l++[10]):=by simp[lnF]
theorem j5l:∀(A:List (List UInt8))(r:List UInt8),(∀l∈A,(10:UInt8)∉l)->lns (lnF A++r)=A++lns r
 | [],r,_=>rfl
 | l::A,r,h=>by
  rw[q3z,List.append_assoc,List.cons_append,z0p,z3g l (h l (by simp)),j5l A r fun x hx=>h x (by simp[hx])];rfl
theorem k6r{A:List (List UInt8)}(r:List UInt8)(h:∀l∈A,(10:UInt8)∉l):rl (lnF A++r)=A++rl r:=by
 have e:=j5l A r h;have B:=z5p r;unfold rl
 have C:(lns (lnF A++r)).getLast (z5p _)=(lns r).getLast B:=by
  simp only[e];rw[List.getLast_append_of_ne_nil _ B]
 rw[C,e]
 split
 ·rw[List.dropLast_append_of_ne_nil B]
 ·rfl
theorem k6s:rl []=[]:=rfl
theorem y6l{A:List (List UInt8)}(h:∀l∈A,(10:UInt8)∉l):rl (lnF A)=A:=by
 have:=k6r [] h
 simpa[k6s]using this
theorem v7i{r:List UInt8}(h:(10:UInt8)∉r)(hr:r≠[]):rl r=[r]:=by
 unfold rl;simp only[z3g r h];rw[if_neg (by simpa using hr)]
theorem y6j{A:List (List UInt8)}{r:List UInt8}(h:∀l∈A,(10:UInt8)∉l)(h':(10:UInt8)∉r):rl (lnF A++r)=A++if r=[]then []else [r]:=by
 rw[k6r r h]
 split
 ·rename_i e;rw[e,k6s]
 ·rename_i e;rw[v7i h' e]
theorem v6t:∀s:List UInt8,∃A r,s=lnF A++r/\(∀l∈A,(10:UInt8)∉l)/\(10:UInt8)∉r
 | []=>⟨[],[],rfl,by simp,by simp⟩
 | c::s=>by
  obtain⟨A,r,e,h1,h2⟩:=v6t s;by_cases hc:c=10
  ·refine⟨[]::A,r,?_,?_,h2⟩
   ·rw[q3z,e,hc];rfl
   ·intro l hl;rcases List.mem_cons.1 hl with rfl|hl
    ·simp
    ·exact h1 l hl
  ·cases A with
   | nil=>
    refine⟨[],c::r,?_,by simp,?_⟩
    ·rw[e];rfl
    ·simp only[List.mem_cons,not_or];exact⟨fun q=>hc q.symm,h2⟩
   | cons l A=>
    refine⟨(c::l)::A,r,?_,?_,h2⟩
    ·rw[e,q3z,q3z];rfl
    ·intro x hx;rcases List.mem_cons.1 hx with rfl|hx
     ·have:=h1 l (by simp)
      simp only[List.mem_cons,not_or];exact⟨fun q=>hc q.symm,this⟩
     ·exact h1 x (by simp[hx])
theorem j7g{σ τ υ:Ss}{A:List (List UInt8)}{r a b:List UInt8}(h:∀l∈A,(10:UInt8)∉l)(h1:RnR σ (rl (lnF A++r)) a τ)(h2:RnR σ (rl (lnF A)) b υ):∃c,a=b++c:=by
 rw[k6r r h]at h1;rw[y6l h]at h2;obtain⟨C,c,υ',e,B,_⟩:=j7i h1;obtain⟨rfl,_⟩:=z7t h2 B;exact⟨c,e⟩
set_option maxRecDepth 100000
theorem v0c{f:Int}(h:f=1\/f=2\/f=3\/f=4\/f=5)(w:World):Calls prog 28 #[.int .i64 f] w fun e w'=>e=.returned (.string (wbS (erN f)))/\w=w':=by
 rcases h with rfl|rfl|rfl|rfl|rfl
 all_goals
  go_in;go_wp2;go_ret;exact⟨rfl,rfl⟩
theorem j3h(f:Int):(erN f).length<=20:=by
 unfold erN;simp only[List.length_append]
 split<;>(try split)<;>(try split)<;>(try split)<;>decide
theorem v9i{c:UInt8}:q2s c=true↔48<=c.toNat/\c.toNat<=57:=by
 unfold q2s;simp only[Bool.and_eq_true,decide_eq_true_eq]
theorem j6i:∀(k:Nat)(l:List UInt8),l.length=k->l.all q2s=true->q4m l+1<=10 ^ k
 | 0,l,h,_=>by
  rw[List.eq_nil_of_length_eq_zero h];decide
 | k+1,l,h,ha=>by
  have hne:l≠[]:=fun e=>by rw[e]at h;cases h
  have e:=List.dropLast_concat_getLast hne;have hl:l.dropLast.length=k:=by rw[List.length_dropLast,h];rfl
  generalize l.dropLast=d at e hl;generalize l.getLast hne=c at e;subst e;rw[List.all_append,Bool.and_eq_true]at ha;have A:=j6i k d hl ha.1;have B:=v9i.1 (by simpa using ha.2);rw[z3l,Nat.pow_succ];omega
theorem v2c{l:ByteArray}(h:0<l.size)(h0:l[0]=43):kdL (btL l)=.add (btL l).tail:=by
 have e:(btL l).head?=some 43:=by
  rw[List.head?_eq_getElem?,List.getElem?_eq_getElem (by rw[q0b];exact h)];exact congrArg some h0
 rw[kdL,if_pos e]
theorem v1m(l:ByteArray):l.extract 1 l.size=wbS (btL l).tail:=by
 apply ByteArray.ext;apply Array.ext';rw[Lib.extract_to_end];simp[wbS,btL]
theorem v2d:kdL v1i=.drop:=by rw[kdL,if_neg (by decide),if_neg (by decide),if_neg (by decide),if_neg (by decide),if_neg (by decide),if_pos rfl]
theorem v9u{l:List UInt8}(h:kdL l=.bad):l.head?≠some 43/\l.take 5≠z4v/\l≠y3l/\l≠k9y/\l≠k8v/\l≠v1i:=by
 unfold kdL at h
 split at h
 ·cases h
 ·split at h
  ·cases h
  ·split at h
   ·cases h
   ·split at h
    ·cases h
    ·split at h
     ·cases h
     ·split at h
      ·cases h
      ·rename_i h1 h2 h3 h4 h5 h6;exact⟨h1,h2,h3,h4,h5,h6⟩
theorem z0s{l:ByteArray}{u:List UInt8}(h:btL l≠u):(l.toList==u)=false:=by
 rw[ByteArray.toList_eq];simpa[btL]using h
end Go.Proofs.YtelcnplcpboonaaGreatDoor
namespace Go.Proofs.YtelcnplcpboonaaGreatDoor
open Go.ChangeShapes Go.WideShapes Go.RowKit
set_option maxRecDepth 100000
def v4n : List (String × DataW Unit) := [("math/bits.deBruijn32tab", Rows.laid_math_bits_deBruijn32tab), ("math/bits.deBruijn64tab", Rows.laid_math_bits_deBruijn64tab), ("internal/strconv.uint64pow10", Rows.laid_internal_strconv_uint64pow10), ("unicode/utf8.acceptRanges", Rows.laid_unicode_utf8_acceptRanges), ("strconv.ErrRange", Rows.laid_strconv_ErrRange), ("strconv.ErrSyntax", Rows.laid_strconv_ErrSyntax), ("unicode.White_Space", Rows.laid_unicode_White_Space), ("strings.asciiSpace", Rows.laid_strings_asciiSpace), ("unicode/utf8.first", Rows.laid_unicode_utf8_first)]
abbrev v4o : List (String × DataW Unit) := [("math/bits.deBruijn32tab", Rows.laid_math_bits_deBruijn32tab), ("math/bits.deBruijn64tab", Rows.laid_math_bits_deBruijn64tab), ("internal/strconv.uint64pow10", Rows.laid_internal_strconv_uint64pow10), ("unicode/utf8.acceptRanges", Rows.laid_unicode_utf8_acceptRanges), ("errors.errorType", Rows.laid_errors_errorType), ("strconv.ErrRange", Rows.laid_strconv_ErrRange), ("strconv.ErrSyntax", Rows.laid_strconv_ErrSyntax), ("unicode.White_Space", Rows.laid_unicode_White_Space), ("strings.asciiSpace", Rows.laid_strings_asciiSpace), ("unicode/utf8.first", Rows.laid_unicode_utf8_first)]
def q9l(P:Program)(os:Os):World:=(z9m P os).layVars P v4n
theorem v4p(os:Os)(args:Array Value):laidMet prog v4n ((q9l prog os).forCall (fun _ _=>0) ⟨#[],args,[]⟩).memory:=by
 have A:(v4n.filter fun x=>(v4n.map (·.1)).contains x.1)=v4n:=List.filter_eq_self.2 fun x hx=>List.contains_iff_mem.2 (List.mem_map.2 ⟨x,hx,rfl⟩)
 have B:(v4n.filter fun x=>!(v4n.map (·.1)).contains x.1)=[]:=List.filter_eq_nil_iff.2 fun x hx=>by rw[List.contains_iff_mem.2 (List.mem_map.2 ⟨x,hx,rfl⟩)];simp
 have h:laidMet prog v4n (q9l prog os):=laidMet_layVars (w0:=z9m prog os) (v4n.map (·.1)) [] (by rw[A];rfl) (by rw[A];kernel_rfl) (by rw[A];kernel_rfl) (by rw[B];exact LaidIn.none);exact h.of_heap (by simp[World.memory,World.forCall,Input.heap])
theorem j7u(os:Os)(args:Array Value):((q9l prog os).forCall (fun _ _=>0) ⟨#[],args,[]⟩).Shaped prog:=World.shaped_of_ZipB (by kernel_rfl) (by kernel_rfl)
theorem y2q(os:Os)(args:Array Value):laidMetH prog v4o ((q9l prog os).forCall (fun _ _=>0) ⟨#[],args,[]⟩).memory:=
 laidMetH_of_parts (v4p os args) (by kernel_rfl)
theorem k9u{W:World}(h:laidMetH prog v4o W):Hnd W:=by
 have h1 := h.filter (fun x => x.1 == "errors.errorType")
 have e : (v4o.filter fun x => x.1 == "errors.errorType") = v9y := by rfl
 rw[e]at h1;exact z4n h1
theorem v4q{W:World}(h:laidMetH prog v4o W):q7n W:=by
 have h0:=(laidMetH_iff.1 h).1;refine⟨?_,?_⟩
 ·have h1 := h0.filter (fun x => x.1 == "internal/strconv.uint64pow10")
  have e : ((v4o.filter fun x => x.2.handleName?.isNone).filter fun x => x.1 == "internal/strconv.uint64pow10") = [("internal/strconv.uint64pow10", Lib.tabData .u64 Lib.pow10Tab)] := by kernel_rfl
  rw[e]at h1;exact Lib.tabIs_of_head (g:=4) (t:=253) (e:=205) (n:=20) (by kernel_rfl) (by kernel_rfl) (by kernel_rfl) (by kernel_rfl) (by kernel_rfl) (by kernel_rfl) h1
 ·have h1 := h0.filter (fun x => x.1 == "strings.asciiSpace")
  have e : ((v4o.filter fun x => x.2.handleName?.isNone).filter fun x => x.1 == "strings.asciiSpace") = [("strings.asciiSpace", Lib.tabData .u8 Lib.asciiSpaceTab)] := by kernel_rfl
  rw[e]at h1;exact Lib.tabIs_of_head (g:=5) (t:=292) (e:=5) (n:=256) (by kernel_rfl) (by kernel_rfl) (by kernel_rfl) (by kernel_rfl) (by kernel_rfl) (by kernel_rfl) h1
end Go.Proofs.YtelcnplcpboonaaGreatDoor
namespace Go.Proofs.YtelcnplcpboonaaGreatDoor
open Go Go.RowKit
theorem j5r:∀(n:Nat)(s:List UInt8)(i k:Nat),s.length<=n->lxF s i=some k->k<=i+s.length
 | 0,s,i,k,h,hk=>by
  have:s=[]:=List.eq_nil_of_length_eq_zero (by omega)
  subst this;rw[lxF,q7q]at hk;cases hk
 | n+1,[],i,k,h,hk=>by
  rw[lxF,q7q]at hk;cases hk
 | n+1,c::r,i,k,h,hk=>by
  simp only[List.length_cons]at h⊢;cases hs:spB c with
  | true=>
   rw[lxF,z7h r i hs]at hk
   have:=j5r n r (i+1) k (by omega) hk
   omega
  | false=>
   cases ho:q4o (c::r)with
   | false=>
    rw[lxF,z9w i hs ho]at hk
    have:i=k:=Option.some.inj hk
    omega
   | true=>
    have hp:=q3n c r;have hle:=q7k (c::r);rw[lxF,z3h i hs ho]at hk
    have:=j5r n ((c::r).drop (q0m (c::r))) (i+q0m (c::r)) k (by simp only[List.length_drop,List.length_cons];omega) hk
    simp only[List.length_drop,List.length_cons]at this hle;omega
theorem y0f(s:List UInt8):z7d s<=s.length:=by
 unfold z7d
 split
 ·cases h:lxF s 0 with
  | none=>exact Nat.zero_le _
  | some k=>
   have:=j5r _ s 0 k Zl h
   simpa using this
 ·exact Nat.zero_le _
theorem v3t(s:ByteArray)(u:List Wd):y2g s u<=s.size:=by
 unfold y2g;cases h:(z5t (btL s))[(q2x (btL s)).length-u.length]? with
 | none=>exact Nat.le_refl _
 | some k=>
  obtain⟨A,rfl⟩:=List.getElem?_eq_some_iff.1 h
  have:=(y7o (btL s) _ (Nat.lt_of_lt_of_eq A (k7i _).symm) A).1
  rw[q0b]at this
  show(z5t (btL s))[_]<=s.size
  omega
def Ern(f:Int):Prop:=f=1\/f=2\/f=3\/f=4\/f=5
theorem v3e(x:Td):q0l x=0\/Ern (q0l x):=by
 unfold q0l q3k q1h Ern
 split
 ·exact .inr (.inl rfl)
 ·split
  ·exact .inr (.inl rfl)
  ·split
   ·exact .inr (.inr (.inl rfl))
   ·split
    ·split
     ·exact .inr (by decide)
     ·split
      ·exact .inl rfl
      ·exact .inr (by decide)
    ·split
     ·exact .inr (by decide)
     ·exact .inl rfl
theorem k5k:∀ds:List Td,k8m ds=0\/Ern (k8m ds)
 | []=>.inl rfl
 | x::r=>by
  rw[k8m]
  split
  ·exact k5k r
  ·exact v3e x
theorem j8i(t:List Td):q0c t=0\/Ern (q0c t):=by
 unfold q0c
 split
 ·exact .inr (by unfold Ern;decide)
 ·split
  ·exact k5k t
  ·split
   ·exact .inl rfl
   ·exact .inr (by unfold Ern;decide)
theorem k0j:∀(ps:List (List Td))(prev:Int)(k:Nat),(q4i prev k ps).2=0\/Ern (q4i prev k ps).2
 | [],_,_=>.inl rfl
 | t::r,prev,k=>by
  rw[q4i]
  split
  ·exact j8i t
  ·split
   ·exact .inr (.inr (.inl rfl))
   ·exact k0j r _ _
theorem j7a(ps:List (List Td)):(q0o ps).2=0\/Ern (q0o ps).2:=by
 unfold q0o
 split
 ·exact .inr (by unfold Ern;decide)
 ·exact k0j ps 0 0
theorem v2m(s:List UInt8):q6h s=0\/Ern (q6h s):=by
 unfold q6h Ern
 split
 ·exact .inr (by decide)
 ·split
  ·exact .inr (by decide)
  ·split
   ·exact .inr (by decide)
   ·exact .inl rfl
theorem j6q{s:ByteArray}{ps:List (List Td)}{k f:Int}(h:q6l s ps k f)(hf:f≠0):Ern f/\∃n:Nat,k=(n:Int)/\n<=s.size:=by
 cases h with
 | lex h1=>exact⟨(v2m _).resolve_left h1,_,rfl,by have:=y0f (btL s);rwa[q0b]at this⟩
 | bad _ _=>exact⟨by unfold Ern;decide,_,rfl,v3t s _⟩
 | full _ _ h1=>exact⟨(j7a _).resolve_left h1,0,rfl,Nat.zero_le _⟩
 | ok=>exact absurd rfl hf
theorem y6f(t:List Td):pgE t=0\/pgE t=3:=by
 unfold pgE
 split
 ·exact .inl rfl
 ·split
  ·exact .inr rfl
  ·exact .inl rfl
theorem v6i:∀ps:List (List Td),fmE ps=0\/fmE ps=3
 | []=>.inl rfl
 | t::r=>by
  rcases y6f t with h|h
  ·rw[q5p h];exact v6i r
  ·right;rw[z6x (by rw[h];decide),h]
theorem v9x{l:List UInt8}(h0:l.head?≠some 43)(h:l.take 5=z4v):kdL l=.wide (l.drop 5):=by rw[kdL,if_neg h0,if_pos h]
theorem v1l(l:ByteArray)(k:Nat):btL (l.extract k l.size)=(btL l).drop k:=by
 show(l.extract k l.size).data.toList=l.data.toList.drop k
 rw[Lib.extract_to_end]
theorem j3f{l:ByteArray}{u:List UInt8}(h:btL l=u):(l.toList==u)=true:=by
 rw[ByteArray.toList_eq];simpa[btL]using h
theorem v9v:kdL y3l=.set:=by rw[kdL,if_neg (by decide),if_neg (by decide),if_pos rfl]
theorem v2e:kdL k8v=.look:=by rw[kdL,if_neg (by decide),if_neg (by decide),if_neg (by decide),if_neg (by decide),if_pos rfl]
theorem v6g:∀(a b:List UInt8)(l:Nat),fdL a b l<=(l:Int)+a.length+1
 | [],[],l=>by rw[fdL];omega
 | [],c::_,l=>by rw[fdL];split<;>simp<;>omega
 | c::_,[],l=>by rw[fdL];split<;>simp<;>omega
 | x::a,y::b,l=>by
  rw[fdL]
  split
  ·have:=v6g a b (if x=10 then l+1 else l)
   have h2:(if x=10 then l+1 else l)<=l+1:=by split<;>omega
   generalize(if x=10 then l+1 else l)=z at this h2⊢
   simp only[List.length_cons];omega
  ·simp only[List.length_cons];omega
theorem v6f:∀(a b:List UInt8)(l:Nat),-1<=fdL a b l
 | [],[],l=>by rw[fdL];omega
 | [],c::_,l=>by rw[fdL];split<;>omega
 | c::_,[],l=>by rw[fdL];split<;>omega
 | x::a,y::b,l=>by
  rw[fdL]
  split
  ·exact v6f a b _
  ·omega
set_option maxRecDepth 100000
set_option maxHeartbeats 2000000
def ErV(g:Nat)(w:World):Prop:=∃t p,w.cell? ⟨g,0,none⟩=some (.iface t p)
theorem ErV.W{g:Nat}{w w':World}(h:ErV g w)(hb:Below w w w'):ErV g w':=by
 obtain⟨t,p,h⟩:=h;exact⟨t,p,(hb.cell (p:=⟨g,0,none⟩) (World.block_lt_of_cell? _ _ h)).trans h⟩
structure Rtb(w:World):Prop where
 tabs:q7n w
 hnd:Hnd w
 syn:ErV 2 w
 ran:ErV 3 w
theorem Rtb.W{w w':World}(h:Rtb w)(hb:Below w w w'):Rtb w':=⟨h.tabs.W hb,h.hnd.W hb,h.syn.W hb,h.ran.W hb⟩
abbrev j9z(ans:List UInt8):PanicEntry:={v:=.iface 66 (.agg #[.string (wbS ans)]),recovered:=false}
theorem k4y(s p:ByteArray)(h1:p.size<=s.size)(h2:((s.extract 0 p.size).toList==p.toList)=true)(w:World):
  Calls prog 41 #[.string s,.string p] w fun e w'=>e=.returned (.tuple #[.string (s.extract p.size s.size),.bool true])/\w=w':=by
 have C:(p.size:Int)<=(s.size:Int):=by omega
 have A:Hid (Calls prog 78 #[.string s,.string p] w fun e w'=>e=.returned (.bool true)/\w=w'):=by
  show Calls _ _ _ _ _;go_in;go_wp2;go_ret;exact⟨rfl,rfl⟩
 have B:Hid (Calls prog 57 #[.string s,.string p] w fun e w'=>e=.returned (.tuple #[.string (s.extract p.size s.size),.bool true])/\w=w'):=by
  clear h2;show Calls _ _ _ _ _;go_in;go_wp2_with fail;refine A.o.mono ?_;rintro e D⟨rfl,rfl⟩;go_wp2;go_ret2;exact⟨rfl,rfl⟩
 clear h1 h2 C A;go_in;go_wp2_with fail;refine B.o.mono ?_;rintro e D⟨rfl,rfl⟩;go_wp2;go_ret2;exact⟨rfl,rfl⟩
theorem j2r(s p:ByteArray)(h:s.size<p.size\/p.size<=s.size/\((s.extract 0 p.size).toList==p.toList)=false)(w:World):
  Calls prog 41 #[.string s,.string p] w fun e w'=>e=.returned (.tuple #[.string s,.bool false])/\w=w':=by
 have A:Hid (Calls prog 78 #[.string s,.string p] w fun e w'=>e=.returned (.bool false)/\w=w'):=by
  rcases h with h|⟨E,G⟩
  ·have C:¬(p.size:Int)<=(s.size:Int):=by omega
   show Calls _ _ _ _ _;go_in;go_wp2;go_ret;exact⟨rfl,rfl⟩
  ·have C:(p.size:Int)<=(s.size:Int):=by omega
   show Calls _ _ _ _ _;go_in;go_wp2;go_ret;exact⟨rfl,rfl⟩
 have B:Hid (Calls prog 57 #[.string s,.string p] w fun e w'=>e=.returned (.tuple #[.string s,.bool false])/\w=w'):=by
  clear h;show Calls _ _ _ _ _;go_in;go_wp2_with fail;refine A.o.mono ?_;rintro e D⟨rfl,rfl⟩;go_wp2;go_ret2;exact⟨rfl,rfl⟩
 clear h A;go_in;go_wp2_with fail;refine B.o.mono ?_;rintro e D⟨rfl,rfl⟩;go_wp2;go_ret2;exact⟨rfl,rfl⟩
theorem j4g(n:Int)(h0:-1<=n)(h1:n<=999999999)(w:World)(ht:z4x w):Calls prog 62 #[.int .i64 n] w fun e w'=>e=.returned (.string (wbS (if n<0 then [45,49]else q1u n.toNat)))/\Below w w w':=by
 refine(itoa_sh n (by omega) (by omega) w ht).mono ?_;rintro e w'⟨rfl,k,C,rfl⟩;refine⟨?_,Lib.below_grow _ _ Zl _ _⟩;by_cases A:n<0
 ·obtain rfl:n=-1:=by omega
  rw[if_pos A,Lib.itoa,if_pos A];have B:q1u 1=[49]:=by rw[q1u,dif_pos (by decide)];rfl
  rw[show((-1:Int)).natAbs=1 from rfl,k2g,B];rfl
 ·rw[if_neg A,Lib.itoa,if_neg A,k2g];rfl
theorem k9k{f:Int}(h:Ern f)(k:Nat)(hk:k<=999999)(w:World)(ht:Rtb w):Calls prog 58 #[.int .i64 (k:Int),q0s f] w fun e w'=>e=.returned (.string (wbS (erA k f)))/\Below w w w':=by
 have I:Hid (Calls prog 79 #[q0s f] w fun e w'=>e=.returned (.int .i64 f)/\Below w w w'):=v4x f w ht.hnd;have H:Hid (∀W,Calls prog 28 #[.int .i64 f] W fun e w'=>e=.returned (.string (wbS (erN f)))/\W=w'):=fun W=>v0c h W
 have L:Hid (∀W,Below w w W->Calls prog 62 #[.int .i64 (k:Int)] W fun e w'=>e=.returned (.string (wbS (q1u k)))/\Below W W w'):=fun W hW=>q8w k (by omega) (by omega) W (ht.W hW).tabs.pow
 have N:=j3h f;have U:(wbS (erN f)).size<=20:=by rw[q4w];exact N
 have G:f≠0:=by rcases h with rfl|rfl|rfl|rfl|rfl<;>decide
 have S:(wbS (q1u k)).size<=6:=by
  rw[q4w];exact q3f 5 k (by omega)
 by_cases J:f=5
 ·subst J
  have B:Hid (wbS (erN 5)++(⟨#[32]⟩:ByteArray)++wbS (q1u k)++(⟨#[10]⟩:ByteArray)=wbS (erA k 5)):=by
   show _=_;have V:(⟨#[32]⟩:ByteArray)=wbS [32]:=rfl;have M:(⟨#[10]⟩:ByteArray)=wbS [10]:=rfl;rw[V,M,q2f,q2f,q2f,erA,if_pos rfl,Int.toNat_natCast];simp
  generalize wbS (erA k 5)=R at B⊢;generalize wbS (erN 5)=E at H B U;generalize wbS (q1u k)=D at L B S;generalize q0s 5=EV at I⊢;clear h N hk G ht;go_in;go_wp2_with fail;refine I.o.mono ?_;rintro e O⟨rfl,C⟩;have A:Hid (Below w w O):=C;clear C;go_wp2_with fail;refine(H.o _).mono ?_;rintro e P⟨rfl,rfl⟩;go_wp2_with fail;refine(L.o _ A.o).mono ?_;rintro e P⟨rfl,Q⟩;have K:Hid (Below w w P):=q0g A.o Zl Q;clear Q;go_wp2;go_ret;exact⟨by rw[<-B.o];rfl,K.o⟩
 ·have X:(f==5)=false:=by simpa using J
  have B:Hid (wbS (erN f)++(⟨#[10]⟩:ByteArray)=wbS (erA k f)):=by
   show _=_;have M:(⟨#[10]⟩:ByteArray)=wbS [10]:=rfl;rw[M,q2f,erA,if_neg J];simp
  generalize wbS (erA k f)=R at B⊢;generalize wbS (erN f)=E at H B U;generalize q0s f=EV at I⊢;clear h N hk J G ht S L;go_in;go_wp2_with fail;refine I.o.mono ?_;rintro e O⟨rfl,C⟩;have A:Hid (Below w w O):=C;clear C;go_wp2_with fail;refine(H.o _).mono ?_;rintro e P⟨rfl,rfl⟩;go_wp2;go_ret;exact⟨by rw[<-B.o];rfl,A.o⟩
theorem k6u(k:Int)(w:World):Calls prog 42 #[.int .i64 k,.nilIface] w fun e w'=>e=.returned (.tuple #[])/\w=w':=by
 go_in;go_wp2
 go_end0
 exact⟨rfl,rfl⟩
theorem k6t{f:Int}(h:Ern f)(k:Nat)(hk:k<=999999)(w:World)(ht:Rtb w):Calls prog 42 #[.int .i64 (k:Int),q0s f] w fun e w'=>e=.panicked [j9z (erA k f)]/\Below w w w':=by
 have B:Hid (Calls prog 58 #[.int .i64 (k:Int),q0s f] w fun e w'=>e=.returned (.string (wbS (erA k f)))/\Below w w w'):=k9k h k hk w ht;have A:f≠0:=by rcases h with rfl|rfl|rfl|rfl|rfl<;>decide
 rw[q0h A]at B⊢;clear h hk ht A;generalize erA (k:Int) f=E at B⊢;go_in;go_wp2_with fail;refine B.o.mono ?_;rintro e D⟨rfl,C⟩;go_wp2;exact⟨rfl,rfl,C⟩
theorem k0l(n k:Int)(h0:-1<=n)(h1:n<=999999999)(w:World)(ht:Rtb w):Calls prog 45 #[.int .i64 n,.int .i64 k,.nilIface] w fun e w'=>e=.returned (.string (wbS (lkA n)))/\Below w w w':=by
 have C:Hid (Calls prog 42 #[.int .i64 k,.nilIface] w fun e w'=>e=.returned (.tuple #[])/\w=w'):=k6u k w;have B:Hid (Calls prog 62 #[.int .i64 n] w fun e w'=>e=.returned (.string (wbS (if n<0 then [45,49]else q1u n.toNat)))/\Below w w w'):=j4g n h0 h1 w ht.tabs.pow
 have A:Hid (wbS (if n<0 then [45,49]else q1u n.toNat)++(⟨#[10]⟩:ByteArray)=wbS (lkA n)):=by
  show _=_;rw[show(⟨#[10]⟩:ByteArray)=wbS [10]from rfl,q2f,lkA]
  split<;>rfl
 have G:(wbS (if n<0 then [45,49]else q1u n.toNat)).size<=10:=by
  rw[q4w]
  split
  ·decide
  ·exact q3f 9 _ (by omega)
 generalize wbS (lkA n)=R at A⊢;generalize wbS (if n<0 then [45,49]else q1u n.toNat)=D at B A G;clear ht h0 h1;go_in;go_wp2_with fail;refine C.o.mono ?_;rintro e H⟨rfl,rfl⟩;go_wp2_with fail;refine B.o.mono ?_;rintro e H⟨rfl,E⟩;go_wp2;go_ret;exact⟨by rw[<-A.o];rfl,E⟩
theorem k0k{f:Int}(h:Ern f)(n:Int)(k:Nat)(hk:k<=999999)(w:World)(ht:Rtb w):Calls prog 45 #[.int .i64 n,.int .i64 (k:Int),q0s f] w fun e w'=>e=.panicked [j9z (erA k f)]/\Below w w w':=by
 have A:Hid (Calls prog 42 #[.int .i64 (k:Int),q0s f] w fun e w'=>e=.panicked [j9z (erA k f)]/\Below w w w'):=k6t h k hk w ht;generalize q0s f=EV at A⊢;generalize erA (k:Int) f=E at A⊢;clear h hk ht;go_in;go_wp2_with fail;refine A.o.mono ?_;rintro e C⟨rfl,B⟩;go_wp2;exact⟨rfl,rfl,B⟩
theorem v2f:kdL k9y=.text:=by rw[kdL,if_neg (by decide),if_neg (by decide),if_neg (by decide),if_pos rfl]
def brL(A:List (List UInt8)):List UInt8:=A.flatMap fun l=>124::(l++[10])
theorem v0q(A:List (List UInt8))(r:List UInt8):brL (A++[r])=brL A++(124::(r++[10])):=by simp[brL]
theorem k1y:∀A:List (List UInt8),(brL A).length<=2*(lnF A).length
 | []=>Nat.le_refl _
 | l::A=>by
  have:=k1y A
  have e:brL (l::A)=124::(l++[10])++brL A:=by simp[brL]
  rw[e,q3z];simp only[List.length_append,List.length_cons,List.length_nil];omega
end Go.Proofs.YtelcnplcpboonaaGreatDoor
