import Derived.Test.YtfdppahhbpfnoaaGreatDoorPb33
import Derived.Test.YtfdppahhbpfnoaaGreatDoorPb34
open Go.Proofs.Tryz
namespace Go.Proofs.YtfdppahhbpfnoaaGreatDoor
open Go Go.RowKit
def y9r:Job->List Td
 | .loop _ acc=>acc
 | .args _ _ acc=>acc
 | _=>[]
theorem v8l{w:Wd}(h:nmW w=true):(wbS w).size<=8:=by
 rw[<-q0c];exact q1q h
theorem y7m{j:Job}{ts:List Wd}{r:Rs}(h:PR j ts r):(∀x∈y9r j,x.tx.size<=8)->∀m ns u,r=.ok m ns u->∀x∈ns,x.tx.size<=8:=by
 have E:∀{a b:List Td},(∀x∈a,x.tx.size<=8)->(∀x∈b,x.tx.size<=8)->∀x∈a++b,x.tx.size<=8:=fun C hb x D=>by
  rcases List.mem_append.1 D with D|D
  ·exact C x D
  ·exact hb x D
 have B:∀{y:Td}{b:List Td},y.tx.size<=8->(∀x∈b,x.tx.size<=8)->∀x∈y::b,x.tx.size<=8:=fun hy hb x D=>by
  rcases List.mem_cons.1 D with rfl|D
  ·exact hy
  ·exact hb x D
 have A:∀x∈([]:List Td),x.tx.size<=8:=fun x D=>by cases D
 have G:(⟨#[]⟩:ByteArray).size<=8:=by decide
 induction h with
 | lev2 _ ih=>intro _ m ns u e;exact ih A m ns u e
 | levB=>intro _ m ns u e;cases e
 | levO _ _ _ ih1 ih2=>intro _ m ns u e;exact ih2 (ih1 A _ _ _ rfl) m ns u e
 | lopE=>intro C m ns u e;cases e;exact C
 | lopB=>intro _ m ns u e;cases e
 | lopO _ _ ih1 ih2=>intro C m ns u e;exact ih2 (B G (E C (ih1 A _ _ _ rfl))) m ns u e
 | sinN=>intro _ m ns u e;cases e
 | sPB=>intro _ m ns u e;cases e
 | sPC _ ih=>intro _ m ns u e;cases e;exact ih A _ _ _ rfl
 | sPX=>intro _ m ns u e;cases e
 | sLB=>intro _ m ns u e;cases e
 | sLO _ ih=>intro _ m ns u e;cases e;exact B G (ih A _ _ _ rfl)
 | sNum=>intro _ m ns u e;cases e;exact B G A
 | sName h=>intro _ m ns u e;cases e;exact B (v8l h) A
 | sCB=>intro _ m ns u e;cases e
 | sCO h _ ih=>intro _ m ns u e;cases e;exact B (v8l h) (ih A _ _ _ rfl)
 | sBad=>intro _ m ns u e;cases e
 | aEnd=>intro C m ns u e;cases e;exact C
 | aSep=>intro _ m ns u e;cases e
 | aB0=>intro _ m ns u e;cases e
 | aO0 _ _ _ ih1 ih2=>intro C m ns u e;exact ih2 (E C (ih1 A _ _ _ rfl)) m ns u e
 | aB=>intro _ m ns u e;cases e
 | aO _ _ _ ih1 ih2=>intro C m ns u e;exact ih2 (E C (ih1 A _ _ _ rfl)) m ns u e
set_option maxRecDepth 100000
set_option maxHeartbeats 2000000
theorem Td.ext2{x y:Td}(h1:x.op=y.op)(h2:x.tx=y.tx)(h3:x.n=y.n):x=y:=by
 cases x;cases y;simp_all
theorem j0b{s t:ByteArray}(h:s.data.toList=t.data.toList):s=t:=by
 apply ByteArray.ext;exact Array.toList_inj.1 h
theorem z2z{w:World}{a:Option Addr}{ds:List Td}(h:Tds w a ds)(q:Nat):Tds (w.drewN q) a ds:=h
theorem z6v(ds es:List Td)(a o:Option Addr)(cap N:Nat)(hl:ds.length<=4611686018427387904)(r:Bool)(hr:r=true↔ds=es)(w:World)(hN:Tds w a ds)(hM:Tds w o es):
  Calls prog 43 #[.slice a ds.length cap,.slice o es.length N] w fun e w'=>e=.returned (.bool r)/\∃q,w'=w.drewN q:=by
 have c:Hid (Tds w a ds):=hN;have Z:Hid (Tds w o es):=hM
 have K:Hid (ds≠es->r=false):=fun h=>by
  cases r with
  | false=>rfl
  | true=>exact absurd (hr.1 rfl) h
 have L:Hid (ds=es->r=true):=hr.2;clear hN hM hr;by_cases B:ds.length=es.length
 ·go_in;have m:((ds.length:Int) != (es.length:Int))=false:=by simp[B]
  have U:Hid (ds.length=es.length):=B;have Y:(ds.length:Int)<=(es.length:Int):=by omega
  clear B;go_wp2
  go_loopw [5] (fun i wr=>(∃q:Nat,wr=w.drewN q)/\∃k:Nat,k<=ds.length/\i=.int .i64 k/\ds.take k=es.take k) (fun i _=>ds.length-(intOf i).toNat)
  case atStart=>exact⟨⟨0,rfl⟩,0,Nat.zero_le _,rfl,by simp⟩
  case round=>
   obtain⟨⟨q,rfl⟩,k,hk,rfl,E⟩:=hrel;have S:Hid (ds.take k=es.take k):=E;clear E;by_cases P:k<ds.length
   ·have G:k<es.length:=by have:=U.o;omega
    have s:(k:Int)<(ds.length:Int):=by omega
    have t:(k:Int)<(es.length:Int):=by omega
    obtain⟨b,of,j,z,d,f,g⟩:=c.o k P;obtain⟨v,u,Q,p,D,H,M⟩:=Z.o k G;subst j Q;by_cases J:ds[k]=es[k]
    ·have C:Hid (ds.take (k+1)=es.take (k+1)):=(show _=_ by
      rw[List.take_succ_eq_append_getElem P,List.take_succ_eq_append_getElem G,S.o,J])
     rw[<-J]at D H M;clear J;go_wp2_with fail
     go_quiet (fail)
     go_wp2
     go_roundw
     case rel=>exact⟨⟨_,rfl⟩,k+1,by omega,by go_num,C.o⟩
     case measure=>simp[intOf];omega
    ·have C:Hid (r=false):=K.o fun h=>J (by subst h;rfl)
     have A:ds[k].op≠es[k].op\/(ds[k].op=es[k].op/\ds[k].tx≠es[k].tx)\/(ds[k].op=es[k].op/\ds[k].tx=es[k].tx/\ds[k].n≠es[k].n):=by
      by_cases I:ds[k].op=es[k].op
      ·by_cases R:ds[k].tx=es[k].tx
       ·by_cases X:ds[k].n=es[k].n
        ·exact absurd (Td.ext2 I R X) J
        ·exact .inr (.inr ⟨I,R,X⟩)
       ·exact .inr (.inl ⟨I,R⟩)
      ·exact .inl I
     clear J;generalize ds[k]=x at d f g A;generalize es[k]=y at D H M A;rcases A with A|⟨O,A⟩|⟨O,V,A⟩
     ·have l:(x.op==y.op)=false:=by simp[A]
      have W:(x.op != y.op)=true:=by simp[A]
      clear A;go_wp2_with fail
      go_quiet (fail)
      go_wp2;go_ret;exact⟨by rw[C.o];rfl,_,World.drewN_drewN _ _ _⟩
     ·rw[<-O]at D
      have W:(x.tx.toList==y.tx.toList)=false:=by
       rw[ByteArray.toList_eq,ByteArray.toList_eq];simp only[beq_eq_false_iff_ne,ne_eq];exact fun h=>A (j0b h)
      clear O A;go_wp2_with fail
      go_quiet (fail)
      go_wp2;go_ret;exact⟨by rw[C.o];rfl,_,World.drewN_drewN _ _ _⟩
     ·rw[<-O]at D;rw[<-V]at H;have l:(x.n==y.n)=false:=by simp[A]
      have W:(x.n != y.n)=true:=by simp[A]
      clear O V A;go_wp2_with fail
      go_quiet (fail)
      go_wp2;go_ret;exact⟨by rw[C.o];rfl,_,World.drewN_drewN _ _ _⟩
   ·have C:Hid (r=true):=L.o (by
     have I:=S.o;rw[List.take_of_length_le (by omega),List.take_of_length_le (by have:=U.o;omega)]at I
     exact I)
    go_wp2;go_ret;exact⟨by rw[C.o];rfl,q,rfl⟩
 ·have m:((ds.length:Int) != (es.length:Int))=true:=by simp;omega
  have C:Hid (r=false):=K.o fun h=>B (by rw[h])
  clear B;go_in;go_wp2;go_ret;exact⟨by rw[C.o];rfl,0,rfl⟩
theorem j1s(ps qs:List (List Td))(a o:Option Addr)(cap P:Nat)(hl:ps.length<=4611686018427387904)(Q:∀t∈ps,t.length<=4611686018427387904)(r:Bool)(hr:r=true↔ps=qs)(w:World)(hN:Prg w a ps)(hM:Prg w o qs):
  Calls prog 16 #[.slice a ps.length cap,.slice o qs.length P] w fun e w'=>e=.returned (.bool r)/\∃q,w'=w.drewN q:=by
 have u:Hid (Prg w a ps):=hN;have s:Hid (Prg w o qs):=hM;have W:Hid (∀t∈ps,t.length<=4611686018427387904):=Q
 have M:Hid (ps≠qs->r=false):=fun h=>by
  cases r with
  | false=>rfl
  | true=>exact absurd (hr.1 rfl) h
 have O:Hid (ps=qs->r=true):=hr.2;clear hN hM Q hr;by_cases B:ps.length=qs.length
 ·go_in;have y:((ps.length:Int) != (qs.length:Int))=false:=by simp[B]
  have d:Hid (ps.length=qs.length):=B;have p:(ps.length:Int)<=(qs.length:Int):=by omega
  clear B;go_wp2
  go_loopw [5] (fun i wr=>(∃q:Nat,wr=w.drewN q)/\∃k:Nat,k<=ps.length/\i=.int .i64 k/\ps.take k=qs.take k) (fun i _=>ps.length-(intOf i).toNat)
  case atStart=>exact⟨⟨0,rfl⟩,0,Nat.zero_le _,rfl,by simp⟩
  case round=>
   obtain⟨⟨q,E⟩,k,hk,rfl,H⟩:=hrel;have K:Hid (wr=w.drewN q):=E;have Y:Hid (Prg wr a ps):=(show Prg wr a ps by rw[E];exact u.o);have X:Hid (Prg wr o qs):=(show Prg wr o qs by rw[E];exact s.o);have c:Hid (ps.take k=qs.take k):=H;clear H E;by_cases L:k<ps.length
   ·have I:k<qs.length:=by have:=d.o;omega
    have Aa:(k:Int)<(ps.length:Int):=by omega
    have l:(k:Int)<(qs.length:Int):=by omega
    obtain⟨b,of,R,U,x,hb,f,_,C⟩:=Y.o k L;obtain⟨b',Ab,S,V,Z,z,g,_,D⟩:=X.o k I;subst x Z;have G:=W.o _ (List.getElem_mem L);by_cases A:ps[k]=qs[k]
    ·have J:Hid (∀n,Calls prog 43 #[.slice R ps[k].length U,.slice S qs[k].length V] (wr.drewN n) fun e w'=>e=.returned (.bool true)/\∃m,w'=(wr.drewN n).drewN m):=fun n=>z6v _ _ R S U V G true (by simp[A]) (wr.drewN n) (z2z C n) (z2z D n)
     have v:Hid (ps.take (k+1)=qs.take (k+1)):=(show _=_ by
      rw[List.take_succ_eq_append_getElem L,List.take_succ_eq_append_getElem I,c.o,A])
     clear C D A G;generalize ps[k].length=n1 at f J;generalize qs[k].length=n2 at g J;go_wp2_with fail
     go_quiet ((go_at_call 43;exact Calls.quiet_of (J.o _)))
     go_wp2
     go_roundw
     case rel=>exact⟨⟨_,by rw[K.o,World.drewN_drewN]⟩,k+1,by omega,by go_num,v.o⟩
     case measure=>simp[intOf];omega
    ·have J:Hid (∀n,Calls prog 43 #[.slice R ps[k].length U,.slice S qs[k].length V] (wr.drewN n) fun e w'=>e=.returned (.bool false)/\∃m,w'=(wr.drewN n).drewN m):=fun n=>z6v _ _ R S U V G false (by simp[A]) (wr.drewN n) (z2z C n) (z2z D n)
     have N:Hid (r=false):=M.o fun h=>A (by subst h;rfl)
     clear C D A G;generalize ps[k].length=n1 at f J;generalize qs[k].length=n2 at g J;go_wp2_with fail
     go_quiet ((go_at_call 43;exact Calls.quiet_of (J.o _)))
     go_wp2;go_ret;exact⟨by rw[N.o];rfl,_,by rw[K.o,World.drewN_drewN]⟩
   ·have N:Hid (r=true):=O.o (by
     have j:=c.o;rw[List.take_of_length_le (by omega),List.take_of_length_le (by have:=d.o;omega)]at j
     exact j)
    go_wp2;go_ret;exact⟨by rw[N.o];rfl,q,K.o⟩
 ·have y:((ps.length:Int) != (qs.length:Int))=true:=by simp;omega
  have N:Hid (r=false):=M.o fun h=>B (by rw[h])
  clear B;go_in;go_wp2;go_ret;exact⟨by rw[N.o];rfl,0,rfl⟩
theorem v3n{s:ByteArray}{wd:Int}{T:ByteArray}{k f:Int}(h:k0m s wd T k f)(hf:f≠0){ps:List (List Td)}{k':Int}(hp:q8o s ps k' 0):¬(fmE ps=0/\¬(wd<10\/100<wd)):=by
 rintro⟨A,B⟩;cases h with
 | range h3=>exact B h3
 | bad _ hq hg=>exact hg (q1r hq hp).2.2
 | full _ hq hg=>
  obtain⟨rfl,_⟩:=q1r hq hp;exact hg A
 | ok=>exact hf rfl
theorem j5c{s:ByteArray}{wd:Int}{T:ByteArray}{k:Int}(h:k0m s wd T k 0):∃ps,q8o s ps 0 0/\q8o T ps 0 0:=by
 generalize A:(0:Int)=z at h;cases h with
 | range=>cases A
 | bad _ _ hg=>exact absurd A.symm hg
 | full _ _ hg=>exact absurd A.symm hg
 | ok _ hp _=>exact⟨_,hp,(v3o hp _).2⟩
theorem v9d{t:List Td}(h:q0b t=0):q0t [t]=(0,0):=by
 rw[q0t,if_neg (by simp),q5r,if_neg (by simp[h]),if_neg (by simp)];rfl
theorem y7p(t:List Td):wbS (q4o [t])=wbS (q5i t)++(⟨#[10]⟩:ByteArray):=by
 have e:q4o [t]=q5i t++[10]:=by simp[q4o]
 rw[e];exact(q2l _ _).symm
end Go.Proofs.YtfdppahhbpfnoaaGreatDoor
namespace Go.Proofs.YtfdppahhbpfnoaaGreatDoor
open Go.ChangeShapes Go.WideShapes Go.RowKit
set_option maxRecDepth 100000
abbrev y9b : List (String × DataW Unit) := [("math/bits.deBruijn32tab", Rows.laid_math_bits_deBruijn32tab), ("math/bits.deBruijn64tab", Rows.laid_math_bits_deBruijn64tab), ("internal/strconv.uint64pow10", Rows.laid_internal_strconv_uint64pow10), ("unicode/utf8.acceptRanges", Rows.laid_unicode_utf8_acceptRanges), ("strconv.ErrRange", Rows.laid_strconv_ErrRange), ("strconv.ErrSyntax", Rows.laid_strconv_ErrSyntax), ("unicode.White_Space", Rows.laid_unicode_White_Space), ("strings.asciiSpace", Rows.laid_strings_asciiSpace), ("unicode/utf8.first", Rows.laid_unicode_utf8_first)]
abbrev g0a : List (String × DataW Unit) := [("math/bits.deBruijn32tab", Rows.laid_math_bits_deBruijn32tab), ("math/bits.deBruijn64tab", Rows.laid_math_bits_deBruijn64tab), ("internal/strconv.uint64pow10", Rows.laid_internal_strconv_uint64pow10), ("unicode/utf8.acceptRanges", Rows.laid_unicode_utf8_acceptRanges), ("unicode.White_Space", Rows.laid_unicode_White_Space), ("strings.asciiSpace", Rows.laid_strings_asciiSpace), ("unicode/utf8.first", Rows.laid_unicode_utf8_first)]
theorem j2r(os:Os)(args:Array Value):laidMetH prog y9b ((q3n prog os).forCall (fun _ _=>0) ⟨#[],args,[]⟩).memory:=by
 have h := (y3v os args).filter (fun x => x.1 != "errors.errorType")
 have e : (g1r.filter fun x => x.1 != "errors.errorType") = y9b := by rfl
 rw[e]at h;exact h
theorem y1j(os:Os)(args:Array Value):laidMetH prog g0a ((q3n prog os).forCall (fun _ _=>0) ⟨#[],args,[]⟩).memory:=by
 have h := (j2r os args).filter (fun x => x.1 != "strconv.ErrRange" && x.1 != "strconv.ErrSyntax")
 have e : (y9b.filter fun x => x.1 != "strconv.ErrRange" && x.1 != "strconv.ErrSyntax") = g0a := by rfl
 rw[e]at h;exact h
theorem k9g {l : List (String × DataW Unit)} {W : World} (h : laidMetH prog l W) (e1 : ((l.filter fun x => x.2.handleName?.isNone).filter fun x => x.1 == "internal/strconv.uint64pow10") = [("internal/strconv.uint64pow10", Lib.tabData .u64 Lib.pow10Tab)]) (e2 : ((l.filter fun x => x.2.handleName?.isNone).filter fun x => x.1 == "strings.asciiSpace") = [("strings.asciiSpace", Lib.tabData .u8 Lib.asciiSpaceTab)]) : z1a W := by
 have h0:=(laidMetH_iff.1 h).1;refine⟨?_,?_⟩
 ·have h1 := h0.filter (fun x => x.1 == "internal/strconv.uint64pow10")
  rw[e1]at h1;exact Lib.tabIs_of_head (g:=4) (t:=321) (e:=255) (n:=20) (by kernel_rfl) (by kernel_rfl) (by kernel_rfl) (by kernel_rfl) (by kernel_rfl) (by kernel_rfl) h1
 ·have h1 := h0.filter (fun x => x.1 == "strings.asciiSpace")
  rw[e2]at h1;exact Lib.tabIs_of_head (g:=1) (t:=216) (e:=5) (n:=256) (by kernel_rfl) (by kernel_rfl) (by kernel_rfl) (by kernel_rfl) (by kernel_rfl) (by kernel_rfl) h1
theorem v1z{W:World}(h:laidMetH prog y9b W):z1a W:=k9g h (by kernel_rfl) (by kernel_rfl)
theorem v3e{W:World}(h:laidMetH prog g0a W):z1a W:=k9g h (by kernel_rfl) (by kernel_rfl)
end Go.Proofs.YtfdppahhbpfnoaaGreatDoor
