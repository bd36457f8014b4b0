import Derived.Test.YthcpdohdppkmkaaGreatDoorPu39
import Derived.Lay
import Derived.LaidMore
import Derived.LaidSub
import Derived.LaidOnce
import Derived.Deep.Slices
import Derived.Carry
import Derived.SizedLaws
import Derived.RangeFuncNested
import Derived.RangeFuncBound
import Derived.RangeFuncCalls
import Derived.RangeFuncLeaves
import Derived.Shelf.Abstract
import Derived.LoopNIn
import Derived.LoopIn
import Derived.RangeFuncBox
import Derived.RangeFuncFrom
import Derived.Maps.AppendAt
open Go.Proofs.Tryz
namespace Go.Proofs.YthcpdohdppkmkaaGreatDoor
open Go.ChangeShapes Go.WideShapes Go.RowKit
set_option maxRecDepth 100000
def v9t : List (String × DataW Unit) := [("math/bits.deBruijn32tab", Rows.laid_math_bits_deBruijn32tab), ("math/bits.deBruijn64tab", Rows.laid_math_bits_deBruijn64tab), ("internal/strconv.uint64pow10", Rows.laid_internal_strconv_uint64pow10), ("unicode/utf8.acceptRanges", Rows.laid_unicode_utf8_acceptRanges), ("strconv.ErrRange", Rows.laid_strconv_ErrRange), ("strconv.ErrSyntax", Rows.laid_strconv_ErrSyntax), ("unicode.White_Space", Rows.laid_unicode_White_Space), ("strings.asciiSpace", Rows.laid_strings_asciiSpace), ("unicode/utf8.first", Rows.laid_unicode_utf8_first)]
abbrev y8e : List (String × DataW Unit) := [("math/bits.deBruijn32tab", Rows.laid_math_bits_deBruijn32tab), ("math/bits.deBruijn64tab", Rows.laid_math_bits_deBruijn64tab), ("internal/strconv.uint64pow10", Rows.laid_internal_strconv_uint64pow10), ("unicode/utf8.acceptRanges", Rows.laid_unicode_utf8_acceptRanges), ("errors.errorType", Rows.laid_errors_errorType), ("strconv.ErrRange", Rows.laid_strconv_ErrRange), ("strconv.ErrSyntax", Rows.laid_strconv_ErrSyntax), ("unicode.White_Space", Rows.laid_unicode_White_Space), ("strings.asciiSpace", Rows.laid_strings_asciiSpace), ("unicode/utf8.first", Rows.laid_unicode_utf8_first)]
def q4a(P:Program)(os:Os):World:=(k2p P os).layVars P v9t
theorem v9u(os:Os)(args:Array Value):laidMet prog v9t ((q4a prog os).forCall (fun _ _=>0) ⟨#[],args,[]⟩).memory:=by
 have e1:(v9t.filter fun x=>(v9t.map (·.1)).contains x.1)=v9t:=List.filter_eq_self.2 fun x hx=>List.contains_iff_mem.2 (List.mem_map.2 ⟨x,hx,rfl⟩)
 have e2:(v9t.filter fun x=>!(v9t.map (·.1)).contains x.1)=[]:=List.filter_eq_nil_iff.2 fun x hx=>by rw[List.contains_iff_mem.2 (List.mem_map.2 ⟨x,hx,rfl⟩)];simp
 have h:laidMet prog v9t (q4a prog os):=laidMet_layVars (w0:=k2p prog os) (v9t.map (·.1)) [] (by rw[e1];rfl) (by rw[e1];kernel_rfl) (by rw[e1];kernel_rfl) (by rw[e2];exact LaidIn.none);exact h.of_heap (by simp[World.memory,World.forCall,Input.heap])
theorem q8b(os:Os)(args:Array Value):((q4a prog os).forCall (fun _ _=>0) ⟨#[],args,[]⟩).Shaped prog:=World.shaped_of_ZipB (by kernel_rfl) (by kernel_rfl)
theorem v2p(os:Os)(args:Array Value):laidMetH prog y8e ((q4a prog os).forCall (fun _ _=>0) ⟨#[],args,[]⟩).memory:=
 laidMetH_of_parts (v9u os args) (by kernel_rfl)
theorem j3x{W:World}(h:laidMetH prog y8e W):Hnd W:=by
 have h1 := h.filter (fun x => x.1 == "errors.errorType")
 have e : (y8e.filter fun x => x.1 == "errors.errorType") = y5o := by rfl
 rw[e]at h1;exact z6n h1
theorem v9v{W:World}(h:laidMetH prog y8e W):q5u W:=by
 have h0:=(laidMetH_iff.1 h).1;refine⟨?_,?_⟩
 ·have h1 := h0.filter (fun x => x.1 == "internal/strconv.uint64pow10")
  have e : ((y8e.filter fun x => x.2.handleName?.isNone).filter fun x => x.1 == "internal/strconv.uint64pow10") = [("internal/strconv.uint64pow10", Lib.tabData .u64 Lib.pow10Tab)] := by kernel_rfl
  rw[e]at h1;exact Lib.tabIs_of_head (g:=6) (t:=354) (e:=303) (n:=20) (by kernel_rfl) (by kernel_rfl) (by kernel_rfl) (by kernel_rfl) (by kernel_rfl) (by kernel_rfl) h1
 ·have h1 := h0.filter (fun x => x.1 == "strings.asciiSpace")
  have e : ((y8e.filter fun x => x.2.handleName?.isNone).filter fun x => x.1 == "strings.asciiSpace") = [("strings.asciiSpace", Lib.tabData .u8 Lib.asciiSpaceTab)] := by kernel_rfl
  rw[e]at h1;exact Lib.tabIs_of_head (g:=1) (t:=287) (e:=5) (n:=256) (by kernel_rfl) (by kernel_rfl) (by kernel_rfl) (by kernel_rfl) (by kernel_rfl) (by kernel_rfl) h1
abbrev g4t : List (String × DataW Unit) := [("math/bits.deBruijn32tab", Rows.laid_math_bits_deBruijn32tab), ("math/bits.deBruijn64tab", Rows.laid_math_bits_deBruijn64tab), ("internal/strconv.uint64pow10", Rows.laid_internal_strconv_uint64pow10), ("unicode/utf8.acceptRanges", Rows.laid_unicode_utf8_acceptRanges), ("strconv.ErrRange", Rows.laid_strconv_ErrRange), ("strconv.ErrSyntax", Rows.laid_strconv_ErrSyntax), ("unicode.White_Space", Rows.laid_unicode_White_Space), ("strings.asciiSpace", Rows.laid_strings_asciiSpace), ("unicode/utf8.first", Rows.laid_unicode_utf8_first)]
theorem z8r(os:Os)(args:Array Value):laidMetH prog g4t ((q4a prog os).forCall (fun _ _=>0) ⟨#[],args,[]⟩).memory:=by
 have h := (v2p os args).filter (fun x => x.1 != "errors.errorType")
 have e : (y8e.filter fun x => x.1 != "errors.errorType") = g4t := by rfl
 rw[e]at h;exact h
theorem v9x {l : List (String × DataW Unit)} {W : World} (h : laidMetH prog l W) (e1 : ((l.filter fun x => x.2.handleName?.isNone).filter fun x => x.1 == "internal/strconv.uint64pow10") = [("internal/strconv.uint64pow10", Lib.tabData .u64 Lib.pow10Tab)]) (e2 : ((l.filter fun x => x.2.handleName?.isNone).filter fun x => x.1 == "strings.asciiSpace") = [("strings.asciiSpace", Lib.tabData .u8 Lib.asciiSpaceTab)]) : q5u W := by
 have h0:=(laidMetH_iff.1 h).1;refine⟨?_,?_⟩
 ·have h1 := h0.filter (fun x => x.1 == "internal/strconv.uint64pow10")
  rw[e1]at h1;exact Lib.tabIs_of_head (g:=6) (t:=354) (e:=303) (n:=20) (by kernel_rfl) (by kernel_rfl) (by kernel_rfl) (by kernel_rfl) (by kernel_rfl) (by kernel_rfl) h1
 ·have h1 := h0.filter (fun x => x.1 == "strings.asciiSpace")
  rw[e2]at h1;exact Lib.tabIs_of_head (g:=1) (t:=287) (e:=5) (n:=256) (by kernel_rfl) (by kernel_rfl) (by kernel_rfl) (by kernel_rfl) (by kernel_rfl) (by kernel_rfl) h1
theorem z3q{W:World}(h:laidMetH prog g4t W):q5u W:=v9x h (by kernel_rfl) (by kernel_rfl)
end Go.Proofs.YthcpdohdppkmkaaGreatDoor
namespace Go.Proofs.YthcpdohdppkmkaaGreatDoor
open Go Go.ChangeShapes Go.WideShapes Go.RowKit
theorem j0d:laidOutB prog=true:=by kernel_rfl
theorem j6n:prog.cellsOf 71=3:=by kernel_rfl
theorem y4m:prog.cellsOf 3=1:=by kernel_rfl
theorem y4n:prog.cellsOf 9=1:=by kernel_rfl
theorem j5i(b o n:Nat):(⟨b,o,none⟩:Addr).add n=⟨b,o+n,none⟩:=by
 unfold Addr.add
 split
 ·rename_i h;subst h;rfl
 ·rfl
theorem y3a{α:Type}{l:List α}(h:l.length=3):∃a b c,l=[a,b,c]:=by
 match l,h with
 | [a,b,c],_=>exact⟨a,b,c,rfl⟩
theorem j6l{H:Type}{d:DataW H}{l:List (DataW H)}(h:d∈l):Rows.uptoBulk d<=Rows.uptoBulkAll l:=by
 induction l with
 | nil=>cases h
 | cons x r ih=>
  simp only[Rows.uptoBulkAll];cases List.mem_cons.1 h with
  | inl e=>subst e;omega
  | inr e=>have:=ih e;omega
theorem j2k{H:Type}{d:DataW H}{l s:List (DataW H)}(h:d∈l):Rows.uptoBulk d<=Rows.uptoBulk (.slice l s):=by
 have:=j6l h
 simp only[Rows.uptoBulk];omega
section
variable {H:Type} {enc:TypeId × Value→H} {W:World}
theorem z1o{P:Program}{e:TypeId}:∀{l:List (DataW H)}{d:DataW H},d∈l->∀n∈d.weights P e,n∈DataW.weightsAll P e l
 | d'::r,d,hd,n,hn=>by
  simp only[DataW.weightsAll,List.mem_append];rcases List.mem_cons.1 hd with rfl|h
  ·exact Or.inl hn
  ·exact Or.inr (z1o h n hn)
theorem k6z{fuel:Nat}{a0:Option Addr}{l0 c0:Nat}{d:DataW H}{p:List MemPlace}(hf:DataW.trod enc prog W 0 (fun _=>true) true fuel 51 [.slice a0 l0 c0]=some (d,p)):
  ∃ds:List Td,l0=ds.length/\ds.length<=c0/\Tds W a0 ds/\∀x∈ds,x.tx.size<=Rows.uptoBulk d/\x.tx.size∈d.weights prog 51:=by
 rcases Deep.open_slice Tryz.underlying51 hf with⟨h1,_⟩|⟨a,len,cap,m,n,D,Pl,h1,_,hl,_,hm,hd,hx⟩
 ·simp only[List.cons.injEq,and_true,Value.slice.injEq]at h1;obtain⟨rfl,rfl,rfl⟩:=h1;exact⟨[],rfl,Nat.le_refl _,fun i hi=>by simp at hi,fun x hx=>by cases hx⟩
 ·simp only[List.cons.injEq,and_true,Value.slice.injEq]at h1;obtain⟨rfl,rfl,rfl⟩:=h1;have hlm:l0<=m:=by rw[hm];simp only[if_true];exact hl
  have each:∀i,i<l0->∃x:Td,W.cell? ((a.add (i*3)).add 0)=some (.int .i64 x.op)/\W.cell? ((a.add (i*3)).add 1)=some (.string x.tx)/\W.cell? ((a.add (i*3)).add 2)=some (.int .i64 x.n)/\x.tx.size<=Rows.uptoBulk (D i)/\x.tx.size∈(D i).weights prog 71:=by
   intro i hi;obtain⟨cs',g1,g2⟩:=hx i (by omega);rw[j6n]at g1;obtain⟨_,hlen,hcell⟩:=World.cells?_some g1;obtain⟨xs,k,_,hxd,_,hxl,hfl⟩:=DataW.trod_struct Tryz.underlying71 g2;have hfl0:=hfl 0 _ rfl;have hfl1:=hfl 1 _ rfl;have hfl2:=hfl 2 _ rfl;obtain⟨y0,y1,y2,rfl⟩:=y3a hxl;obtain⟨v0,v1,v2,rfl⟩:=y3a hlen;clear hxl hlen;simp[y4m,y4n]at hfl0 hfl1 hfl2;obtain⟨z0,e0,_,_⟩:=DataW.trod_int Tryz.underlying3 hfl0;obtain⟨s1,e1,e1d,_⟩:=DataW.trod_string Tryz.underlying9 hfl1;obtain⟨z2,e2,_,_⟩:=DataW.trod_int Tryz.underlying3 hfl2;simp only[List.cons.injEq,and_true]at e0 e1 e2;subst e0 e1 e2;refine⟨⟨z0,s1,z2⟩,hcell 0 (by omega),hcell 1 (by omega),hcell 2 (by omega),?_⟩;have hD:D i=.agg ([y0,y1,y2].map (·.1)):=(Prod.mk.inj hxd).1;rw[hD,e1d];have e:s1.data.toList.length=s1.size:=by rw[Array.length_toList];rfl
   refine⟨?_,?_⟩
   ·simp only[List.map_cons,List.map_nil,Rows.uptoBulk,Rows.uptoBulkAll];omega
   ·simp only[DataW.weights,Tryz.underlying71];refine DataW.weights_mem_each (j:=1) (t:=9) rfl rfl _ ?_;rw[<-e];exact List.mem_singleton.2 rfl
  have inh:Inhabited Td:=⟨⟨0,⟨#[]⟩,0⟩⟩;obtain⟨q,hq⟩:=Deep.choose_lt each;refine⟨(List.range l0).map q,by simp,by simpa using hl,?_,?_⟩
  ·intro i hi;have hi':i<l0:=by simpa using hi
   obtain⟨c0,c1,c2,_,_⟩:=hq i hi';obtain⟨c00,_,_,_,_⟩:=hq 0 (by omega)
   have hs:a.spot=none:=by
    have:=World.cell?_spot c00
    simpa[Addr.add]using this
   obtain⟨b,o,sp⟩:=a;simp only at hs;subst hs;simp only[j5i,Nat.add_zero]at c0 c1 c2
   have hb:b<W.heap.size:=by
    rcases Nat.lt_or_ge b W.heap.size with h'|h'
    ·exact h'
    ·simp[World.cell?,Array.getElem?_eq_none h']at c0
   refine⟨b,o,rfl,hb,?_,?_,?_⟩
   ·simpa using c0
   ·simpa using c1
   ·simpa using c2
  ·intro x hx;obtain⟨i,hi,rfl⟩:=List.mem_map.1 hx;have hi':=List.mem_range.1 hi;obtain⟨_,_,_,h4,h6⟩:=hq i hi';have hd':d=_:=(Prod.mk.inj hd).1
   have h5:Rows.uptoBulk (D i)<=Rows.uptoBulk d:=by
    rw[hd'];exact j2k (List.mem_map.2 ⟨i,hi,rfl⟩)
   refine⟨by omega,?_⟩;rw[hd'];simp only[DataW.weights,Tryz.underlying51];exact List.mem_cons_of_mem _ (List.mem_append_left _ (z1o (List.mem_map.2 ⟨i,hi,rfl⟩) _ h6))
theorem k6y{a0:Option Addr}{l0 c0:Nat}{d:DataW H}{p:List MemPlace}(h:DataW.Trod enc prog W 0 (fun _=>true) true 51 (.slice a0 l0 c0) d p):
  ∃ds:List Td,l0=ds.length/\ds.length<=c0/\Tds W a0 ds/\∀x∈ds,x.tx.size∈d.weights prog 51:=by
 obtain⟨fuel,hf⟩:=h;obtain⟨ds,h1,h2,h3,h4⟩:=k6z hf;exact⟨ds,h1,h2,h3,fun x hx=>(h4 x hx).2⟩
end
end Go.Proofs.YthcpdohdppkmkaaGreatDoor
namespace Go.Proofs.YthcpdohdppkmkaaGreatDoor
open Go Go.Lib
def lns:List UInt8->List (List UInt8)
 | []=>[[]]
 | c::r=>if c==10 then []::lns r else(c::(lns r).headD [])::(lns r).tail
theorem j0l:∀l,lns l≠[]
 | []=>by simp[lns]
 | c::r=>by unfold lns;split<;>simp
theorem z7r:∀(a b:List UInt8),lns (a++10::b)=lns a++lns b
 | [],b=>by simp[lns]
 | c::a,b=>by
  have ih:=z7r a b;have hne:=j0l a;simp only[List.cons_append,lns,ih]
  split
  ·simp
  ·cases h:lns a with
   | nil=>exact absurd h hne
   | cons x xs=>simp
theorem k6o:∀(l:List UInt8),(10:UInt8)∉l->lns l=[l]
 | [],_=>by simp[lns]
 | c::r,h=>by
  have hc:¬c=10:=fun e=>h (by simp[e])
  have hr:(10:UInt8)∉r:=fun e=>h (by simp[e])
  simp[lns,k6o r hr,hc]
theorem j8t:∀(l:List UInt8),indexByte l 10=-1->(10:UInt8)∉l
 | [],_=>by simp
 | c::r,h=>by
  unfold indexByte at h;by_cases hc:c==10
  ·simp[hc]at h
  ·simp only[hc]at h;by_cases h2:indexByte r 10==-1
   ·have:=j8t r (beq_iff_eq.1 h2)
    have hc':¬(10:UInt8)=c:=fun e=>hc (by simp[e])
    simp[this,hc']
   ·have:=indexByte_ge r 10
    have h3:¬indexByte r 10=-1:=fun e=>h2 (beq_iff_eq.2 e)
    simp[h3]at h;omega
theorem y1t:∀(l:List UInt8)(i:Nat),indexByte l 10=i->i<l.length/\(10:UInt8)∉l.take i/\l=l.take i++10::l.drop (i+1)
 | [],i,h=>by simp[indexByte]at h
 | c::r,i,h=>by
  unfold indexByte at h;by_cases hc:c==10
  ·have e:c=10:=beq_iff_eq.1 hc;simp[hc]at h
   have:i=0:=by omega
   subst this;simp[e]
  ·simp only[hc]at h;by_cases h2:indexByte r 10==-1
   ·simp[h2]at h
   ·have h3:¬indexByte r 10=-1:=fun e=>h2 (beq_iff_eq.2 e)
    have hge:=indexByte_ge r 10;simp[h3]at h;obtain⟨j,rfl⟩:∃j,i=j+1:=⟨i-1,by omega⟩;obtain⟨p1,p2,p3⟩:=y1t r j (by omega);have hc':¬(10:UInt8)=c:=fun e=>hc (by simp[e])
    refine⟨by simp;omega,by simp[hc',p2],?_⟩;rw[List.take_succ_cons,List.drop_succ_cons,List.cons_append];exact congrArg (c::·) p3
theorem v6w(l:List UInt8):indexByte l 10=-1\/∃i:Nat,indexByte l 10=i:=by
 have:=indexByte_ge l 10
 by_cases h:indexByte l 10=-1
 ·exact .inl h
 ·exact .inr ⟨(indexByte l 10).toNat,by omega⟩
def q1w(s:ByteArray):List ByteArray:=(lns s.data.toList).map fun l=>⟨l.toArray⟩
theorem j9z(s:ByteArray)(h:indexByte s.data.toList 10=-1):q1w s=[s]:=by
 unfold q1w;rw[k6o _ (j8t _ h)];simp
theorem v7o(s:ByteArray)(i:Nat)(h:indexByte s.data.toList 10=i):i+1<=s.size/\q1w s=s.extract 0 i::q1w (s.extract (i+1) s.size):=by
 obtain⟨h1,h2,h3⟩:=y1t _ i h;refine⟨by rw[size_eq];omega,?_⟩;unfold q1w
 conv=>lhs;rw[h3]
 rw[z7r,k6o _ h2,extract_to_end,extract_eq];simp
def ovr(wd:Int)(n:Int):Int:=max (n-wd) 0
def over(wd:Int):List Int->Int
 | []=>0
 | n::r=>ovr wd n+over wd r
theorem j3j(wd n:Int):0<=ovr wd n:=by unfold ovr;omega
theorem g2f(wd n:Int)(h:0<=wd)(hn:0<=n):ovr wd n<=n:=by unfold ovr;omega
theorem z5p(wd:Int):∀a b,over wd (a++b)=over wd a+over wd b
 | [],b=>by simp[over]
 | n::a,b=>by simp[over,z5p wd a b];omega
theorem z5q(wd:Int):∀a,0<=over wd a
 | []=>by simp[over]
 | n::a=>by have:=z5q wd a;have:=j3j wd n;simp[over];omega
theorem v1i(wd:Int)(h:0<=wd){M:Int}:∀(a:List Int),(∀n∈a,0<=n/\n<=M)->over wd a<=M*(a.length:Int)
 | [],_=>by simp[over]
 | n::a,hn=>by
  have h1:=v1i wd h a (fun m hm=>hn m (by simp[hm]));have h2:=hn n (by simp);have h3:=g2f wd n h h2.1
  have h4:M*(((n::a).length:Nat):Int)=M*(a.length:Int)+M:=by
   rw[List.length_cons,Int.natCast_add,Int.mul_add];simp
  rw[h4];simp only[over];omega
def lens(l:List UInt8):List Int:=(lns l).map fun x=>(x.length:Int)
theorem k6n:∀(l:List UInt8),(lns l).length<=l.length+1
 | []=>by simp[lns]
 | c::r=>by
  have:=k6n r
  have:=List.length_pos_iff.2 (j0l r)
  unfold lns
  split
  ·simp;omega
  ·simp;omega
def q2l(s:ByteArray)(wd:Int):Int:=over wd (lens s.data.toList)
def q1p(s:ByteArray):Int:=((lens s.data.toList).length:Int)-1
end Go.Proofs.YthcpdohdppkmkaaGreatDoor
namespace Go.Proofs.YthcpdohdppkmkaaGreatDoor
open Go Go.RowKit Go.Shelf
attribute [local go_sem] Oper.semAt_some
set_option maxRecDepth 100000
set_option maxHeartbeats 2000000
theorem v5x(s:ByteArray)(w:World)(h:Lib.indexByte s.data.toList 10=-1):
  Calls prog 89 #[.string s,.string ⟨#[10]⟩] w fun e w'=>e=.returned (.tuple #[.string s,.string ⟨#[]⟩,.bool false])/\∃n,w'=w.drewN n:=by
 go_in;go_wp2_with(go_at_call 143;refine(z7d _ _ h).mono ?_;rintro e w'⟨rfl,n,rfl⟩);go_ret3;exact⟨rfl,n,rfl⟩
theorem y4q(s:ByteArray)(w:World)(i:Nat)(h:Lib.indexByte s.data.toList 10=i)(hi:i+1<=s.size)(hb:s.size<=100000000):
  Calls prog 89 #[.string s,.string ⟨#[10]⟩] w fun e w'=>e=.returned (.tuple #[.string (s.extract 0 i),.string (s.extract (i+1) s.size),.bool true])/\∃n,w'=w.drewN n:=by
 go_in;go_wp2_with(go_at_call 143;refine(k2b _ _ _ h hi hb).mono ?_;rintro e w'⟨rfl,n,rfl⟩);go_ret3;exact⟨rfl,n,rfl⟩
abbrev LnT:={x:ByteArray // x.size<=100000000}
abbrev v7m(x:LnT):Array Value:=#[.string x.1]
def lft:Value->Value->Nat
 | .string q,.bool true=>q.size+1
 | _,_=>0
theorem z5c(w:World)(n:Nat)(row:Option Nat):w.grownBy (w.drewN n) row:=⟨rfl,rfl,rfl,Nat.le_refl _,fun _ _ _=>rfl⟩
theorem j9w(F:Fence)(n:Nat)(hF:∀f,F.fn f)(hro:F.round=none)(hn:1<=n)
  (hmiss:∀s w,Lib.indexByte s.data.toList 10=-1->CallsIn F (n-1) prog 89 #[.string s,.string ⟨#[10]⟩] w fun e w'=>e=.returned (.tuple #[.string s,.string ⟨#[]⟩,.bool false])/\∃n,w'=w.drewN n)
  (hhit:∀(s:ByteArray)w(i:Nat),Lib.indexByte s.data.toList 10=i->i+1<=s.size->s.size<=100000000->CallsIn F (n-1) prog 89 #[.string s,.string ⟨#[10]⟩] w fun e w'=>e=.returned (.tuple #[.string (s.extract 0 i),.string (s.extract (i+1) s.size),.bool true])/\∃n,w'=w.drewN n)
  (l Bn n₀:Nat) (s:ByteArray) (hs:s.size<=100000000) (J Jx:List LnT->World->Prop)
  (W:World) (hJ:AbidesFrom W.heap.size J)
  (hY:∀pre x W1,J pre W1->pre.length<(q1w s).length->YieldAt F (n-1) prog l (v7m x) W1 fun e W'=>
   (e=.returned (.bool true)/\J (pre++[x]) W'/\Below n₀ W1 W')\/(e=.returned (.bool false)/\Jx (pre++[x]) W'))
  (hBn:W.cell? ⟨Bn,0,none⟩=some (.string s)) (h0:J [] W):
  CallsIn F n prog 112 #[.func (.yield l) #[] #[],.pointer (some ⟨Bn,0,none⟩)] W fun e W'=>(∃v,e=.returned v)/\
   ((∃ys:List LnT,ys.map (·.1)=q1w s/\J ys W')\/(∃pre:List LnT,pre.map (·.1) <+:q1w s/\Jx pre W')):=by
 refine callsIn_of_wp func112 rfl (hF 112) ?_ hro;simp only[ntmps112,List.size_toArray,List.length_cons,List.length_nil,Nat.reduceAdd,Nat.reduceSub,Array.replicate_succ,Array.replicate_zero,List.push_toArray,List.append_toArray,List.nil_append,List.cons_append]
 gi_wp2
 gi_loopw [3,4] (fun r f wr=>∃(pre:List LnT)(q:ByteArray)(b:Bool),r=.string q/\f=.bool b/\q.size<=100000000/\q1w s=pre.map (·.1)++(if b then q1w q else [])/\J pre wr/\W.heap.size<=wr.heap.size)
  (fun r f _=>lft r f)
 case atStart=>
  exact⟨[],s,true,rfl,rfl,hs,by simp,h0,Nat.le_refl _⟩
 case round=>
  obtain⟨pre,q,b,rfl,rfl,hq,hx,hJs,hsz⟩:=hrel;cases b with
  | false=>
   gi_wp2
   go_end0
   exact⟨⟨_,rfl⟩,.inl ⟨pre,by simpa using hx.symm,hJs⟩⟩
  | true=>
   simp only[if_true]at hx;rcases v6w q.data.toList with hi|⟨i,hi⟩
   ·have hl:=j9z q hi;have HX:Hid (q1w s=pre.map (·.1)++[q]):=by rw[<-hl];exact hx
    clear hx hl
    gi_wp2_with fail
    refine(hmiss q wr hi).mono ?_;rintro e w1⟨rfl,k,rfl⟩;have hJ2:J pre (wr.drewN k):=hJ _ _ _ none hJs (z5c _ _ _) (by simp);obtain⟨fn,tmps,assign,body,hy,hR⟩:=hY pre ⟨q,hq⟩ _ hJ2 (by rw[HX.o];simp);dsimp only[v7m]at hy
    gi_wp2
    refine hR.mono ?_;rintro e W3 (⟨rfl,hJ3,hk3⟩|⟨rfl,hJx3⟩)
    ·gi_wp2
     go_roundw
     case rel=>exact⟨pre++[⟨q,hq⟩],⟨#[]⟩,false,rfl,rfl,Nat.zero_le _,by rw[HX.o];simp,hJ3,Nat.le_trans hsz hk3.size⟩
     case measure=>simp[lft]
    ·gi_wp2
     refine bodyPost_ret (results_none rfl _ _ _) rfl ?_;exact⟨⟨_,rfl⟩,.inr ⟨pre++[⟨q,hq⟩],by rw[HX.o];simp,hJx3⟩⟩
   ·obtain⟨hi1,hl⟩:=v7o q i hi;have HX:Hid (q1w s=pre.map (·.1)++(q.extract 0 i::q1w (q.extract (i+1) q.size))):=by rw[<-hl];exact hx
    clear hx hl;have hq1:(q.extract 0 i).size<=100000000:=by simp;omega
    have hq2:(q.extract (i+1) q.size).size<=100000000:=by simp;omega
    have hm:(q.extract (i+1) q.size).size<q.size:=by simp;omega
    gi_wp2_with fail
    refine(hhit q wr i hi hi1 hq).mono ?_;rintro e w1⟨rfl,k,rfl⟩;have hJ2:J pre (wr.drewN k):=hJ _ _ _ none hJs (z5c _ _ _) (by simp);obtain⟨fn,tmps,assign,body,hy,hR⟩:=hY pre ⟨q.extract 0 i,hq1⟩ _ hJ2 (by rw[HX.o];simp);dsimp only[v7m]at hy
    gi_wp2
    refine hR.mono ?_;rintro e W3 (⟨rfl,hJ3,hk3⟩|⟨rfl,hJx3⟩)
    ·gi_wp2
     go_roundw
     case rel=>exact⟨pre++[⟨q.extract 0 i,hq1⟩],q.extract (i+1) q.size,true,rfl,rfl,hq2,by rw[HX.o];simp,hJ3,Nat.le_trans hsz hk3.size⟩
     case measure=>simp only[lft];omega
    ·gi_wp2
     refine bodyPost_ret (results_none rfl _ _ _) rfl ?_;exact⟨⟨_,rfl⟩,.inr ⟨pre++[⟨q.extract 0 i,hq1⟩],by rw[HX.o];exact⟨q1w (q.extract (i+1) q.size),by simp⟩,hJx3⟩⟩
theorem q9m(n:Nat)(hn:1<=n)(Bn n₀:Nat)(s:ByteArray)(hs:s.size<=100000000)(w:World)(hBn:Bn<w.heap.size)(hc:w.cell? ⟨Bn,0,none⟩=some (.string s)):
  SeqStopsK Fence.wide n prog 112 #[.pointer (some ⟨Bn,0,none⟩)] v7m (Below n₀) (fun ys=>ys.map (·.1)=q1w s) (fun pre=>pre.map (·.1) <+:q1w s) (q1w s).length w:=fun l J Jx W hW hJ _ hY h0=>
 j9w Fence.wide n (fun _=>trivial) rfl hn (fun s w h=>callsIn_wide.2 (v5x s w h)) (fun s w i h1 h2 h3=>callsIn_wide.2 (y4q s w i h1 h2 h3)) l Bn n₀ s hs J Jx W hJ hY ((hW.cell (p:=⟨Bn,0,none⟩) hBn).trans hc) h0
theorem k2w(s:ByteArray)(w:World):
  Calls prog 66 #[.string s] w fun e w'=>e=.returned (.func (.func 112) #[] #[.pointer (some ⟨w,0,none⟩)])/\w'=w.alloc (.cells #[.string s] 9):=by
 go_in;go_wp2;go_ret;exact⟨rfl,rfl⟩
attribute [local go_sem] Oper.semAt_some
set_option maxRecDepth 100000
set_option maxHeartbeats 2000000
theorem j0j(s:ByteArray):(q1w s).length<=s.size+1:=by
 have:=k6n s.data.toList
 rw[<-Lib.size_eq]at this;unfold q1w;simpa using this
def lnV(pre:List LnT):List Value:=strCells (pre.map (·.1))
theorem v7n(pre:List LnT)(x:LnT):lnV (pre++[x])=lnV pre++[.string x.1]:=by simp[lnV,strCells]
theorem j5k(n:Nat)(hn:3<=n)(s:ByteArray)(hs:s.size<=100000000)(Bn:Nat)(w:World)(hBn:Bn<w.heap.size)(hc:w.cell? ⟨Bn,0,none⟩=some (.string s)):
  CallsIn Fence.wide n prog 135 #[.slice none 0 0,.func (.func 112) #[] #[.pointer (some ⟨Bn,0,none⟩)]] w fun e w'=>∃A c,e=.returned (.slice A (q1w s).length c)/\q1j w (.slice A (q1w s).length c) (q1w s) w'/\Below w w w':=by
 have h1:1<=n:=by omega
 have hlen:(q1w s).length<=100000001:=by have:=j0j s;omega
 obtain⟨i0,hi,hz0,hz1,hz2⟩:=info_parts z3g;obtain⟨F,hFe⟩:∃F,F=Fence.wide:=⟨_,rfl⟩;rw[<-hFe];have hF:∀f,F.fn f:=fun f=>by rw[hFe];trivial
 have hro:F.round=none:=by rw[hFe];rfl
 have HFe:Hid (F=Fence.wide):=hFe;have bO:=Boxed.new w 42 (.slice none 0 0);have hB0:Below w w (w.alloc (.cells #[.slice none 0 0] 42)):=(Below.refl _ w).alloc Zl _;have hseq:=q9m (n-1) (by omega) Bn w.heap.size s hs (w.alloc (.cells #[.slice none 0 0] 42)) (by simp;omega) ((hB0.cell (p:=⟨Bn,0,none⟩) hBn).trans hc);rw[<-HFe.o]at hseq;clear hFe;refine callsIn_of_wp_marks func135 rfl (hF 135) ?_ hro;simp only[ntmps135,List.size_toArray,List.length_cons,List.length_nil,Nat.reduceAdd,Nat.reduceSub,Array.replicate_succ,Array.replicate_zero,List.push_toArray,List.append_toArray,List.nil_append,List.cons_append]
 gi_wp2
 refine wpIn_rangeFunc_ownF hro h1 (gf:=112) (lb:=#[.pointer (some ⟨Bn,0,none⟩)]) rfl (hF 112) (enters_of func112 (by kernel_rfl) rfl)
  hseq belowK_t (belowK_b (by simp)) Zb (fun _=>rfl)
  (fun pre W=>(∃v,Boxed W w.heap.size 42 v/\W.ownsRow w.heap.size 9 1 v pre.length (lnV pre)/\True)/\Below w w W)
  (fun _ _ _=>False)
  (OwnFrom.and (Own.from (holdsRow_own w.heap.size w.heap.size 42 9 1 (fun pre:List LnT=>pre.length) (fun pre=>lnV pre) (fun _ _=>True)) _) (ownFrom_below Zl (by simp)))
  (fun _ _ _ _ _ hs _ _=>hs)
  ⟨⟨_,bO,World.ownsRow_nil _ _ _ _,trivial⟩,hB0⟩
  (fun x=>{tmps:=#[.slice none 0 0,.func (.func 112) #[] #[.pointer (some ⟨Bn,0,none⟩)],.pointer (some ⟨w,0,none⟩),undef,.slice none 0 0,.string x.1,.func (.func 112) #[] #[.pointer (some ⟨Bn,0,none⟩)],.string x.1,undef,undef,undef,undef,undef],defers:=[]}) ?assign ?body ?done ?stop
 case assign=>
  intro l x W K hK
  gi_wp2
  exact hK
 case body=>
  rintro l pre x W⟨⟨v,hv,hrow,_⟩,hB⟩hlt;have hc:=hv.cell
  gi_wp2_with (gi_at_builtin;refine wpListIn_append_own _ rfl _ _ 42 rfl w.heap.size 9 i0 (.string ⟨#[]⟩) 1 16 Tryz.underlying42 hi hz0 hz1 hz2 rfl (by decide) _ _ _ rfl (hrow.alloc _) ⟨W,0,none⟩ 1 1 [.string x.1] rfl rfl (cell_one_new _ _ _) (by simp[Value.oneCell']) (by unfold maxLen;omega) (by omega) (by have:=hB.size;simp;omega) ?_;intro v' w1 hown' hgrow _;obtain⟨g',cap',rfl⟩:=ownsRow_succ hown';obtain⟨hv1,hv2,hr2,hk2,hb2⟩:=hv.appended (by decide) hrow hB.size Zl hown' hgrow;have hc1:=hv1.cell;have hf1:=hv1.frozen)
  exact⟨hk2,hb2,⟨_,hv2,by rw[v7n];simpa using hr2,trivial⟩,hB.trans hb2⟩
 case done=>
  rintro D ys W hD hys⟨⟨v,hv,hrow,_⟩,hB⟩hK;have hc:=hv.cell;have hl:ys.length=(q1w s).length:=by rw[<-hys,List.length_map]
  have hcells:lnV ys=strCells (q1w s):=by rw[lnV,hys]
  rw[hl,hcells]at hrow
  obtain⟨A,c,rfl⟩:∃A c,v=.slice A (q1w s).length c:=by
   rcases hrow.2 with⟨hv,h0⟩|⟨g',c',cur,hv,_⟩
   ·exact⟨none,0,by rw[hv,h0]⟩
   ·exact⟨_,c',hv⟩
  gi_wp2
  refine⟨by simp,.inl ⟨_,_,rfl,run_takeDeferred hK,?_⟩⟩;exact⟨_,results_tmp rfl _ _ _,A,c,rfl,ownsRow_putObj hrow _ hK rfl,hB.trans (belowK_b (w:=w) Zl W D _ _ (by simp at hD;omega) hK rfl rfl)⟩
 case stop=>
  rintro D c pre W _ _ h _;exact h.elim
theorem k5t(s:ByteArray)(hs:s.size<=100000000)(Bn:Nat)(w:World)(hBn:Bn<w.heap.size)(hc:w.cell? ⟨Bn,0,none⟩=some (.string s)):
  Calls prog 81 #[.func (.func 112) #[] #[.pointer (some ⟨Bn,0,none⟩)]] w fun e w'=>∃A c,e=.returned (.slice A (q1w s).length c)/\q1j w (.slice A (q1w s).length c) (q1w s) w'/\Below w w w':=by
 have HA:Hid (Calls prog 135 #[.slice none 0 0,.func (.func 112) #[] #[.pointer (some ⟨Bn,0,none⟩)]] w fun e w'=>∃A c,e=.returned (.slice A (q1w s).length c)/\q1j w (.slice A (q1w s).length c) (q1w s) w'/\Below w w w'):=callsIn_wide.1 (j5k 3 Zl s hs Bn w hBn hc);clear hc hs
 generalize(q1w s).length=nl at HA⊢
 go_in;go_wp2_with fail;refine HA.o.mono ?_;rintro e w1⟨A,c,rfl,hO,b1⟩;have HO:Hid (q1j w (.slice A nl c) (q1w s) w1):=hO;clear hO;go_wp2;go_ret;exact⟨A,c,rfl,HO.o,b1⟩
end Go.Proofs.YthcpdohdppkmkaaGreatDoor
