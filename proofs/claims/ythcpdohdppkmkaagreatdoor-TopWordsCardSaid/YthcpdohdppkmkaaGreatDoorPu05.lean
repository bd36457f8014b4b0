import Derived.Test.YthcpdohdppkmkaaGreatDoorPu04
import Derived.Deep.OwnRows
import Derived.Deep.AppendLies
import Derived.OwnWalk
import Derived.Lib.SmallJoins
import Derived.Lib.Fields
import Derived.Lib.FrozenHead2
import Derived.Lib.OthersKept
import Derived.Lib.Slices
import Derived.Lib.Walk
import Derived.Laws.Externs
import Derived.Shelf.RegionOpenPlain
open Go.Proofs.Tryz
namespace Go.Proofs.YthcpdohdppkmkaaGreatDoor
open Go Go.RowKit
set_option maxRecDepth 100000
set_option maxHeartbeats 1000000
theorem z6g(s:ByteArray)(w:World):Calls prog 205 #[.string s] w fun e w'=>e=.returned (.bool (okW s))/\w=w':=by
 by_cases h1:(s.size:Int)<1
 ·have e:okW s=false:=by simp[okW];omega
  rw[e];clear e;go_in;go_wp2;go_ret;exact⟨rfl,rfl⟩
 by_cases h2:20<(s.size:Int)
 ·have e:okW s=false:=by simp[okW];omega
  rw[e];clear e;go_in;go_wp2;go_ret;exact⟨rfl,rfl⟩
 go_in;go_wp2
 go_loopw [14] (fun i wr=>wr=w/\∃k:Nat,k<=s.size/\i=.int .i64 k/\∀j(h:j<s.size),j<k->q8z s[j]=true) (fun i _=>s.size-(intOf i).toNat)
 case atStart=>exact⟨rfl,0,Nat.zero_le _,rfl,fun j _ hj=>by omega⟩
 case round=>
  obtain⟨rfl,k,hk,rfl,hall⟩:=hrel;have HA:Hid (∀j(h:j<s.size),j<k->q8z s[j]=true):=hall;clear hall;by_cases hlt:k<s.size
  ·cases hb:q8z s[k]with
   | false=>
    have HE:Hid (okW s=false):=y7o hlt hb;have hc:=k8s hb;clear hb;rcases hc with hc|⟨hc,hd⟩
    ·go_wp2;go_ret;exact⟨by rw[HE.o];rfl,rfl⟩
    ·go_wp2;go_ret;exact⟨by rw[HE.o];rfl,rfl⟩
   | true=>
    have HB:Hid (q8z s[k]=true):=hb;obtain⟨hc,hd⟩:=j4q hb;clear hb;go_wp2
    go_roundw
    case rel=>
     refine⟨by trivial,k+1,by omega,by go_num,?_⟩;intro j h hj;by_cases hjk:j=k
     ·subst hjk;exact HB.o
     ·exact HA.o j h (by omega)
    case measure=>simp[intOf];omega
  ·have HE:Hid (okW s=true):=v8m (by omega) (by omega) fun j h=>HA.o j h (by omega)
   go_wp2;go_ret;exact⟨by rw[HE.o];rfl,rfl⟩
theorem q6i(ws:List ByteArray)(a:Option Addr)(cap:Nat)(w:World)(hW:Wds w a ws):
  Calls prog 158 #[.slice a ws.length cap] w fun e w'=>e=.returned (q0s (q1i ws))/\w=w':=by
 have HW:Hid (Wds w a ws):=hW;clear hW;by_cases h1:60<(ws.length:Int)
 ·have HE:Hid (q1i ws=3):=q9r (by omega);go_in;go_wp2;go_ret;exact⟨by rw[HE.o];rfl,rfl⟩
 go_in;go_wp2
 go_loopw [11] (fun i wr=>wr=w/\∃k:Nat,k<=ws.length/\i=.int .i64 k/\∀j(h:j<ws.length),j<k->okW ws[j]=true) (fun i _=>ws.length-(intOf i).toNat)
 case atStart=>exact⟨rfl,0,Nat.zero_le _,rfl,fun j _ hj=>by omega⟩
 case round=>
  obtain⟨rfl,k,hk,rfl,hall⟩:=hrel;have HA:Hid (∀j(h:j<ws.length),j<k->okW ws[j]=true):=hall;clear hall;by_cases hlt:k<ws.length
  ·obtain⟨b0,o0,ea,hb0,c0⟩:=HW.o k hlt;subst ea;cases hb:okW ws[k]with
   | false=>
    have HE:Hid (q1i ws=5):=j4t (by omega) hlt hb;have HB:Hid (okW ws[k]=false):=hb;generalize ws[k]=x at c0 HB;clear hb;go_wp2_with fail;refine(z6g _ _).mono ?_;rintro e w2⟨rfl,rfl⟩;rw[HB.o];go_wp2;go_ret;exact⟨by rw[HE.o];rfl,rfl⟩
   | true=>
    have HB:Hid (okW ws[k]=true):=hb
    have HA':Hid (∀j(h:j<ws.length),j<k+1->okW ws[j]=true):=fun j h hj=>by
     by_cases hjk:j=k
     ·subst hjk;exact hb
     ·exact HA.o j h (by omega)
    generalize ws[k]=x at c0 HB;clear hb;go_wp2_with fail;refine(z6g _ _).mono ?_;rintro e w2⟨rfl,rfl⟩;rw[HB.o];go_wp2
    go_roundw
    case rel=>exact⟨by trivial,k+1,by omega,by go_num,HA'.o⟩
    case measure=>simp[intOf];omega
  ·have HE:Hid (q1i ws=0):=j4s (by omega) fun j h=>HA.o j h (by omega)
   go_wp2;go_ret;exact⟨by rw[HE.o];rfl,rfl⟩
theorem y7y(a:Option Addr)(n c k:Nat)(hk:k<=c)(W:World):
  (Instr.slice 42 (.slice a n c) none (some (.int .i64 (k:Int))) none).run prog W=.ok (.slice a k c) W:=by
 rw[run_slice_h W 42 a n c Tryz.underlying42 .i64 (k:Int) (by omega) (by omega)];have hz:(sizeOf (prog.elem 42)).run prog W=.ok 1 W:=by kernel_rfl
 rw[hz];simp[Result.andThen,sliced,Addr.add]
theorem y7z{B:Nat}{w:World}{b o c k:Nat}{ws:List ByteArray}(h:z3p B w (some ⟨b,o,none⟩) ws)(hk:k<=ws.length)(hc:ws.length<=c):
  ∃A,(∀W:World,(Instr.slice 42 (.slice (some ⟨b,o,none⟩) ws.length c) (some (.int .i64 (k:Int))) none none).run prog W=.ok (.slice A (ws.drop k).length (c-k)) W)/\z3p B w A (ws.drop k):=by
 refine⟨if c=k then some ⟨b,o,none⟩else some ⟨b,o+k,none⟩,fun W=>?_,?_⟩
 ·rw[run_slice_l W 42 _ ws.length c Tryz.underlying42 .i64 (k:Int) (by omega) (by omega)];have hz:(sizeOf (prog.elem 42)).run prog W=.ok 1 W:=by kernel_rfl
  rw[hz]
  have ha:(⟨b,o,none⟩:Addr).add k=⟨b,o+k,none⟩:=by
   unfold Addr.add
   split
   ·rename_i h;subst h;rfl
   ·rfl
  simp[Result.andThen,sliced,ha]
 ·by_cases e:c=k
  ·have:ws.drop k=[]:=List.drop_eq_nil_of_le (by omega)
   rw[this];exact z3p.nil _ _ _
  ·rw[if_neg e];exact h.drop k
theorem g2t(b o n c i k:Nat)(hi:i<c)(hk:i+k<=c)(W:World):
  (Instr.slice 42 (.slice (some ⟨b,o,none⟩) n c) (some (.int .i64 (i:Int))) (some (.int .i64 ((i:Int)+(k:Int)))) none).run prog W=.ok (.slice (some ⟨b,o+i,none⟩) k (c-i)) W:=by
 rw[run_slice_lh W 42 _ n c Tryz.underlying42 .i64 .i64 (i:Int) ((i:Int)+(k:Int)) (by omega) (by omega) (by omega)];have hz:(sizeOf (prog.elem 42)).run prog W=.ok 1 W:=by kernel_rfl
 rw[hz]
 have ha:(⟨b,o,none⟩:Addr).add i=⟨b,o+i,none⟩:=by
  unfold Addr.add
  split
  ·rename_i h;subst h;rfl
  ·rfl
 have e1:((i:Int)+(k:Int)).toNat=i+k:=by omega
 have e2:¬c=i:=by omega
 have e3:i+k-i=k:=by omega
 simp[Result.andThen,sliced,ha,e1,e2,e3]
theorem z7k:(prog.info? 3).map (fun i=>(i.zero,i.size,i.bytes))=some (some (.int .i64 0),1,8):=by kernel_rfl
theorem z3g:(prog.info? 9).map (fun i=>(i.zero,i.size,i.bytes))=some (some (.string ⟨#[]⟩),1,16):=by kernel_rfl
def k5f(w:World)(b n:Nat):Prop:=∃cs T,w.heap[b]?=some (.cells cs T (0,0))/\cs.size=n
theorem k5f.lt{w:World}{b n:Nat}(h:k5f w b n):b<w.heap.size:=by
 obtain⟨cs,T,h,_⟩:=h;rcases Nat.lt_or_ge b w.heap.size with h'|h'
 ·exact h'
 ·simp[Array.getElem?_eq_none h']at h
theorem k5f.cell{w:World}{b n i:Nat}(h:k5f w b n)(hi:i<n):∃y,w.cell? ⟨b,i,none⟩=some y:=by
 obtain⟨cs,T,h,hs⟩:=h;refine⟨cs[i],?_⟩;simp[World.cell?,h]
theorem k5f.frozen{w:World}{b n i:Nat}(h:k5f w b n):w.frozen? ⟨b,i,none⟩=false:=by
 obtain⟨cs,T,h,hs⟩:=h;simp[World.frozen?,h]
theorem k5f.kept{w w':World}{b n:Nat}(h:k5f w b n)(hb:w'.heap[b]?=w.heap[b]?):k5f w' b n:=by
 obtain⟨cs,T,h,hs⟩:=h;exact⟨cs,T,hb.trans h,hs⟩
theorem k5f.set{w:World}{b n c i:Nat}{v:Value}(h:k5f w b n):k5f (w.setCell ⟨c,i,none⟩ v) b n:=by
 by_cases e:c=b
 ·subst e;obtain⟨cs,T,h,hs⟩:=h;exact⟨cs.setIfInBounds i v,T,by simp[World.setCell,Array.getElem?_modify,h],by simpa using hs⟩
 ·exact h.kept (Below.heap_setCell _ _ _ _ (Ne.symm e))
theorem v0f{n j:Nat}(z:Value)(h:j<n):(madeCells #[z] n)[j]?=some z:=by
 simp[madeCells,h,Nat.mod_one]
def q2f(ks:List Nat):List Value:=ks.map fun(k:Nat)=>.int .i64 (k:Int)
theorem z3d(a b:List Nat):q2f (a++b)=q2f a++q2f b:=by simp[q2f]
def z1w(B:Nat)(v:Value)(ks:List Nat)(w:World):Prop:=w.ownsRow B 3 1 v ks.length (q2f ks)
theorem q5n{B:Nat}{w w':World}(h:Below B w w')(n:Nat):Below B w (w'.drewN n):=h.trans ⟨rfl,rfl,rfl,Nat.le_refl _,fun _ _=>rfl⟩
theorem j5s{B:Nat}{w w':World}{b1 o1 b2 o2:Nat}{v1 v2:Value}(h:Below B w w')(h1:B<=b1)(h2:B<=b2):Below B w ((w'.setCell ⟨b1,o1,none⟩ v1).setCell ⟨b2,o2,none⟩ v2):=
 (h.setCell (p:=⟨b1,o1,none⟩) h1 _).setCell (p:=⟨b2,o2,none⟩) h2 _
theorem z7x{B:Nat}{w:World}{A:Option Addr}{n c:Nat}{ks:List Nat}(h:z1w B (.slice A n c) ks w)(j:Nat)(hj:j<ks.length):∃g,A=some ⟨g,0,none⟩/\g<w.heap.size/\w.cell? ⟨g,j,none⟩=some (.int .i64 ((ks[j]:Nat):Int)):=by
 rcases h.2 with⟨hv,h0⟩|⟨g,c,cur,hv,_,hg,hnc,_,hsz,htake⟩
 ·omega
 ·simp only[Value.slice.injEq]at hv;obtain⟨rfl,rfl,rfl⟩:=hv;refine⟨g,rfl,(Array.getElem?_eq_some_iff.1 hg).1,?_⟩;have hk:(q2f ks)[j]?=some (.int .i64 ((ks[j]:Nat):Int)):=by simp[q2f,hj]
  rw[<-htake]at hk;rw[List.getElem?_take_of_lt (by omega)]at hk;simp only[World.cell?,hg];simpa using hk
theorem q2r{w w':World}{B e size n:Nat}{v:Value}{xs:List Value}(h:w.ownsRow B e size v n xs)(hb:Below w w w'):w'.ownsRow B e size v n xs:=by
 refine⟨h.1,?_⟩;rcases h.2 with h0|⟨g,c,cur,rfl,hB,hg,rest⟩
 ·exact .inl h0
 ·exact .inr ⟨g,c,cur,rfl,hB,(hb.block g (Array.getElem?_eq_some_iff.1 hg).1).trans hg,rest⟩
def strCells(xs:List ByteArray):List Value:=xs.map fun x=>.string x
theorem q3e(a b:List ByteArray):strCells (a++b)=strCells a++strCells b:=by simp[strCells]
def q1j(B:Nat)(v:Value)(xs:List ByteArray)(w:World):Prop:=w.ownsRow B 9 1 v xs.length (strCells xs)
theorem q6g{B:Nat}{w:World}{A:Option Addr}{n c:Nat}{xs:List ByteArray}(h:q1j B (.slice A n c) xs w):Wds w A xs:=by
 intro j hj;rcases h.2 with⟨hv,h0⟩|⟨g,c,cur,hv,_,hg,hnc,_,hsz,htake⟩
 ·omega
 ·simp only[Value.slice.injEq]at hv;obtain⟨rfl,rfl,rfl⟩:=hv;refine⟨g,0,rfl,(Array.getElem?_eq_some_iff.1 hg).1,?_⟩;have hk:(strCells xs)[j]?=some (.string xs[j]):=by simp[strCells,hj]
  rw[<-htake]at hk;rw[List.getElem?_take_of_lt (by omega)]at hk;rw[Nat.zero_add];simp only[World.cell?,hg];simpa using hk
theorem v1j{w:World}{B e size n k:Nat}{v:Value}{xs:List Value}(h:w.ownsRow B e size v n xs)(hk:v.ownBlock=some k):∃cur,w.heap[k]?=some (.cells cur e (0,0)):=by
 rcases h.2 with⟨rfl,_⟩|⟨g,c,cur,rfl,_,hg,_⟩
 ·simp[Value.ownBlock]at hk
 ·simp only[Value.ownBlock,Option.some.injEq]at hk;subst hk;exact⟨cur,hg⟩
theorem k0g{w w':World}{B B' e e' size size' n n':Nat}{v v':Value}{xs xs':List Value}(h:w.ownsRow B e size v n xs)(h':w.ownsRow B' e' size' v' n' xs')(he:e≠e')(hg:w.grownBy w' v'.ownBlock):w'.ownsRow B e size v n xs:=by
 refine h.kept hg ?_;cases hv:v.ownBlock with
 | none=>exact .inl rfl
 | some k=>
  refine .inr fun e0=>?_
  obtain⟨c1,h1⟩:=v1j h hv;obtain⟨c2,h2⟩:=v1j h' e0.symm;rw[h1]at h2;cases h2;exact he rfl
def y9a(ps:List (List Td)):ByteArray:=if(q0q ps).2=0 then wbS (q1o ps)else⟨#[]⟩
theorem k7f{ps:List (List Td)}(h:(q0q ps).2=0):y9a ps=wbS (q1o ps):=by rw[y9a,if_pos h]
theorem y7s{ps:List (List Td)}(h:(q0q ps).2≠0):y9a ps=⟨#[]⟩:=by rw[y9a,if_neg h]
def z4g(s:ByteArray)(W:World)(e:Ending)(w':World):Prop:=∃ps k f A c,e=.returned (.tuple #[.slice A ps.length c,.int .i64 k,q0s f])/\q2h s ps k f/\Prg w' A ps/\ps.length<=c/\Below W W w'
theorem v8w{s:ByteArray}{ps:List (List Td)}{k f:Int}(h:q2h s ps k f):ps.length<=20/\∀t∈ps,t.length<=40:=by
 cases h with
 | lex=>exact⟨by simp,fun t ht=>by cases ht⟩
 | bad=>exact⟨by simp,fun t ht=>by cases ht⟩
 | full=>exact⟨by simp,fun t ht=>by cases ht⟩
 | ok _ _ hf=>
  obtain⟨h1,h2⟩:=q2y hf;exact⟨h1,fun t ht=>(q2o (q9p ps 0 h2 t ht)).1⟩
abbrev neW(w:Wd):Bool:=!w.isEmpty
theorem k6e:∀(ws:List Wd)(t:Wd),ws.foldl z1t t=(ws.filter neW).foldl z1t t
 | [],_=>rfl
 | w::r,t=>by
  cases w with
  | nil=>
   have e:z1t t []=t:=by simp[z1t]
   rw[List.foldl_cons,e,k6e r t];rfl
  | cons c z=>exact k6e r _
theorem z4t:∀(l cur h:Wd)(tl:List Wd),(∀b∈l,Lib.isSp b=true->b=32)->q5r l=h::tl->Lib.fieldsGo cur l=((cur++h)::tl).filter neW
 | [],cur,h,tl,_,e=>by
  have e2:[[]]=h::tl:=e;simp only[List.cons.injEq]at e2;obtain⟨rfl,rfl⟩:=e2;cases cur<;>simp[Lib.fieldsGo]
 | b::l,cur,h,tl,hb,e=>by
  have hl:∀x∈l,Lib.isSp x=true->x=32:=fun x hx=>hb x (by simp[hx])
  cases hs:q5r l with
  | nil=>exact absurd hs (q6z l)
  | cons h2 tl2=>
   by_cases h32:b=32
   ·subst h32;rw[q6e,hs]at e;simp only[List.cons.injEq]at e;obtain⟨rfl,rfl⟩:=e;have ih:=z4t l [] h2 tl2 hl hs;have hsp:Lib.isSp 32=true:=by decide
    cases cur with
    | nil=>rw[Lib.fieldsGo_sp _ _ hsp,ih];simp
    | cons a z=>rw[Lib.fieldsGo_end _ _ _ hsp (by simp),ih];simp
   ·have hsp:Lib.isSp b=false:=by
     cases hq:Lib.isSp b with
     | false=>rfl
     | true=>exact absurd (hb b (by simp) hq) h32
    rw[q6f h32 hs]at e;simp only[List.cons.injEq]at e;obtain⟨rfl,rfl⟩:=e;rw[Lib.fieldsGo_more _ _ _ hsp,z4t l (cur++[b]) h2 tl2 hl hs];simp
theorem z2e{l:Wd}(h:∀b∈l,Lib.isSp b=true->b=32):Lib.fields l=(q5r l).filter neW:=by
 cases hs:q5r l with
 | nil=>exact absurd hs (q6z l)
 | cons a tl=>exact z4t l [] a tl h hs
theorem k2f{l:Wd}(h:∀b∈l,Lib.isSp b=true->b=32):∀w∈Lib.fields l,w≠[]:=by
 intro w hw;rw[z2e h]at hw
 have:=(List.mem_filter.1 hw).2
 rintro rfl;simp at this
theorem j3f{l:Wd}(h:∀b∈l,Lib.isSp b=true->b=32):ntx (q0j l)=jb (Lib.fields l):=by
 have e:(q0j l).filter neW=Lib.fields l:=by
  rw[z2e h];unfold q0j
  split
  ·rename_i h0;subst h0;rfl
  ·rfl
 rw[<-y2j (k2f h),<-e,ntx,ntx,k6e]
theorem j8v:∀(a b:List Wd),a≠[]->b≠[]->jb (a++b)=jb a++32::jb b
 | [w],b,_,hb=>by
  cases b with
  | nil=>exact absurd rfl hb
  | cons x y=>simp[jb]
 | w::u::r,b,_,hb=>by
  have ih:=j8v (u::r) b (by simp) hb;rw[List.cons_append]at ih;simp only[List.cons_append,jb]at ih⊢;rw[ih];simp
theorem y1v{a:List Wd}(h:∀w∈a,w≠[]):jb a=[]↔a=[]:=by
 cases a with
 | nil=>simp[jb]
 | cons w r=>
  have:=h w (by simp)
  constructor
  ·intro e;have e2:w++(match r with|[]=>[]|_::_=>32::jb r)=[]:=e;exact absurd (List.append_eq_nil_iff.1 e2).1 this
  ·intro e;cases e
theorem y3p{a b:List Wd}(ha:∀w∈a,w≠[])(hb:∀w∈b,w≠[]):z1t (jb a) (jb b)=jb (a++b):=by
 by_cases h1:a=[]
 ·subst h1
  have:jb ([]:List Wd)=[]:=rfl
  rw[this,z1t,if_neg (by simp)];rfl
 ·by_cases h2:b=[]
  ·subst h2
   have:jb ([]:List Wd)=[]:=rfl
   rw[this,z1t,if_neg (by simp)];simp
  ·have e1:jb a≠[]:=fun e=>h1 ((y1v ha).1 e)
   have e2:jb b≠[]:=fun e=>h2 ((y1v hb).1 e)
   rw[z1t,if_pos ⟨e2,e1⟩,j8v a b h1 h2];simp
theorem j8w:∀ws:List Wd,Lib.join ws [32]=jb ws
 | []=>rfl
 | [w]=>by rw[Lib.join_one];simp[jb]
 | w::u::r=>by
  have ih:=j8w (u::r);rw[Lib.join_cons]at ih⊢;rw[jb,<-ih];simp[Lib.joinTail]
def q9u(w:Wd):List Wd:=Lib.fields (w.drop 1)
def y1u(w:Wd):Prop:=w.headD 0=35/\∀b∈w,prB b=true
theorem g2n{b:UInt8}(h:prB b=true)(hs:Lib.isSp b=true):b=32:=by
 simp only[prB,Bool.and_eq_true,decide_eq_true_eq]at h;simp only[Lib.isSp,Bool.or_eq_true,beq_iff_eq]at hs;have h1:=h.1;rcases hs with(((((e|e)|e)|e)|e)|e)<;>subst e<;>first|rfl|(exfalso;revert h1;decide)
theorem g1z{w:Wd}(h:y1u w):∀b∈w.drop 1,Lib.isSp b=true->b=32:=fun b hb hs=>g2n (h.2 b (List.mem_of_mem_drop hb)) hs
theorem g2a{w:Wd}(h:y1u w):q5i w=jb (q9u w):=j3f (g1z h)
theorem j8d{w:Wd}(h:y1u w):∀x∈q9u w,x≠[]:=k2f (g1z h)
theorem j5h(acc:List (List Td))(X t:Wd):k5g true (acc++[[ntT X]]) t=acc++[[ntT (z1t X t)]]:=by
 have e:q5g (acc++[[ntT X]])=X:=by
  simp only[q5g,List.getLast?_append,List.getLast?_singleton];rfl
 rw[k5g,if_pos rfl,e,List.dropLast_concat]
theorem v1n:∀(nts:List Wd)(acc:List (List Td))(W:List Wd)(ts:List Wd)(r:Rp),(∀w∈nts,y1u w)->(∀x∈W,x≠[])->PG true (acc++[[ntT (jb (W++nts.flatMap q9u))]]) ts r->PG true (acc++[[ntT (jb W)]]) (nts++ts) r
 | [],acc,W,ts,r,_,_,h=>by simpa using h
 | w::z,acc,W,ts,r,hn,hW,h=>by
  have hw:=hn w (by simp);refine .note hw.1 ?_;rw[j5h,g2a hw,y3p hW (j8d hw)];refine v1n z acc (W++q9u w) ts r (fun x hx=>hn x (by simp[hx])) ?_ ?_
  ·intro x hx;rcases List.mem_append.1 hx with hx|hx
   ·exact hW x hx
   ·exact j8d hw x hx
  ·rw[List.flatMap_cons,<-List.append_assoc]at h;exact h
theorem v8z{nts:List Wd}{acc:List (List Td)}{ts:List Wd}{r:Rp}(h0:nts≠[])(hn:∀w∈nts,y1u w)(h:PG true (acc++[[ntT (jb (nts.flatMap q9u))]]) ts r):PG false acc (nts++ts) r:=by
 cases nts with
 | nil=>exact absurd rfl h0
 | cons w z=>
  have hw:=hn w (by simp);refine .note hw.1 ?_;rw[k5g,if_neg (by simp),g2a hw];refine v1n z acc (q9u w) ts r (fun x hx=>hn x (by simp[hx])) (j8d hw) ?_;rw[List.flatMap_cons]at h;exact h
theorem v2z{p:UInt8->Bool}{c:UInt8}{r:List UInt8}(hc:p c=true)(hl:(r.takeWhile p).length+1=(c::r).length):∀b∈c::r,p b=true:=by
 have hall:r.takeWhile p=r:=by
  have h1:=z6x (p:=p) r;rw[show(r.takeWhile p).length=r.length by simp only[List.length_cons]at hl;omega,List.take_length]at h1;exact h1.symm
 have hta:∀(l:List UInt8)x,x∈l.takeWhile p->p x=true:=by
  intro l
  induction l with
  | nil=>intro x hx;cases hx
  | cons a l ih=>
   intro x hx;rw[List.takeWhile_cons]at hx;by_cases ha:p a=true
   ·rw[if_pos ha]at hx;rcases List.mem_cons.1 hx with rfl|hx
    ·exact ha
    ·exact ih x hx
   ·rw[if_neg ha]at hx;cases hx
 intro b hb;rcases List.mem_cons.1 hb with rfl|hb
 ·exact hc
 ·rw[<-hall]at hb;exact hta r b hb
theorem y3c{w:Wd}(h:q3v w):w≠[]:=by
 obtain⟨c,r,rfl,_⟩:=h;simp
theorem y0c{w:Wd}(h:q3v w):nmW w=(decide (w≠q9l)&&q3w (w.headD 0)):=by
 obtain⟨c,r,rfl,_,ho,hl,_⟩:=h;have hb:btL (wbS (c::r))=c::r:=rfl;have hsz:(wbS (c::r)).size=(c::r).length:=by rw[<-q0b,hb]
 unfold nmW q0z;rw[hb,hsz];show _=(decide ((c::r)≠q9l)&&q3w c);cases hc:q3w c with
 | false=>simp[hc]
 | true=>
  simp only[q5f,hc,if_true,decide_eq_true_eq]at ho;simp only[q0t,hc,if_true]at hl;have h1:=v2z hc hl;have h2:(c::r).all q3w=true:=List.all_eq_true.2 h1;rw[h2];have h3:(c::r).length<=8:=by omega
  simp only[List.length_cons]at h3⊢;simp;omega
theorem v3a{w:Wd}(h:q3v w)(hn:z7w w=true):(∀b∈w,q4d b=true)/\w.length<=6:=by
 obtain⟨c,r,rfl,_,ho,hl,_⟩:=h;have hf:q4d c=true:=hn;have hlow:q3w c=false:=z9c hf;simp only[q5f,hlow,hf,if_true,Bool.false_eq_true,if_false,Bool.and_eq_true,decide_eq_true_eq]at ho;simp only[q0t,hlow,hf,if_true,Bool.false_eq_true,if_false]at hl;exact⟨v2z hf hl,by omega⟩
theorem g3d{w:Wd}(h:q3v w)(hn:w.headD 0=35):y1u w:=by
 obtain⟨c,r,rfl,_,ho,hl,_⟩:=h;have hc:c=35:=hn;subst hc;have h1:q3w 35=false:=by decide
 have h2:q4d 35=false:=by decide
 have h3:((35:UInt8)==35)=true:=by decide
 simp only[q5f,h1,h2,h3,if_true,Bool.false_eq_true,if_false]at ho;simp only[q0t,h1,h2,h3,if_true,Bool.false_eq_true,if_false]at hl
 have hall:r.takeWhile nlB=r:=by
  have h4:=z6x (p:=nlB) r;rw[show(r.takeWhile nlB).length=r.length by simp only[List.length_cons]at hl;omega,List.take_length]at h4;exact h4.symm
 rw[hall,List.all_eq_true]at ho;refine⟨rfl,fun b hb=>?_⟩;rcases List.mem_cons.1 hb with rfl|hb
 ·decide
 ·exact ho b hb
structure q0p(B b:Nat)(w w':World):Prop where
 os:w'.os=w.os
 tape:w'.tape=w.tape
 output:w'.output=w.output
 size:w.heap.size<=w'.heap.size
 block:∀k,k<B->k≠b->w'.heap[k]?=w.heap[k]?
section
variable {B b:Nat} {w w' a:World}
theorem q0p.refl(B b:Nat)(w:World):q0p B b w w:=⟨rfl,rfl,rfl,Nat.le_refl _,fun _ _ _=>rfl⟩
theorem q0p.trans{c:World}(h:q0p B b a w)(k:q0p B b w c):q0p B b a c:=
 ⟨k.os.trans h.os,k.tape.trans h.tape,k.output.trans h.output,Nat.le_trans h.size k.size,fun i hi hb=>(k.block i hi hb).trans (h.block i hi hb)⟩
theorem q0p.drew(h:q0p B b a w):q0p B b a w.drew:=⟨h.os,h.tape,h.output,h.size,h.block⟩
theorem q0p.of(h:Below B w w'):q0p B b w w':=⟨h.os,h.tape,h.output,h.size,fun k hk _=>h.block k hk⟩
theorem q0p.W(h:q0p B b w w')(hB:B<=b):Below B w w':=⟨h.os,h.tape,h.output,h.size,fun k hk=>h.block k hk (by omega)⟩
theorem q0p.mono{B':Nat}(h:q0p B b w w')(hB:B'<=B):q0p B' b w w':=⟨h.os,h.tape,h.output,h.size,fun k hk=>h.block k (by omega)⟩
theorem q0p.alloc(h:q0p B b a w)(hB:B<=w.heap.size)(o:Obj):q0p B b a (w.alloc o):=
 h.trans (.of ((Below.refl B w).alloc hB o))
theorem q0p.setCell(h:q0p B b a w){p:Addr}(hp:p.block=b\/B<=p.block)(u:Value):q0p B b a (w.setCell p u):=
 h.trans ⟨rfl,rfl,rfl,by simp[World.setCell],fun k hk hb=>Below.heap_setCell _ _ _ _ (by omega)⟩
theorem q0p.grown{row:Option Nat}(h:q0p B b a w)(hg:w.grownBy w' row)(hB:B<=w.heap.size)(hr:∀k,row=some k->B<=k):q0p B b a w':=
 h.trans ⟨hg.os,hg.tape,hg.output,hg.size,fun k hk _=>hg.block k (by omega) (fun e=>by have:=hr k e.symm;omega)⟩
theorem q0p.cell(h:q0p B b w w'){p:Addr}(hp:p.block<B)(hb:p.block≠b):w'.cell? p=w.cell? p:=World.cell?_of_block (w:=w) (h.block p.block hp hb)
end
def XAt(T:TypeId)(B b:Nat)(p:Value)(bs R:List Value)(w:World):Prop:=
 ∃v,w.heap[b]?=some (.cells (p::v::R).toArray T (0,0))/\w.ownsRowF B 5 1 v bs.length bs/\v.ownBlock≠some b/\(bs=[]->v=.slice none 0 0)
def IsX(T:TypeId)(B b:Nat)(bs R:List Value)(w:World):Prop:=
 XAt T B b (.pointer none) bs R w\/XAt T B b (.pointer (some ⟨b,0,none⟩)) bs R w
section
variable {T:TypeId} {B b:Nat} {p:Value} {bs R:List Value} {w:World}
theorem XAt.cell0(h:XAt T B b p bs R w):w.cell? ⟨b,0,none⟩=some p:=by
 obtain⟨v,hb,_⟩:=h;simp[World.cell?,hb]
theorem XAt.cellR(h:XAt T B b p bs R w)(i:Nat):w.cell? ⟨b,i+2,none⟩=R[i]?:=by
 obtain⟨v,hb,_⟩:=h;simp[World.cell?,hb]
theorem XAt.shape(h:XAt T B b p bs R w):w.shape? b=some (T,R.length+2):=by
 obtain⟨v,hb,_⟩:=h;simp[World.shape?,hb]
theorem XAt.lt(h:XAt T B b p bs R w):b<w.heap.size:=by
 obtain⟨v,hb,_⟩:=h;rcases Nat.lt_or_ge b w.heap.size with h'|h'
 ·exact h'
 ·simp[Array.getElem?_eq_none h']at hb
theorem XAt.used(h:XAt T B b p bs R w)(q:Value):XAt T B b q bs R (w.setCell ⟨b,0,none⟩ q):=by
 obtain⟨v,hb,hown,hne,h0⟩:=h;refine⟨v,?_,?_,hne,h0⟩
 ·simp[World.setCell,Array.getElem?_modify,hb]
 ·exact hown.kept (row:=some b) ⟨rfl,rfl,rfl,by simp[World.setCell],fun k _ hk=>Below.heap_setCell _ _ _ _ (fun e=>hk (by simp[e]))⟩ (Or.inr hne)
theorem XAt.stored(h:XAt T B b p bs R w)(i:Nat)(q:Value):XAt T B b p bs (R.set i q) (w.setCell ⟨b,i+2,none⟩ q):=by
 obtain⟨v,hb,hown,hne,h0⟩:=h;refine⟨v,?_,?_,hne,h0⟩
 ·simp[World.setCell,Array.getElem?_modify,hb]
 ·exact hown.kept (row:=some b) ⟨rfl,rfl,rfl,by simp[World.setCell],fun k _ hk=>Below.heap_setCell _ _ _ _ (fun e=>hk (by simp[e]))⟩ (Or.inr hne)
theorem XAt.frozen(h:XAt T B b p bs R w)(i:Nat):w.frozen? ⟨b,i,none⟩=false:=by
 obtain⟨v,hb,_⟩:=h;simp[World.frozen?,hb]
theorem XAt.put{v v':Value}{bs':List Value}(hb:w.heap[b]?=some (.cells (p::v::R).toArray T (0,0)))(hown:w.ownsRowF B 5 1 v' bs'.length bs')(hTe:T≠5)(h0:bs'=[]->v'=.slice none 0 0):
  XAt T B b p bs' R (w.setCell ⟨b,1,none⟩ v'):=by
 have hne:=Lib.ownBlock_neF hown hb hTe;refine⟨v',?_,?_,hne,h0⟩
 ·simp[World.setCell,Array.getElem?_modify,hb]
 ·exact hown.kept (row:=some b) ⟨rfl,rfl,rfl,by simp[World.setCell],fun k _ hk=>Below.heap_setCell _ _ _ _ (fun e=>hk (by simp[e]))⟩ (Or.inr hne)
theorem XAt.alloc(h:XAt T B b p bs R w)(o:Obj):XAt T B b p bs R (w.alloc o):=by
 have hlt:=h.lt;obtain⟨v,hb,hown,hne,h0⟩:=h;exact⟨v,(Lib.alloc_old w o b hlt).trans hb,hown.kept (World.grownBy_alloc w o none) (by cases hv:v.ownBlock<;>simp),hne,h0⟩
theorem XAt.far{b':Nat}{w':World}{c:Array Value}{t:TypeId}{fz:Nat × Nat}(h:XAt T B b p bs R w)(hx:q0p w b' w w')(hbb:b≠b')(hb':w.heap[b']?=some (.cells c t fz))(ht:t≠5):XAt T B b p bs R w':=by
 have hlt:=h.lt;obtain⟨v,hb,hown,hne,h0⟩:=h;refine⟨v,(hx.block b hlt hbb).trans hb,hown.kept (row:=some b') ⟨hx.os,hx.tape,hx.output,hx.size,fun k hk hkb=>hx.block k hk (fun e=>hkb (by rw[e]))⟩ (Or.inr ?_),hne,h0⟩;exact Lib.ownBlock_neF hown hb' ht
theorem IsX.at(h:IsX T B b bs R w):∃p,XAt T B b p bs R w:=by
 rcases h with h|h
 ·exact⟨_,h⟩
 ·exact⟨_,h⟩
theorem IsX.lt(h:IsX T B b bs R w):b<w.heap.size:=h.at.elim fun _ h=>h.lt
theorem IsX.cellR(h:IsX T B b bs R w)(i:Nat):w.cell? ⟨b,i+2,none⟩=R[i]?:=h.at.elim fun _ h=>h.cellR i
theorem IsX.frozen(h:IsX T B b bs R w)(i:Nat):w.frozen? ⟨b,i,none⟩=false:=h.at.elim fun _ h=>h.frozen i
theorem IsX.alloc(h:IsX T B b bs R w)(o:Obj):IsX T B b bs R (w.alloc o):=h.imp (·.alloc o) (·.alloc o)
theorem IsX.stored(h:IsX T B b bs R w)(i:Nat)(q:Value):IsX T B b bs (R.set i q) (w.setCell ⟨b,i+2,none⟩ q):=h.imp (·.stored i q) (·.stored i q)
theorem IsX.drew(h:IsX T B b bs R w):IsX T B b bs R w.drew:=h
theorem IsX.far{b':Nat}{w':World}{c:Array Value}{t:TypeId}{fz:Nat × Nat}(h:IsX T B b bs R w)(hx:q0p w b' w w')(hbb:b≠b')(hb':w.heap[b']?=some (.cells c t fz))(ht:t≠5):IsX T B b bs R w':=h.imp (·.far hx hbb hb' ht) (·.far hx hbb hb' ht)
theorem IsX.fresh(T:TypeId)(w:World)(R:List Value):IsX T w.heap.size w.heap.size [] R (w.alloc (.cells (.pointer none::.slice none 0 0::R).toArray T)):=
 Or.inl ⟨.slice none 0 0,heap_alloc_new w _,World.ownsRowF_nil _ _ _ _,by simp[Value.ownBlock],fun _=>rfl⟩
theorem IsX.unused(T:TypeId)(B b:Nat)(w:World)(R:List Value)(h:w.heap[b]?=some (.cells (.pointer none::.slice none 0 0::R).toArray T (0,0))):IsX T B b [] R w:=
 Or.inl ⟨.slice none 0 0,h,World.ownsRowF_nil _ _ _ _,by simp[Value.ownBlock],fun _=>rfl⟩
end
theorem y0s:(prog.info? 5).map (fun i=>(i.zero,i.size,i.bytes))=some (some (.int .u8 0),1,1):=by kernel_rfl
theorem y3g:prog.cellsOf 5=1:=by kernel_rfl
theorem y0w:(prog.info? 96).map (·.size)=some 2:=by kernel_rfl
theorem k8x(b:Nat)(w:World)(h0:w.cell? ⟨b,0,none⟩=some (.pointer (some ⟨b,0,none⟩))):
  Calls prog 84 #[.pointer (some ⟨b,0,none⟩)] w fun e w'=>e=.returned (.tuple #[])/\w'=w:=by
 obtain⟨j,hj,_⟩:=Option.map_eq_some_iff.1 y0w;go_in;go_wp2;rw[Lib.run_neq_ptr_same w _ Tryz.underlying93 hj];go_wp2
 go_end0
 exact⟨rfl,rfl⟩
theorem k5b(T n b:Nat)(w:World)(hl:liesAt prog prog.depth T (n / prog.cellsOf T) 0 96 1=true)(h0:w.cell? ⟨b,0,none⟩=some (.pointer none))(hsh:w.shape? b=some (T,n))(hn:0<n)(hfz:w.frozen? ⟨b,0,none⟩=false):
  Calls prog 84 #[.pointer (some ⟨b,0,none⟩)] w fun e w'=>e=.returned (.tuple #[])/\w'=w.setCell ⟨b,0,none⟩ (.pointer (some ⟨b,0,none⟩)):=by
 obtain⟨j,hj,hjs⟩:=Option.map_eq_some_iff.1 y0w;have HL:Hid (liesAt prog prog.depth T (n / prog.cellsOf T) 0 96 1=true):=hl;have HS:Hid (w.shape? b=some (T,n)):=hsh;have HJ:Hid (j.size≠0):=(show j.size≠0 by rw[hjs];decide);clear hl hsh hjs;go_in;go_wp2;rw[Lib.run_to_unsafe w ⟨b,0,none⟩ Tryz.underlying93 Tryz.underlying219 hj HJ.o HS.o hn];simp only[Result.andThen];rw[Oper.upon_value];go_wp2;rw[run_callFunc_extern func140 (by kernel_rfl) (by kernel_rfl) (by kernel_rfl) (e:=Extern.AbiNoEscape.same) (by kernel_rfl)];rw[Lib.run_noEscape];simp only[Result.andThen];rw[Oper.upon_value];go_wp2;rw[Lib.run_from_unsafe w ⟨b,0,none⟩ Tryz.underlying219 Tryz.underlying93 hj HS.o HL.o];simp only[Result.andThen];rw[Oper.upon_value];go_wp2
 go_end0
 exact⟨rfl,rfl⟩
def z1v(T n:Nat):Prop:=liesAt prog prog.depth T (n / prog.cellsOf T) 0 96 1=true
theorem z2z(T B b:Nat)(bs R:List Value)(w:World)(hl:z1v T (R.length+2))(h:IsX T B b bs R w):
  Calls prog 84 #[.pointer (some ⟨b,0,none⟩)] w fun e w'=>e=.returned (.tuple #[])/\(XAt T B b (.pointer (some ⟨b,0,none⟩)) bs R w'/\q0p B b w w'/\Lib.OthersKept 5 (some b) w w'):=by
 rcases h with h|h
 ·refine(k5b T (R.length+2) b w hl h.cell0 h.shape (by omega) (h.frozen 0)).mono ?_;rintro e w'⟨rfl,rfl⟩;exact⟨rfl,h.used _,(q0p.refl B b w).setCell (p:=⟨b,0,none⟩) (.inl rfl) _,(Lib.OthersKept.refl _ _ w).setCell ⟨b,0,none⟩ rfl _⟩
 ·refine(k8x b w h.cell0).mono ?_;rintro e w'⟨rfl,rfl⟩;exact⟨rfl,h,q0p.refl B b _,Lib.OthersKept.refl _ _ _⟩
set_option maxHeartbeats 2000000
theorem k5a(T B b:Nat)(bs R:List Value)(c:Int)(w:World)(hl:z1v T (R.length+2))(hT:T≠5)(h:IsX T B b bs R w)(hlen:bs.length+1<=140737488355328)(hBw:B<=w.heap.size):
  Calls prog 55 #[.pointer (some ⟨b,0,none⟩),.int .u8 c] w fun e w'=>e=.returned .nilIface/\(IsX T B b (bs++[.int .u8 c]) R w'/\q0p B b w w'/\Lib.OthersKept 5 (some b) w w'):=by
 obtain⟨i0,hi,hz0,hz1,hz2⟩:=info_parts y0s;have HL:Hid (z1v T (R.length+2)):=hl;have HT:Hid (T≠5):=hT;have H:Hid (IsX T B b bs R w):=h;clear hl hT h;go_in;go_wp2_with(go_at_call 84;refine(z2z T B b bs R _ HL.o H.o).mono ?_);rintro e w1⟨rfl,h1,hb1,hk1⟩;obtain⟨v,hbk,hown,hne,_⟩:=h1;have c0:w1.cell? ⟨b,0,none⟩=some (.pointer (some ⟨b,0,none⟩)):=by rw[Lib.cell_of_heap hbk];rfl
 have c1:w1.cell? ⟨b,1,none⟩=some v:=by rw[Lib.cell_of_heap hbk];rfl
 go_wp2_with(at_builtin;refine wpList_append_ownF _ rfl _ _ 94 rfl B 5 i0 (.int .u8 0) 1 1 Tryz.underlying94 hi hz0 hz1 hz2 rfl (by decide) _ _ _ rfl (hown.alloc _) ⟨w1,0,none⟩ 1 1 [.int .u8 c] rfl rfl ?c1 ?c2 ?c3 ?c4 ?c5 ?_)
 case c1=>
  intro j u hj
  match j,hj with
  | 0,hj=>simp at hj;subst hj;simp[Addr.add]
 case c2=>intro u hu;simp at hu;subst hu;rfl
 case c3=>unfold maxLen;omega
 case c4=>omega
 case c5=>have:=hb1.size;simp;omega
 intro v' w2 hown' hgrow _
 have hlt:b<w1.heap.size:=by
  rcases Nat.lt_or_ge b w1.heap.size with h'|h'
  ·exact h'
  ·simp[Array.getElem?_eq_none h']at hbk
 have hb2:w2.heap[b]?=some (.cells (.pointer (some ⟨b,0,none⟩)::v::R).toArray T (0,0)):=by
  rw[hgrow.block b (by simp;omega) (fun e=>hne e.symm),Lib.alloc_old w1 _ b hlt];exact hbk
 have d0:w2.cell? ⟨b,0,none⟩=some (.pointer (some ⟨b,0,none⟩)):=by rw[Lib.cell_of_heap hb2];rfl
 have d1:w2.cell? ⟨b,1,none⟩=some v:=by rw[Lib.cell_of_heap hb2];rfl
 have f1:w2.frozen? ⟨b,1,none⟩=false:=Lib.frozen_of_heap hb2 1
 obtain⟨g,cap,rfl⟩:∃g cap,v'=.slice (some ⟨g,0,none⟩) (bs.length+1) cap:=by
  rcases hown'.2 with⟨_,h0⟩|⟨g,cap,cur,fz,hv,_⟩
  ·omega
  ·exact⟨g,cap,hv⟩
 go_wp2;go_ret;refine⟨rfl,.inr ?_,?_,((hk1.alloc _).grown hgrow (Lib.ownsRowF_kind (hown.alloc _))).setCell ⟨b,1,none⟩ rfl _⟩
 ·exact XAt.put hb2 (bs':=bs++[.int .u8 c]) (by simpa using hown') HT.o (fun h=>by simp at h)
 ·exact((hb1.alloc (by have:=hb1.size;omega) _).grown hgrow (by have:=hb1.size;simp;omega) (fun k hk=>(hown.lt k hk).1)).setCell (p:=⟨b,1,none⟩) (.inl rfl) _
theorem q7h(T B b:Nat)(bs R:List Value)(s:ByteArray)(w:World)(hl:z1v T (R.length+2))(hT:T≠5)(h:IsX T B b bs R w)(hlen:bs.length+s.size<=140737488355328)(hBw:B<=w.heap.size):
  Calls prog 47 #[.pointer (some ⟨b,0,none⟩),.string s] w fun e w'=>e=.returned (.tuple #[.int .i64 s.size,.nilIface])/\(IsX T B b (bs++Lib.strCells s) R w'/\q0p B b w w'/\Lib.OthersKept 5 (some b) w w'):=by
 obtain⟨i0,hi,hz0,hz1,hz2⟩:=info_parts y0s;have HL:Hid (z1v T (R.length+2)):=hl;have HT:Hid (T≠5):=hT;have H:Hid (IsX T B b bs R w):=h;clear hl hT h;go_in;go_wp2_with(go_at_call 84;refine(z2z T B b bs R _ HL.o H.o).mono ?_);rintro e w1⟨rfl,h1,hb1,hk1⟩;obtain⟨v,hbk,hown,hne,h0⟩:=h1;have H0:Hid (bs=[]->v=.slice none 0 0):=h0;clear h0;have c0:w1.cell? ⟨b,0,none⟩=some (.pointer (some ⟨b,0,none⟩)):=by rw[Lib.cell_of_heap hbk];rfl
 have c1:w1.cell? ⟨b,1,none⟩=some v:=by rw[Lib.cell_of_heap hbk];rfl
 go_wp2_with(at_builtin;refine Lib.wpList_append_own_stringF _ rfl _ _ 94 9 rfl B 5 i0 Tryz.underlying94 Tryz.underlying9 hi hz0 hz1 hz2 _ _ _ rfl hown s rfl ?c3 ?c4 ?c5 ?_)
 case c3=>unfold maxLen;omega
 case c4=>omega
 case c5=>have:=hb1.size;omega
 intro v' w2 hown' hgrow hnil;have HZ:Hid (v'=.slice none 0 0↔v=.slice none 0 0/\s.size=0):=(show _↔_ by simpa using hnil);clear hnil
 have hlt:b<w1.heap.size:=by
  rcases Nat.lt_or_ge b w1.heap.size with h'|h'
  ·exact h'
  ·simp[Array.getElem?_eq_none h']at hbk
 have hb2:w2.heap[b]?=some (.cells (.pointer (some ⟨b,0,none⟩)::v::R).toArray T (0,0)):=by
  rw[hgrow.block b hlt (fun e=>hne e.symm)];exact hbk
 have d0:w2.cell? ⟨b,0,none⟩=some (.pointer (some ⟨b,0,none⟩)):=by rw[Lib.cell_of_heap hb2];rfl
 have d1:w2.cell? ⟨b,1,none⟩=some v:=by rw[Lib.cell_of_heap hb2];rfl
 have f1:w2.frozen? ⟨b,1,none⟩=false:=Lib.frozen_of_heap hb2 1
 obtain⟨ao,n',cap,rfl⟩:∃ao n' cap,v'=.slice ao n' cap:=by
  rcases hown'.2 with⟨hv,_⟩|⟨g,cap,cur,fz,hv,_⟩
  ·exact⟨_,_,_,hv⟩
  ·exact⟨_,_,_,hv⟩
 go_wp2;go_ret2;refine⟨rfl,.inr ?_,?_,(hk1.grown hgrow (Lib.ownsRowF_kind hown)).setCell ⟨b,1,none⟩ rfl _⟩
 ·refine XAt.put hb2 (bs':=bs++Lib.strCells s) (by simpa[Lib.strCells_length]using hown') HT.o (fun h=>?_);obtain⟨h1,h2⟩:=List.append_eq_nil_iff.1 h;refine HZ.o.2 ⟨H0.o h1,?_⟩;rw[<-Lib.strCells_length,h2];rfl
 ·exact(hb1.grown hgrow (by have:=hb1.size;omega) (fun k hk=>(hown.lt k hk).1)).setCell (p:=⟨b,1,none⟩) (.inl rfl) _
end Go.Proofs.YthcpdohdppkmkaaGreatDoor
