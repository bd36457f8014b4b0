/- Texts as one: PgP, SyQ, TwP, TopP, DkP, BldX. -/
import Derived.Test.YtchdplceopegoaaGreatDoorPw08
import Derived.Lib.Fields
import Derived.Lib.FrozenHead2
import Derived.Lib.OthersKept
import Derived.Lib.Slices
import Derived.Lib.Walk
import Derived.Laws.Externs
import Derived.Shelf.RegionOpenPlain
namespace Go.Proofs.YtchdplceopegoaaGreatDoor
open Go Go.RowKit
theorem z9i (l:List UInt8):(wbS l).size=l.length:=by rw [←q0b];rfl
def pgE (t:List Td):Int:=if opT t=9 then 0 else if 400<(q0z t).nodes.length then 3 else 0
theorem z6c {t:List Td} {wd:Int} (hw:¬ (wd<10∨100<wd)) (h:q0c t=0):z8r t wd=pgE t:=by
 rw [z8r,if_neg hw,if_neg (by simp [h])]
 rfl
theorem k3r {t:List Td} (h9:opT t=9):pgE t=0:=by rw [pgE,if_pos h9]
theorem j1z {t:List Td} (h:q0c t=0) (h9:opT t≠9):pgE t=q7v t:=by
 have e:q7v t=if opT t=9 then 2 else if 400<(q0z t).nodes.length then 3 else 0:=by rw [q7v,if_neg (by simp [h])]
 rw [e,if_neg h9,pgE,if_neg h9]
def j4y (t:List Td) (wd:Int):ByteArray:=if z8r t wd=0 then wbS (q5x wd.toNat t) else ⟨#[]⟩
def fmE:List (List Td)→Int
 | []=>0
 | t::r=>if pgE t≠0 then pgE t else fmE r
theorem q8g {t:List Td} {r:List (List Td)} (h:pgE t=0):fmE (t::r)=fmE r:=by rw [fmE,if_neg (by simp [h])]
theorem k9p {t:List Td} {r:List (List Td)} (h:pgE t≠0):fmE (t::r)=pgE t:=by rw [fmE,if_pos h]
inductive k1y (s:ByteArray) (wd:Int):ByteArray→Int→Int→Prop where
 | range (h:wd<10∨100<wd):k1y s wd ⟨#[]⟩ 0 1
 | bad {ps k f} (h:¬ (wd<10∨100<wd)) (hp:q7c s ps k f) (hf:f≠0):k1y s wd ⟨#[]⟩ k f
 | full {ps} (h:¬ (wd<10∨100<wd)) (hp:q7c s ps 0 0) (hf:fmE ps≠0):k1y s wd ⟨#[]⟩ 0 (fmE ps)
 | ok {ps} (h:¬ (wd<10∨100<wd)) (hp:q7c s ps 0 0) (hf:fmE ps=0):k1y s wd (wbS (q8h wd.toNat ps)) 0 0
theorem j6n {s t:ByteArray} {wd:Int} {ps:List (List Td)} (hs:q7c s ps 0 0) (ht:q7c t ps 0 0) {a b:ByteArray} {k k' f f':Int} (ha:k1y s wd a k f) (hb:k1y t wd b k' f'):a=b∧k=k'∧f=f':=by
 cases ha with
 | range h=>cases hb with
  | range=>exact ⟨rfl,rfl,rfl⟩
  | bad h'=>exact absurd h h'
  | full h'=>exact absurd h h'
  | ok h'=>exact absurd h h'
 | bad h hp hf=>exact absurd (q1m hp hs).2.2 hf
 | full h hp hf=>cases hb with
  | range h'=>exact absurd h' h
  | bad h' hp' hf'=>exact absurd (q1m hp' ht).2.2 hf'
  | full h' hp' hf'=>
   obtain ⟨rfl,_⟩:=q1m hp hs
   obtain ⟨rfl,_⟩:=q1m hp' ht
   exact ⟨rfl,rfl,rfl⟩
  | ok h' hp' hf'=>
   obtain ⟨rfl,_⟩:=q1m hp hs
   obtain ⟨rfl,_⟩:=q1m hp' ht
   exact absurd hf' hf
 | ok h hp hf=>cases hb with
  | range h'=>exact absurd h' h
  | bad h' hp' hf'=>exact absurd (q1m hp' ht).2.2 hf'
  | full h' hp' hf'=>
   obtain ⟨rfl,_⟩:=q1m hp hs
   obtain ⟨rfl,_⟩:=q1m hp' ht
   exact absurd hf hf'
  | ok h' hp' hf'=>
   obtain ⟨rfl,_⟩:=q1m hp hs
   obtain ⟨rfl,_⟩:=q1m hp' ht
   exact ⟨rfl,rfl,rfl⟩
theorem j6l {s:ByteArray} {wd:Int} {a b:ByteArray} {k k' f f':Int} (ha:k1y s wd a k f) (hb:k1y s wd b k' f'):a=b∧k=k'∧f=f':=by
 have key:∀ {ps:List (List Td)},q7c s ps 0 0→a=b∧k=k'∧f=f':=fun hp=>j6n hp hp ha hb
 cases ha with
 | range h=>cases hb with
  | range=>exact ⟨rfl,rfl,rfl⟩
  | bad h'=>exact absurd h h'
  | full h' hp' _=>exact key hp'
  | ok h' hp' _=>exact key hp'
 | bad h hp hf=>cases hb with
  | range h'=>exact absurd h' h
  | bad h' hp' hf'=>
   obtain ⟨_,rfl,rfl⟩:=q1m hp hp'
   exact ⟨rfl,rfl,rfl⟩
  | full h' hp' _=>exact key hp'
  | ok h' hp' _=>exact key hp'
 | full h hp hf=>exact key hp
 | ok h hp hf=>exact key hp
theorem z6f {s:ByteArray} {ps:List (List Td)} {k:Int} (h:q7c s ps k 0):k=0∧(q0q ps).2=0∧ps.length≤20∧∀ t∈ps,q0c t=0:=by
 generalize hz:(0:Int)=z at h
 cases h with
 | lex h1=>exact absurd hz.symm h1
 | bad=>cases hz
 | full _ _ h1=>exact absurd hz.symm h1
 | ok h1 h2 h3=>exact ⟨rfl,h3,(z2j h3).1,z6b _ _ (z2j h3).2⟩
theorem k2r (wd:Nat):∀ (n:Nat) (ws:List ByteArray),ws.length≤n→Few ws→∀ l∈q2j wd ws,l.size≤1260
 | 0,ws,h,hF,l,hl=>by
  have:ws=[]:=List.eq_nil_of_length_eq_zero (by omega)
  subst this
  rw [q4s] at hl
  cases hl
 | n+1,ws,h,hF,l,hl=>by
  by_cases h0:ws=[]
  ·subst h0
   rw [q4s] at hl
   cases hl
  ·have hp:=z1o wd h0
   rw [q4r wd h0] at hl
   rcases List.mem_cons.1 hl with rfl | hl
   ·rw [k2v]
    exact (hF.take _).ln
   ·exact k2r wd n (ws.drop (agF wd ws)) (by simp only [List.length_drop];omega) (hF.drop _) l hl
abbrev ntF (l:ByteArray):List UInt8:=35::32::(btL l++[10])
theorem k9s {f:ByteArray→List UInt8} {b:Nat}:∀ (ls:List ByteArray),(∀ l∈ls,(f l).length≤b)→(ls.flatMap f).length≤ls.length*b
 | [],_=>by simp
 | l::r,h=>by
  have h1:=k9s r fun x hx=>h x (by simp [hx])
  have h2:=h l (by simp)
  rw [List.flatMap_cons,List.length_append,List.length_cons,Nat.add_mul]
  omega
theorem k3d {tx:ByteArray} (h:q3k tx=0):Few ((q0k (btL tx)).map wbS):=v0g h
theorem j1n {tx:ByteArray} (h:q3k tx=0) (wd:Nat):(ntL wd tx).length≤100000:=by
 have hF:=k3d h
 rw [ntL]
 split
 ·simp
 ·have h1:=q8f (wd - 2) _ ((q0k (btL tx)).map wbS) (Nat.le_refl _)
  have h2:=k9s (f:=ntF) (b:=1300) (q2j (wd - 2) ((q0k (btL tx)).map wbS)) fun l hl=>by
   have:=k2r (wd - 2) _ _ (Nat.le_refl _) hF l hl
   simp only [ntF,List.length_cons,List.length_append,List.length_nil,q0b]
   omega
  have h3:=hF.1
  show ((q2j (wd - 2) ((q0k (btL tx)).map wbS)).flatMap ntF).length≤100000
  have h4:(q2j (wd - 2) ((q0k (btL tx)).map wbS)).length*1300≤60*1300:=Nat.mul_le_mul_right _ (by omega)
  omega
theorem v2s {t:List Td} (h:q7v t=0) (wd:Nat):(dcL wd t).length≤2000001:=by
 obtain ⟨u,_,e,hs,_⟩:=j7t (t:=t) wd
 have:=(v3j h hs).2
 rw [e,List.length_append]
 simp only [List.length_cons,List.length_nil]
 omega
theorem z8s {t:List Td} (h:q0c t=0) (h9:opT t=9) (wd:Nat):q5x wd t=ntL wd (txT t):=by
 obtain ⟨x,rfl,ho,_⟩:=z8o h h9
 rw [q5x,if_pos ho]
 rfl
theorem k3h {t:List Td} (h:q0c t=0) (h9:opT t≠9) (wd:Nat):q5x wd t=dcL wd t:=by
 cases t with
 | nil=>exact absurd h (by decide)
 | cons x r=>exact if_neg (show ¬ x.op=9 from h9)
theorem j1t {t:List Td} (h:q0c t=0) (hp:pgE t=0) (wd:Nat):(q5x wd t).length≤2000001:=by
 by_cases h9:opT t=9
 ·rw [z8s h h9]
  obtain ⟨x,rfl,_,hf,_⟩:=z8o h h9
  have:=j1n hf wd
  show (ntL wd x.tx).length≤2000001
  omega
 ·rw [k3h h h9]
  exact v2s (by rw [←j1z h h9];exact hp) wd
abbrev neW (w:Wd):Bool:=!w.isEmpty
theorem k0m:∀ (ws:List Wd) (t:Wd),ws.foldl z3f t=(ws.filter neW).foldl z3f t
 | [],_=>rfl
 | w::r,t=>by
  cases w with
  | nil=>
   have e:z3f t []=t:=by simp [z3f]
   rw [List.foldl_cons,e,k0m r t];rfl
  | cons c z=>exact k0m r _
theorem z1x:∀ (l cur h:Wd) (tl:List Wd),(∀ b∈l,Lib.isSp b=true→b=32)→q4v l=h::tl→Lib.fieldsGo cur l=((cur++h)::tl).filter neW
 | [],cur,h,tl,_,e=>by
  have e2:[[]]=h::tl:=e
  simp only [List.cons.injEq] at e2
  obtain ⟨rfl,rfl⟩:=e2
  cases cur<;>simp [Lib.fieldsGo]
 | b::l,cur,h,tl,hb,e=>by
  have hl:∀ x∈l,Lib.isSp x=true→x=32:=fun x hx=>hb x (by simp [hx])
  cases hs:q4v l with
  | nil=>exact absurd hs (q7o l)
  | cons h2 tl2=>
   by_cases h32:b=32
   ·subst h32
    rw [q4w,hs] at e
    simp only [List.cons.injEq] at e
    obtain ⟨rfl,rfl⟩:=e
    have ih:=z1x l [] h2 tl2 hl hs
    have hsp:Lib.isSp 32=true:=by decide
    cases cur with
    | nil=>rw [Lib.fieldsGo_sp _ _ hsp,ih];simp
    | cons a z=>rw [Lib.fieldsGo_end _ _ _ hsp (by simp),ih];simp
   ·have hsp:Lib.isSp b=false:=by
     cases hq:Lib.isSp b with
     | false=>rfl
     | true=>exact absurd (hb b (by simp) hq) h32
    rw [q4x h32 hs] at e
    simp only [List.cons.injEq] at e
    obtain ⟨rfl,rfl⟩:=e
    rw [Lib.fieldsGo_more _ _ _ hsp,z1x l (cur++[b]) h2 tl2 hl hs]
    simp
theorem q9p {l:Wd} (h:∀ b∈l,Lib.isSp b=true→b=32):Lib.fields l=(q4v l).filter neW:=by
 cases hs:q4v l with
 | nil=>exact absurd hs (q7o l)
 | cons a tl=>exact z1x l [] a tl h hs
theorem z7p {l:Wd} (h:∀ b∈l,Lib.isSp b=true→b=32):∀ w∈Lib.fields l,w≠[]:=by
 intro w hw
 rw [q9p h] at hw
 have:=(List.mem_filter.1 hw).2
 rintro rfl
 simp at this
theorem k5m {l:Wd} (h:∀ b∈l,Lib.isSp b=true→b=32):ntx (q0k l)=jb (Lib.fields l):=by
 have e:(q0k l).filter neW=Lib.fields l:=by
  rw [q9p h]
  unfold q0k
  split
  ·rename_i h0;subst h0;rfl
  ·rfl
 rw [←v0x (z7p h),←e,ntx,ntx,k0m]
theorem k9x:∀ (a b:List Wd),a≠[]→b≠[]→jb (a++b)=jb a++32::jb b
 | [w],b,_,hb=>by
  cases b with
  | nil=>exact absurd rfl hb
  | cons x y=>simp [jb]
 | w::u::r,b,_,hb=>by
  have ih:=k9x (u::r) b (by simp) hb
  rw [List.cons_append] at ih
  simp only [List.cons_append,jb] at ih ⊢
  rw [ih];simp
theorem v0n {a:List Wd} (h:∀ w∈a,w≠[]):jb a=[]↔a=[]:=by
 cases a with
 | nil=>simp [jb]
 | cons w r=>
  have:=h w (by simp)
  constructor
  ·intro e
   have e2:w++(match r with | []=>[] | _::_=>32::jb r)=[]:=e
   exact absurd (List.append_eq_nil_iff.1 e2).1 this
  ·intro e;cases e
theorem v1v {a b:List Wd} (ha:∀ w∈a,w≠[]) (hb:∀ w∈b,w≠[]):z3f (jb a) (jb b)=jb (a++b):=by
 by_cases h1:a=[]
 ·subst h1
  have:jb ([]:List Wd)=[]:=rfl
  rw [this,z3f,if_neg (by simp)];rfl
 ·by_cases h2:b=[]
  ·subst h2
   have:jb ([]:List Wd)=[]:=rfl
   rw [this,z3f,if_neg (by simp)];simp
  ·have e1:jb a≠[]:=fun e=>h1 ((v0n ha).1 e)
   have e2:jb b≠[]:=fun e=>h2 ((v0n hb).1 e)
   rw [z3f,if_pos ⟨e2,e1⟩,k9x a b h1 h2];simp
theorem k9y:∀ ws:List Wd,Lib.join ws [32]=jb ws
 | []=>rfl
 | [w]=>by rw [Lib.join_one];simp [jb]
 | w::u::r=>by
  have ih:=k9y (u::r)
  rw [Lib.join_cons] at ih ⊢
  rw [jb,←ih]
  simp [Lib.joinTail]
def q7u (w:Wd):List Wd:=Lib.fields (w.drop 1)
def v0l (w:Wd):Prop:=w.headD 0=35∧∀ b∈w,prB b=true
theorem v8z {b:UInt8} (h:prB b=true) (hs:Lib.isSp b=true):b=32:=by
 simp only [prB,Bool.and_eq_true,decide_eq_true_eq] at h
 simp only [Lib.isSp,Bool.or_eq_true,beq_iff_eq] at hs
 have h1:=h.1
 rcases hs with (((((e | e) | e) | e) | e) | e)<;>subst e<;>first | rfl | (exfalso;revert h1;decide)
theorem v8r {w:Wd} (h:v0l w):∀ b∈w.drop 1,Lib.isSp b=true→b=32:=fun b hb hs=>v8z (h.2 b (List.mem_of_mem_drop hb)) hs
theorem v8s {w:Wd} (h:v0l w):z2i w=jb (q7u w):=k5m (v8r h)
theorem k9m {w:Wd} (h:v0l w):∀ x∈q7u w,x≠[]:=z7p (v8r h)
theorem k7b (acc:List (List Td)) (X t:Wd):v1u true (acc++[[ntT X]]) t=acc++[[ntT (z3f X t)]]:=by
 have e:z3x (acc++[[ntT X]])=X:=by
  simp only [z3x,List.getLast?_append,List.getLast?_singleton]
  rfl
 rw [v1u,if_pos rfl,e,List.dropLast_concat]
theorem j2a:∀ (nts:List Wd) (acc:List (List Td)) (W:List Wd) (ts:List Wd) (r:Rp),(∀ w∈nts,v0l w)→(∀ x∈W,x≠[])→PG true (acc++[[ntT (jb (W++nts.flatMap q7u))]]) ts r→PG true (acc++[[ntT (jb W)]]) (nts++ts) r
 | [],acc,W,ts,r,_,_,h=>by simpa using h
 | w::z,acc,W,ts,r,hn,hW,h=>by
  have hw:=hn w (by simp)
  refine .note hw.1 ?_
  rw [k7b,v8s hw,v1v hW (k9m hw)]
  refine j2a z acc (W++q7u w) ts r (fun x hx=>hn x (by simp [hx])) ?_ ?_
  ·intro x hx
   rcases List.mem_append.1 hx with hx | hx
   ·exact hW x hx
   ·exact k9m hw x hx
  ·rw [List.flatMap_cons,←List.append_assoc] at h;exact h
theorem j7z {nts:List Wd} {acc:List (List Td)} {ts:List Wd} {r:Rp} (h0:nts≠[]) (hn:∀ w∈nts,v0l w) (h:PG true (acc++[[ntT (jb (nts.flatMap q7u))]]) ts r):PG false acc (nts++ts) r:=by
 cases nts with
 | nil=>exact absurd rfl h0
 | cons w z=>
  have hw:=hn w (by simp)
  refine .note hw.1 ?_
  rw [v1u,if_neg (by simp),v8s hw]
  refine j2a z acc (q7u w) ts r (fun x hx=>hn x (by simp [hx])) (k9m hw) ?_
  rw [List.flatMap_cons] at h;exact h
theorem j3i {p:UInt8→Bool} {c:UInt8} {r:List UInt8} (hc:p c=true) (hl:(r.takeWhile p).length+1=(c::r).length):∀ b∈c::r,p b=true:=by
 have hall:r.takeWhile p=r:=by
  have h1:=z3i (p:=p) r
  rw [show (r.takeWhile p).length=r.length by simp only [List.length_cons] at hl;omega,List.take_length] at h1
  exact h1.symm
 have hta:∀ (l:List UInt8) x,x∈l.takeWhile p→p x=true:=by
  intro l
  induction l with
  | nil=>intro x hx;cases hx
  | cons a l ih=>
   intro x hx
   rw [List.takeWhile_cons] at hx
   by_cases ha:p a=true
   ·rw [if_pos ha] at hx
    rcases List.mem_cons.1 hx with rfl | hx
    ·exact ha
    ·exact ih x hx
   ·rw [if_neg ha] at hx;cases hx
 intro b hb
 rcases List.mem_cons.1 hb with rfl | hb
 ·exact hc
 ·rw [←hall] at hb;exact hta r b hb
theorem v1k {w:Wd} (h:q3i w):w≠[]:=by
 obtain ⟨c,r,rfl,_⟩:=h
 simp
theorem j9a {w:Wd} (h:q3i w):nmW w=(decide (w≠z0t) && q3a (w.headD 0)):=by
 obtain ⟨c,r,rfl,_,ho,hl,_⟩:=h
 have hb:btL (wbS (c::r))=c::r:=rfl
 have hsz:(wbS (c::r)).size=(c::r).length:=by rw [←q0b,hb]
 unfold nmW q1c
 rw [hb,hsz]
 show _=(decide ((c::r)≠z0t) && q3a c)
 cases hc:q3a c with
 | false=>simp [hc]
 | true=>
  simp only [q4g,hc,if_true,decide_eq_true_eq] at ho
  simp only [q0o,hc,if_true] at hl
  have h1:=j3i hc hl
  have h2:(c::r).all q3a=true:=List.all_eq_true.2 h1
  rw [h2]
  have h3:(c::r).length≤8:=by omega
  simp only [List.length_cons] at h3 ⊢
  simp
  omega
theorem v5v {w:Wd} (h:q3i w) (hn:k1b w=true):(∀ b∈w,q3w b=true)∧w.length≤6:=by
 obtain ⟨c,r,rfl,_,ho,hl,_⟩:=h
 have hf:q3w c=true:=hn
 have hlow:q3a c=false:=k0j hf
 simp only [q4g,hlow,hf,if_true,Bool.false_eq_true,if_false,Bool.and_eq_true,decide_eq_true_eq] at ho
 simp only [q0o,hlow,hf,if_true,Bool.false_eq_true,if_false] at hl
 exact ⟨j3i hf hl,by omega⟩
theorem v9j {w:Wd} (h:q3i w) (hn:w.headD 0=35):v0l w:=by
 obtain ⟨c,r,rfl,_,ho,hl,_⟩:=h
 have hc:c=35:=hn
 subst hc
 have h1:q3a 35=false:=by decide
 have h2:q3w 35=false:=by decide
 have h3:((35:UInt8) == 35)=true:=by decide
 simp only [q4g,h1,h2,h3,if_true,Bool.false_eq_true,if_false] at ho
 simp only [q0o,h1,h2,h3,if_true,Bool.false_eq_true,if_false] at hl
 have hall:r.takeWhile nlB=r:=by
  have h4:=z3i (p:=nlB) r
  rw [show (r.takeWhile nlB).length=r.length by simp only [List.length_cons] at hl;omega,List.take_length] at h4
  exact h4.symm
 rw [hall,List.all_eq_true] at ho
 refine ⟨rfl,fun b hb=>?_⟩
 rcases List.mem_cons.1 hb with rfl | hb
 ·decide
 ·exact ho b hb
def v1i (ts:List Tn):Nat:=(ts.map fun t=>t.tk.length+2).sum
theorem q6h (t:Tn) (r:List Tn):v1i (t::r)=t.tk.length+2+v1i r:=by simp [v1i]
theorem z4x (l:Nat) (t:Tn):(brk l t).length≤t.tk.length+2:=by
 unfold brk
 split
 ·simp
 ·omega
theorem k8f:∀ ts:List Tn,(cmk ts).length≤v1i ts
 | []=>Nat.zero_le _
 | t::r=>by
  have ih:=k8f r
  rw [z4z,q6h,List.length_append]
  cases r with
  | nil=>simp [cmt];omega
  | cons u z=>
   simp only [cmt,List.length_cons]
   omega
theorem j3s (f:Tn→Tn→List Wd) (hf:∀ a b,(f a b).length≤a.tk.length+b.tk.length+5):∀ ts:List Tn,(two2 f ts).length≤v1i ts+1
 | []=>by simp [two2]
 | [_]=>by simp [two2]
 | [a,b]=>by
  have:=hf a b
  rw [q6h,q6h]
  show (f a b).length≤_
  omega
 | _::_::_::_=>by simp [two2]
theorem v9h (x:Td) (ts:List Tn):(q9e x ts).length≤3+v1i ts:=by
 have hc:=k8f ts
 unfold q9e
 split
 ·simp;omega
 ·split
  ·simp;omega
  ·split
   ·simp;omega
   ·split
    ·simp;omega
    ·split
     ·have:=j3s (fun a b=>brk 0 a++[43]::brk 1 b) (fun a b=>by
       have h1:=z4x 0 a
       have h2:=z4x 1 b
       simp;omega) ts
      omega
     ·have:=j3s (fun a b=>brk 1 a++[42]::brk 2 b) (fun a b=>by
       have h1:=z4x 1 a
       have h2:=z4x 2 b
       simp;omega) ts
      omega
theorem k1o:∀ F:Fo,v1i F.trs≤5*F.nodes.length
 | .nil=>by simp [Fo.trs,v1i]
 | .cons x k n=>by
  have h1:=k1o k
  have h2:=k1o n
  have h3:=v9h x k.trs
  rw [Fo.trs,q6h,Fo.nodes]
  simp only [q0r,List.length_cons,List.length_append]
  omega
theorem v9e {t:List Td} (h:q0c t=0) (h9:opT t≠9):(z6w t).length≤205:=by
 have h40:=(q2i h).1
 obtain ⟨x,y,k,rfl,hok,_,hk,hx⟩:=z1f h h9
 rw [(z2n hok hk).2]
 have h1:=k1o (.cons y k .nil)
 rw [Fo.trs,q6h] at h1
 simp only [List.length_cons] at h40
 have h2:(hdK (Fo.cons y k .nil).trs).length≤200:=by
  show (q0r y k.trs).tk.length≤200
  omega
 unfold stK
 split
 ·simp only [List.length_cons,List.length_append,List.length_nil];omega
 ·split
  ·simp only [List.length_cons,List.length_append,List.length_nil];omega
  ·simp
theorem j8j {t:List Td} (h:q0c t=0) (h9:opT t≠9) {u:List Int} {r:List UInt8} (hs:(q0z t).show u = .ok r):r.length≤20000:=by
 have h1:=v6z h h9 (j8l hs)
 have h2:=v9e h h9
 have h3:90*(z6w t).length≤90*205:=Nat.mul_le_mul_left _ h2
 omega
theorem k3x {t u:List Td} (ht:q0c t=0) (hu:q0c u=0) (h:q2y t=q2y u):t=u:=by
 have ok1:∀ {v:List Td},q0c v=0→okP 0 [v]:=fun {v} hv=>by
  refine ⟨hv,?_,trivial⟩
  rintro ⟨_,e⟩
  cases e
 have e1:q2a [t]=q2a [u]:=by simp [q2a,h]
 obtain ⟨a1,_⟩:=k0t [t] 0 0 (ok1 ht)
 obtain ⟨b1,_⟩:=k0t [u] 0 0 (ok1 hu)
 rw [e1,b1] at a1
 have p1:=z1e [t] 0 false [] (ok1 ht) (fun h=>by cases h)
 have p2:=z1e [u] 0 false [] (ok1 hu) (fun h=>by cases h)
 rw [a1] at p2
 have:=q7f p1 p2
 simp only [List.nil_append,Rp.ok.injEq,List.cons.injEq,and_true] at this
 exact this
def frs:List Wd→List Wd→Nat
 | _,[]=>0
 | known,t::r=>(if t∈known then 0 else 1)+frs (known++[t]) r
theorem v0i:∀ (p known:List Wd),frs known p≤p.length
 | [],_=>Nat.le_refl _
 | t::r,known=>by
  have:=v0i r (known++[t])
  rw [frs,List.length_cons]
  split<;>omega
def frP (p old:List (List Td)):Nat:=frs (old.map q2y) (p.map q2y)
theorem v7m (p old:List (List Td)):frP p old≤p.length:=by
 have:=v0i (p.map q2y) (old.map q2y)
 rwa [List.length_map] at this
theorem v7o {p:List Wd} {i:Nat} (h:i<p.length) (old:List Wd):frs (old++p.take i) (p.drop i)=(if p[i]∈old∨p[i]∈p.take i then 0 else 1)+frs (old++p.take (i+1)) (p.drop (i+1)):=by
 rw [List.drop_eq_getElem_cons h,frs,List.take_succ_eq_append_getElem h]
 simp only [List.mem_append,List.append_assoc]
end Go.Proofs.YtchdplceopegoaaGreatDoor
namespace Go.Proofs.YtchdplceopegoaaGreatDoor
open Go Go.RowKit
set_option maxRecDepth 100000
set_option maxHeartbeats 1000000
structure q0i (B b:Nat) (w w':World):Prop where
 os:w'.os=w.os
 tape:w'.tape=w.tape
 output:w'.output=w.output
 size:w.heap.size≤w'.heap.size
 block:∀ k,k<B→k≠b→w'.heap[k]? = w.heap[k]?
section
variable {B b:Nat} {w w' a:World}
theorem q0i.refl (B b:Nat) (w:World):q0i B b w w:=⟨rfl,rfl,rfl,Nat.le_refl _,fun _ _ _=>rfl⟩
theorem q0i.trans {c:World} (h:q0i B b a w) (k:q0i B b w c):q0i B b a c:=
 ⟨k.os.trans h.os,k.tape.trans h.tape,k.output.trans h.output,Nat.le_trans h.size k.size,fun i hi hb=>(k.block i hi hb).trans (h.block i hi hb)⟩
theorem q0i.drew (h:q0i B b a w):q0i B b a w.drew:=⟨h.os,h.tape,h.output,h.size,h.block⟩
theorem q0i.of (h:Below B w w'):q0i B b w w':=⟨h.os,h.tape,h.output,h.size,fun k hk _=>h.block k hk⟩
theorem q0i.below (h:q0i B b w w') (hB:B≤b):Below B w w':=⟨h.os,h.tape,h.output,h.size,fun k hk=>h.block k hk (by omega)⟩
theorem q0i.mono {B':Nat} (h:q0i B b w w') (hB:B'≤B):q0i B' b w w':=⟨h.os,h.tape,h.output,h.size,fun k hk=>h.block k (by omega)⟩
theorem q0i.alloc (h:q0i B b a w) (hB:B≤w.heap.size) (o:Obj):q0i B b a (w.alloc o):=
 h.trans (.of ((Below.refl B w).alloc hB o))
theorem q0i.setCell (h:q0i B b a w) {p:Addr} (hp:p.block=b∨B≤p.block) (u:Value):q0i B b a (w.setCell p u):=
 h.trans ⟨rfl,rfl,rfl,by simp [World.setCell],fun k hk hb=>Below.heap_setCell _ _ _ _ (by omega)⟩
theorem q0i.grown {row:Option Nat} (h:q0i B b a w) (hg:w.grownBy w' row) (hB:B≤w.heap.size) (hr:∀ k,row=some k→B≤k):q0i B b a w':=
 h.trans ⟨hg.os,hg.tape,hg.output,hg.size,fun k hk _=>hg.block k (by omega) (fun e=>by have:=hr k e.symm;omega)⟩
theorem q0i.cell (h:q0i B b w w') {p:Addr} (hp:p.block<B) (hb:p.block≠b):w'.cell? p=w.cell? p:=World.cell?_of_block (w:=w) (h.block p.block hp hb)
end
def XAt (T:TypeId) (B b:Nat) (p:Value) (bs R:List Value) (w:World):Prop:=
 ∃ v,w.heap[b]? = some (.cells (p::v::R).toArray T (0,0))∧w.ownsRowF B 5 1 v bs.length bs∧v.ownBlock≠some b∧(bs=[]→v = .slice none 0 0)
def IsX (T:TypeId) (B b:Nat) (bs R:List Value) (w:World):Prop:=
 XAt T B b (.pointer none) bs R w∨XAt T B b (.pointer (some ⟨b,0,none⟩)) bs R w
section
variable {T:TypeId} {B b:Nat} {p:Value} {bs R:List Value} {w:World}
theorem XAt.cell0 (h:XAt T B b p bs R w):w.cell? ⟨b,0,none⟩=some p:=by
 obtain ⟨v,hb,_⟩:=h
 simp [World.cell?,hb]
theorem XAt.cellR (h:XAt T B b p bs R w) (i:Nat):w.cell? ⟨b,i+2,none⟩=R[i]?:=by
 obtain ⟨v,hb,_⟩:=h
 simp [World.cell?,hb]
theorem XAt.shape (h:XAt T B b p bs R w):w.shape? b=some (T,R.length+2):=by
 obtain ⟨v,hb,_⟩:=h
 simp [World.shape?,hb]
theorem XAt.lt (h:XAt T B b p bs R w):b<w.heap.size:=by
 obtain ⟨v,hb,_⟩:=h
 rcases Nat.lt_or_ge b w.heap.size with h' | h'
 ·exact h'
 ·simp [Array.getElem?_eq_none h'] at hb
theorem XAt.used (h:XAt T B b p bs R w) (q:Value):XAt T B b q bs R (w.setCell ⟨b,0,none⟩ q):=by
 obtain ⟨v,hb,hown,hne,h0⟩:=h
 refine ⟨v,?_,?_,hne,h0⟩
 ·simp [World.setCell,Array.getElem?_modify,hb]
 ·exact hown.kept (row:=some b) ⟨rfl,rfl,rfl,by simp [World.setCell],fun k _ hk=>Below.heap_setCell _ _ _ _ (fun e=>hk (by simp [e]))⟩ (Or.inr hne)
theorem XAt.stored (h:XAt T B b p bs R w) (i:Nat) (q:Value):XAt T B b p bs (R.set i q) (w.setCell ⟨b,i+2,none⟩ q):=by
 obtain ⟨v,hb,hown,hne,h0⟩:=h
 refine ⟨v,?_,?_,hne,h0⟩
 ·simp [World.setCell,Array.getElem?_modify,hb]
 ·exact hown.kept (row:=some b) ⟨rfl,rfl,rfl,by simp [World.setCell],fun k _ hk=>Below.heap_setCell _ _ _ _ (fun e=>hk (by simp [e]))⟩ (Or.inr hne)
theorem XAt.frozen (h:XAt T B b p bs R w) (i:Nat):w.frozen? ⟨b,i,none⟩=false:=by
 obtain ⟨v,hb,_⟩:=h
 simp [World.frozen?,hb]
theorem XAt.put {v v':Value} {bs':List Value} (hb:w.heap[b]? = some (.cells (p::v::R).toArray T (0,0))) (hown:w.ownsRowF B 5 1 v' bs'.length bs') (hTe:T≠5) (h0:bs'=[]→v' = .slice none 0 0) :
  XAt T B b p bs' R (w.setCell ⟨b,1,none⟩ v'):=by
 have hne:=Lib.ownBlock_neF hown hb hTe
 refine ⟨v',?_,?_,hne,h0⟩
 ·simp [World.setCell,Array.getElem?_modify,hb]
 ·exact hown.kept (row:=some b) ⟨rfl,rfl,rfl,by simp [World.setCell],fun k _ hk=>Below.heap_setCell _ _ _ _ (fun e=>hk (by simp [e]))⟩ (Or.inr hne)
theorem XAt.alloc (h:XAt T B b p bs R w) (o:Obj):XAt T B b p bs R (w.alloc o):=by
 have hlt:=h.lt
 obtain ⟨v,hb,hown,hne,h0⟩:=h
 exact ⟨v,(Lib.alloc_old w o b hlt).trans hb,hown.kept (World.grownBy_alloc w o none) (by cases hv:v.ownBlock<;>simp),hne,h0⟩
theorem XAt.far {b':Nat} {w':World} {c:Array Value} {t:TypeId} {fz:Nat × Nat} (h:XAt T B b p bs R w) (hx:q0i w.heap.size b' w w') (hbb:b≠b') (hb':w.heap[b']? = some (.cells c t fz)) (ht:t≠5):XAt T B b p bs R w':=by
 have hlt:=h.lt
 obtain ⟨v,hb,hown,hne,h0⟩:=h
 refine ⟨v,(hx.block b hlt hbb).trans hb,hown.kept (row:=some b') ⟨hx.os,hx.tape,hx.output,hx.size,fun k hk hkb=>hx.block k hk (fun e=>hkb (by rw [e]))⟩ (Or.inr ?_),hne,h0⟩
 exact Lib.ownBlock_neF hown hb' ht
theorem IsX.at (h:IsX T B b bs R w):∃ p,XAt T B b p bs R w:=by
 rcases h with h | h
 ·exact ⟨_,h⟩
 ·exact ⟨_,h⟩
theorem IsX.lt (h:IsX T B b bs R w):b<w.heap.size:=h.at.elim fun _ h=>h.lt
theorem IsX.cellR (h:IsX T B b bs R w) (i:Nat):w.cell? ⟨b,i+2,none⟩=R[i]?:=h.at.elim fun _ h=>h.cellR i
theorem IsX.frozen (h:IsX T B b bs R w) (i:Nat):w.frozen? ⟨b,i,none⟩=false:=h.at.elim fun _ h=>h.frozen i
theorem IsX.alloc (h:IsX T B b bs R w) (o:Obj):IsX T B b bs R (w.alloc o):=h.imp (·.alloc o) (·.alloc o)
theorem IsX.stored (h:IsX T B b bs R w) (i:Nat) (q:Value):IsX T B b bs (R.set i q) (w.setCell ⟨b,i+2,none⟩ q):=h.imp (·.stored i q) (·.stored i q)
theorem IsX.drew (h:IsX T B b bs R w):IsX T B b bs R w.drew:=h
theorem IsX.far {b':Nat} {w':World} {c:Array Value} {t:TypeId} {fz:Nat × Nat} (h:IsX T B b bs R w) (hx:q0i w.heap.size b' w w') (hbb:b≠b') (hb':w.heap[b']? = some (.cells c t fz)) (ht:t≠5):IsX T B b bs R w':=h.imp (·.far hx hbb hb' ht) (·.far hx hbb hb' ht)
theorem IsX.fresh (T:TypeId) (w:World) (R:List Value):IsX T w.heap.size w.heap.size [] R (w.alloc (.cells (.pointer none::.slice none 0 0::R).toArray T)):=
 Or.inl ⟨.slice none 0 0,heap_alloc_new w _,World.ownsRowF_nil _ _ _ _,by simp [Value.ownBlock],fun _=>rfl⟩
theorem IsX.unused (T:TypeId) (B b:Nat) (w:World) (R:List Value) (h:w.heap[b]? = some (.cells (.pointer none::.slice none 0 0::R).toArray T (0,0))):IsX T B b [] R w:=
 Or.inl ⟨.slice none 0 0,h,World.ownsRowF_nil _ _ _ _,by simp [Value.ownBlock],fun _=>rfl⟩
end
theorem j9m:(Tryz.prog.info? 5).map (fun i=>(i.zero,i.size,i.bytes))=some (some (.int .u8 0),1,1):=by kernel_rfl
theorem v1n:Tryz.prog.cellsOf 5=1:=by kernel_rfl
theorem j9q:(Tryz.prog.info? 83).map (·.size)=some 2:=by kernel_rfl
theorem k1u (b:Nat) (w:World) (h0:w.cell? ⟨b,0,none⟩=some (.pointer (some ⟨b,0,none⟩))) :
  Calls Tryz.prog 54 #[.pointer (some ⟨b,0,none⟩)] w fun e w'=>e = .returned (.tuple #[])∧w'=w:=by
 obtain ⟨j,hj,_⟩:=Option.map_eq_some_iff.1 j9q
 go_enter Tryz.func54,Tryz.ntmps54
 go_wp2
 rw [Lib.run_neq_ptr_same w _ Tryz.underlying80 hj]
 go_wp2
 go_end0
 exact ⟨rfl,rfl⟩
theorem z9n (T n b:Nat) (w:World) (hl:liesAt Tryz.prog Tryz.prog.depth T (n / Tryz.prog.cellsOf T) 0 83 1=true) (h0:w.cell? ⟨b,0,none⟩=some (.pointer none)) (hsh:w.shape? b=some (T,n)) (hn:0<n) (hfz:w.frozen? ⟨b,0,none⟩=false) :
  Calls Tryz.prog 54 #[.pointer (some ⟨b,0,none⟩)] w fun e w'=>e = .returned (.tuple #[])∧w'=w.setCell ⟨b,0,none⟩ (.pointer (some ⟨b,0,none⟩)):=by
 obtain ⟨j,hj,hjs⟩:=Option.map_eq_some_iff.1 j9q
 have HL:Hid (liesAt Tryz.prog Tryz.prog.depth T (n / Tryz.prog.cellsOf T) 0 83 1=true):=hl
 have HS:Hid (w.shape? b=some (T,n)):=hsh
 have HJ:Hid (j.size≠0):=(show j.size≠0 by rw [hjs];decide)
 clear hl hsh hjs
 go_enter Tryz.func54,Tryz.ntmps54
 go_wp2
 rw [Lib.run_to_unsafe w ⟨b,0,none⟩ Tryz.underlying80 Tryz.underlying116 hj HJ.out HS.out hn]
 simp only [Result.andThen]
 rw [Oper.upon_value]
 go_wp2
 rw [run_callFunc_extern Tryz.func89 (by kernel_rfl) (by kernel_rfl) (by kernel_rfl) (e:=Extern.AbiNoEscape.same) (by kernel_rfl)]
 rw [Lib.run_noEscape]
 simp only [Result.andThen]
 rw [Oper.upon_value]
 go_wp2
 rw [Lib.run_from_unsafe w ⟨b,0,none⟩ Tryz.underlying116 Tryz.underlying80 hj HS.out HL.out]
 simp only [Result.andThen]
 rw [Oper.upon_value]
 go_wp2
 go_end0
 exact ⟨rfl,rfl⟩
def q9g (T n:Nat):Prop:=liesAt Tryz.prog Tryz.prog.depth T (n / Tryz.prog.cellsOf T) 0 83 1=true
theorem z0f (T B b:Nat) (bs R:List Value) (w:World) (hl:q9g T (R.length+2)) (h:IsX T B b bs R w) :
  Calls Tryz.prog 54 #[.pointer (some ⟨b,0,none⟩)] w fun e w'=>e = .returned (.tuple #[])∧(XAt T B b (.pointer (some ⟨b,0,none⟩)) bs R w'∧q0i B b w w'∧Lib.OthersKept 5 (some b) w w'):=by
 rcases h with h | h
 ·refine (z9n T (R.length+2) b w hl h.cell0 h.shape (by omega) (h.frozen 0)).mono ?_
  rintro e w' ⟨rfl,rfl⟩
  exact ⟨rfl,h.used _,(q0i.refl B b w).setCell (p:=⟨b,0,none⟩) (.inl rfl) _,(Lib.OthersKept.refl _ _ w).setCell ⟨b,0,none⟩ rfl _⟩
 ·refine (k1u b w h.cell0).mono ?_
  rintro e w' ⟨rfl,rfl⟩
  exact ⟨rfl,h,q0i.refl B b _,Lib.OthersKept.refl _ _ _⟩
end Go.Proofs.YtchdplceopegoaaGreatDoor
