/- Texts as one: PgP, SyQ, TwP, TopP, DkP, BldX. -/
import Derived.Test.YtchdplceopegoaaGreatDoorPs09
import Derived.Lib.Fields
import Derived.Lib.FrozenHead2
import Derived.Lib.OthersKept
import Derived.Lib.Slices
import Derived.Lib.Walk
import Derived.Laws.Externs
import Derived.Shelf.RegionOpenPlain
namespace Go.Proofs.YtchdplceopegoaaGreatDoor
open Go Go.RowKit
theorem k0h (l:List UInt8):(wbS l).size=l.length:=by rw [←q0b];rfl
def pgE (t:List Td):Int:=if opT t=9 then 0 else if 400<(q0s t).nodes.length then 3 else 0
theorem z7e {t:List Td} {wd:Int} (hw:¬ (wd<10∨100<wd)) (h:q0c t=0):z9r t wd=pgE t:=by
 rw [z9r,if_neg hw,if_neg (by simp [h])]
 rfl
theorem k4y {t:List Td} (h9:opT t=9):pgE t=0:=by rw [pgE,if_pos h9]
theorem j3s {t:List Td} (h:q0c t=0) (h9:opT t≠9):pgE t=q8r t:=by
 have e:q8r t=if opT t=9 then 2 else if 400<(q0s t).nodes.length then 3 else 0:=by rw [q8r,if_neg (by simp [h])]
 rw [e,if_neg h9,pgE,if_neg h9]
def j6z (t:List Td) (wd:Int):ByteArray:=if z9r t wd=0 then wbS (q5b wd.toNat t) else ⟨#[]⟩
def fmE:List (List Td)→Int
 | []=>0
 | t::r=>if pgE t≠0 then pgE t else fmE r
theorem q9f {t:List Td} {r:List (List Td)} (h:pgE t=0):fmE (t::r)=fmE r:=by rw [fmE,if_neg (by simp [h])]
theorem j1b {t:List Td} {r:List (List Td)} (h:pgE t≠0):fmE (t::r)=pgE t:=by rw [fmE,if_pos h]
inductive k3c (s:ByteArray) (wd:Int):ByteArray→Int→Int→Prop where
 | range (h:wd<10∨100<wd):k3c s wd ⟨#[]⟩ 0 1
 | bad {ps k f} (h:¬ (wd<10∨100<wd)) (hp:q6i s ps k f) (hf:f≠0):k3c s wd ⟨#[]⟩ k f
 | full {ps} (h:¬ (wd<10∨100<wd)) (hp:q6i s ps 0 0) (hf:fmE ps≠0):k3c s wd ⟨#[]⟩ 0 (fmE ps)
 | ok {ps} (h:¬ (wd<10∨100<wd)) (hp:q6i s ps 0 0) (hf:fmE ps=0):k3c s wd (wbS (q7y wd.toNat ps)) 0 0
theorem j8s {s t:ByteArray} {wd:Int} {ps:List (List Td)} (hs:q6i s ps 0 0) (ht:q6i t ps 0 0) {a b:ByteArray} {k k' f f':Int} (ha:k3c s wd a k f) (hb:k3c t wd b k' f'):a=b∧k=k'∧f=f':=by
 cases ha with
 | range h=>cases hb with
  | range=>exact ⟨rfl,rfl,rfl⟩
  | bad h'=>exact absurd h h'
  | full h'=>exact absurd h h'
  | ok h'=>exact absurd h h'
 | bad h hp hf=>exact absurd (q1m hp hs).2.2 hf
 | full h hp hf=>cases hb with
  | range h'=>exact absurd h' h
  | bad h' hp' hf'=>exact absurd (q1m hp' ht).2.2 hf'
  | full h' hp' hf'=>
   obtain ⟨rfl,_⟩:=q1m hp hs
   obtain ⟨rfl,_⟩:=q1m hp' ht
   exact ⟨rfl,rfl,rfl⟩
  | ok h' hp' hf'=>
   obtain ⟨rfl,_⟩:=q1m hp hs
   obtain ⟨rfl,_⟩:=q1m hp' ht
   exact absurd hf' hf
 | ok h hp hf=>cases hb with
  | range h'=>exact absurd h' h
  | bad h' hp' hf'=>exact absurd (q1m hp' ht).2.2 hf'
  | full h' hp' hf'=>
   obtain ⟨rfl,_⟩:=q1m hp hs
   obtain ⟨rfl,_⟩:=q1m hp' ht
   exact absurd hf hf'
  | ok h' hp' hf'=>
   obtain ⟨rfl,_⟩:=q1m hp hs
   obtain ⟨rfl,_⟩:=q1m hp' ht
   exact ⟨rfl,rfl,rfl⟩
theorem j8q {s:ByteArray} {wd:Int} {a b:ByteArray} {k k' f f':Int} (ha:k3c s wd a k f) (hb:k3c s wd b k' f'):a=b∧k=k'∧f=f':=by
 have key:∀ {ps:List (List Td)},q6i s ps 0 0→a=b∧k=k'∧f=f':=fun hp=>j8s hp hp ha hb
 cases ha with
 | range h=>cases hb with
  | range=>exact ⟨rfl,rfl,rfl⟩
  | bad h'=>exact absurd h h'
  | full h' hp' _=>exact key hp'
  | ok h' hp' _=>exact key hp'
 | bad h hp hf=>cases hb with
  | range h'=>exact absurd h' h
  | bad h' hp' hf'=>
   obtain ⟨_,rfl,rfl⟩:=q1m hp hp'
   exact ⟨rfl,rfl,rfl⟩
  | full h' hp' _=>exact key hp'
  | ok h' hp' _=>exact key hp'
 | full h hp hf=>exact key hp
 | ok h hp hf=>exact key hp
theorem z7h {s:ByteArray} {ps:List (List Td)} {k:Int} (h:q6i s ps k 0):k=0∧(q0p ps).2=0∧ps.length≤20∧∀ t∈ps,q0c t=0:=by
 generalize hz:(0:Int)=z at h
 cases h with
 | lex h1=>exact absurd hz.symm h1
 | bad=>cases hz
 | full _ _ h1=>exact absurd hz.symm h1
 | ok h1 h2 h3=>exact ⟨rfl,h3,(q8k h3).1,z7d _ _ (q8k h3).2⟩
theorem k3v (wd:Nat):∀ (n:Nat) (ws:List ByteArray),ws.length≤n→Few ws→∀ l∈q2m wd ws,l.size≤1260
 | 0,ws,h,hF,l,hl=>by
  have:ws=[]:=List.eq_nil_of_length_eq_zero (by omega)
  subst this
  rw [q5a] at hl
  cases hl
 | n+1,ws,h,hF,l,hl=>by
  by_cases h0:ws=[]
  ·subst h0
   rw [q5a] at hl
   cases hl
  ·have hp:=z0i wd h0
   rw [q4z wd h0] at hl
   rcases List.mem_cons.1 hl with rfl | hl
   ·rw [k4a]
    exact (hF.take _).ln
   ·exact k3v wd n (ws.drop (agF wd ws)) (by simp only [List.length_drop];omega) (hF.drop _) l hl
abbrev ntF (l:ByteArray):List UInt8:=35::32::(btL l++[10])
theorem j1e {f:ByteArray→List UInt8} {b:Nat}:∀ (ls:List ByteArray),(∀ l∈ls,(f l).length≤b)→(ls.flatMap f).length≤ls.length*b
 | [],_=>by simp
 | l::r,h=>by
  have h1:=j1e r fun x hx=>h x (by simp [hx])
  have h2:=h l (by simp)
  rw [List.flatMap_cons,List.length_append,List.length_cons,Nat.add_mul]
  omega
theorem k4k {tx:ByteArray} (h:q2u tx=0):Few ((q0g (btL tx)).map wbS):=v2t h
theorem j3g {tx:ByteArray} (h:q2u tx=0) (wd:Nat):(ntL wd tx).length≤100000:=by
 have hF:=k4k h
 rw [ntL]
 split
 ·simp
 ·have h1:=q9e (wd - 2) _ ((q0g (btL tx)).map wbS) (Nat.le_refl _)
  have h2:=j1e (f:=ntF) (b:=1300) (q2m (wd - 2) ((q0g (btL tx)).map wbS)) fun l hl=>by
   have:=k3v (wd - 2) _ _ (Nat.le_refl _) hF l hl
   simp only [ntF,List.length_cons,List.length_append,List.length_nil,q0b]
   omega
  have h3:=hF.1
  show ((q2m (wd - 2) ((q0g (btL tx)).map wbS)).flatMap ntF).length≤100000
  have h4:(q2m (wd - 2) ((q0g (btL tx)).map wbS)).length*1300≤60*1300:=Nat.mul_le_mul_right _ (by omega)
  omega
theorem v5q {t:List Td} (h:q8r t=0) (wd:Nat):(dcL wd t).length≤2000001:=by
 obtain ⟨u,_,e,hs,_⟩:=v0e (t:=t) wd
 have:=(v6j h hs).2
 rw [e,List.length_append]
 simp only [List.length_cons,List.length_nil]
 omega
theorem z9s {t:List Td} (h:q0c t=0) (h9:opT t=9) (wd:Nat):q5b wd t=ntL wd (txT t):=by
 obtain ⟨x,rfl,ho,_⟩:=z9o h h9
 rw [q5b,if_pos ho]
 rfl
theorem k4o {t:List Td} (h:q0c t=0) (h9:opT t≠9) (wd:Nat):q5b wd t=dcL wd t:=by
 cases t with
 | nil=>exact absurd h (by decide)
 | cons x r=>exact if_neg (show ¬ x.op=9 from h9)
theorem j3m {t:List Td} (h:q0c t=0) (hp:pgE t=0) (wd:Nat):(q5b wd t).length≤2000001:=by
 by_cases h9:opT t=9
 ·rw [z9s h h9]
  obtain ⟨x,rfl,_,hf,_⟩:=z9o h h9
  have:=j3g hf wd
  show (ntL wd x.tx).length≤2000001
  omega
 ·rw [k4o h h9]
  exact v5q (by rw [←j3s h h9];exact hp) wd
abbrev neW (w:Wd):Bool:=!w.isEmpty
theorem k1n:∀ (ws:List Wd) (t:Wd),ws.foldl z0e t=(ws.filter neW).foldl z0e t
 | [],_=>rfl
 | w::r,t=>by
  cases w with
  | nil=>
   have e:z0e t []=t:=by simp [z0e]
   rw [List.foldl_cons,e,k1n r t];rfl
  | cons c z=>exact k1n r _
theorem z2y:∀ (l cur h:Wd) (tl:List Wd),(∀ b∈l,Lib.isSp b=true→b=32)→q4v l=h::tl→Lib.fieldsGo cur l=((cur++h)::tl).filter neW
 | [],cur,h,tl,_,e=>by
  have e2:[[]]=h::tl:=e
  simp only [List.cons.injEq] at e2
  obtain ⟨rfl,rfl⟩:=e2
  cases cur<;>simp [Lib.fieldsGo]
 | b::l,cur,h,tl,hb,e=>by
  have hl:∀ x∈l,Lib.isSp x=true→x=32:=fun x hx=>hb x (by simp [hx])
  cases hs:q4v l with
  | nil=>exact absurd hs (q6s l)
  | cons h2 tl2=>
   by_cases h32:b=32
   ·subst h32
    rw [q5e,hs] at e
    simp only [List.cons.injEq] at e
    obtain ⟨rfl,rfl⟩:=e
    have ih:=z2y l [] h2 tl2 hl hs
    have hsp:Lib.isSp 32=true:=by decide
    cases cur with
    | nil=>rw [Lib.fieldsGo_sp _ _ hsp,ih];simp
    | cons a z=>rw [Lib.fieldsGo_end _ _ _ hsp (by simp),ih];simp
   ·have hsp:Lib.isSp b=false:=by
     cases hq:Lib.isSp b with
     | false=>rfl
     | true=>exact absurd (hb b (by simp) hq) h32
    rw [q5f h32 hs] at e
    simp only [List.cons.injEq] at e
    obtain ⟨rfl,rfl⟩:=e
    rw [Lib.fieldsGo_more _ _ _ hsp,z2y l (cur++[b]) h2 tl2 hl hs]
    simp
theorem z0p {l:Wd} (h:∀ b∈l,Lib.isSp b=true→b=32):Lib.fields l=(q4v l).filter neW:=by
 cases hs:q4v l with
 | nil=>exact absurd hs (q6s l)
 | cons a tl=>exact z2y l [] a tl h hs
theorem z8o {l:Wd} (h:∀ b∈l,Lib.isSp b=true→b=32):∀ w∈Lib.fields l,w≠[]:=by
 intro w hw
 rw [z0p h] at hw
 have:=(List.mem_filter.1 hw).2
 rintro rfl
 simp at this
theorem k6t {l:Wd} (h:∀ b∈l,Lib.isSp b=true→b=32):ntx (q0g l)=jb (Lib.fields l):=by
 have e:(q0g l).filter neW=Lib.fields l:=by
  rw [z0p h]
  unfold q0g
  split
  ·rename_i h0;subst h0;rfl
  ·rfl
 rw [←v3o (z8o h),←e,ntx,ntx,k1n]
theorem j1k:∀ (a b:List Wd),a≠[]→b≠[]→jb (a++b)=jb a++32::jb b
 | [w],b,_,hb=>by
  cases b with
  | nil=>exact absurd rfl hb
  | cons x y=>simp [jb]
 | w::u::r,b,_,hb=>by
  have ih:=j1k (u::r) b (by simp) hb
  rw [List.cons_append] at ih
  simp only [List.cons_append,jb] at ih ⊢
  rw [ih];simp
theorem v3b {a:List Wd} (h:∀ w∈a,w≠[]):jb a=[]↔a=[]:=by
 cases a with
 | nil=>simp [jb]
 | cons w r=>
  have:=h w (by simp)
  constructor
  ·intro e
   have e2:w++(match r with | []=>[] | _::_=>32::jb r)=[]:=e
   exact absurd (List.append_eq_nil_iff.1 e2).1 this
  ·intro e;cases e
theorem v4p {a b:List Wd} (ha:∀ w∈a,w≠[]) (hb:∀ w∈b,w≠[]):z0e (jb a) (jb b)=jb (a++b):=by
 by_cases h1:a=[]
 ·subst h1
  have:jb ([]:List Wd)=[]:=rfl
  rw [this,z0e,if_neg (by simp)];rfl
 ·by_cases h2:b=[]
  ·subst h2
   have:jb ([]:List Wd)=[]:=rfl
   rw [this,z0e,if_neg (by simp)];simp
  ·have e1:jb a≠[]:=fun e=>h1 ((v3b ha).1 e)
   have e2:jb b≠[]:=fun e=>h2 ((v3b hb).1 e)
   rw [z0e,if_pos ⟨e2,e1⟩,j1k a b h1 h2];simp
theorem j1l:∀ ws:List Wd,Lib.join ws [32]=jb ws
 | []=>rfl
 | [w]=>by rw [Lib.join_one];simp [jb]
 | w::u::r=>by
  have ih:=j1l (u::r)
  rw [Lib.join_cons] at ih ⊢
  rw [jb,←ih]
  simp [Lib.joinTail]
def q8q (w:Wd):List Wd:=Lib.fields (w.drop 1)
def v3a (w:Wd):Prop:=w.headD 0=35∧∀ b∈w,prB b=true
theorem y2q {b:UInt8} (h:prB b=true) (hs:Lib.isSp b=true):b=32:=by
 simp only [prB,Bool.and_eq_true,decide_eq_true_eq] at h
 simp only [Lib.isSp,Bool.or_eq_true,beq_iff_eq] at hs
 have h1:=h.1
 rcases hs with (((((e | e) | e) | e) | e) | e)<;>subst e<;>first | rfl | (exfalso;revert h1;decide)
theorem y2g {w:Wd} (h:v3a w):∀ b∈w.drop 1,Lib.isSp b=true→b=32:=fun b hb hs=>y2q (h.2 b (List.mem_of_mem_drop hb)) hs
theorem y2h {w:Wd} (h:v3a w):q4m w=jb (q8q w):=k6t (y2g h)
theorem j0y {w:Wd} (h:v3a w):∀ x∈q8q w,x≠[]:=z8o (y2g h)
theorem k8i (acc:List (List Td)) (X t:Wd):k3d true (acc++[[ntT X]]) t=acc++[[ntT (z0e X t)]]:=by
 have e:q4k (acc++[[ntT X]])=X:=by
  simp only [q4k,List.getLast?_append,List.getLast?_singleton]
  rfl
 rw [k3d,if_pos rfl,e,List.dropLast_concat]
theorem j3t:∀ (nts:List Wd) (acc:List (List Td)) (W:List Wd) (ts:List Wd) (r:Rp),(∀ w∈nts,v3a w)→(∀ x∈W,x≠[])→PG true (acc++[[ntT (jb (W++nts.flatMap q8q))]]) ts r→PG true (acc++[[ntT (jb W)]]) (nts++ts) r
 | [],acc,W,ts,r,_,_,h=>by simpa using h
 | w::z,acc,W,ts,r,hn,hW,h=>by
  have hw:=hn w (by simp)
  refine .note hw.1 ?_
  rw [k8i,y2h hw,v4p hW (j0y hw)]
  refine j3t z acc (W++q8q w) ts r (fun x hx=>hn x (by simp [hx])) ?_ ?_
  ·intro x hx
   rcases List.mem_append.1 hx with hx | hx
   ·exact hW x hx
   ·exact j0y hw x hx
  ·rw [List.flatMap_cons,←List.append_assoc] at h;exact h
theorem v0l {nts:List Wd} {acc:List (List Td)} {ts:List Wd} {r:Rp} (h0:nts≠[]) (hn:∀ w∈nts,v3a w) (h:PG true (acc++[[ntT (jb (nts.flatMap q8q))]]) ts r):PG false acc (nts++ts) r:=by
 cases nts with
 | nil=>exact absurd rfl h0
 | cons w z=>
  have hw:=hn w (by simp)
  refine .note hw.1 ?_
  rw [k3d,if_neg (by simp),y2h hw]
  refine j3t z acc (q8q w) ts r (fun x hx=>hn x (by simp [hx])) (j0y hw) ?_
  rw [List.flatMap_cons] at h;exact h
theorem j5f {p:UInt8→Bool} {c:UInt8} {r:List UInt8} (hc:p c=true) (hl:(r.takeWhile p).length+1=(c::r).length):∀ b∈c::r,p b=true:=by
 have hall:r.takeWhile p=r:=by
  have h1:=z4h (p:=p) r
  rw [show (r.takeWhile p).length=r.length by simp only [List.length_cons] at hl;omega,List.take_length] at h1
  exact h1.symm
 have hta:∀ (l:List UInt8) x,x∈l.takeWhile p→p x=true:=by
  intro l
  induction l with
  | nil=>intro x hx;cases hx
  | cons a l ih=>
   intro x hx
   rw [List.takeWhile_cons] at hx
   by_cases ha:p a=true
   ·rw [if_pos ha] at hx
    rcases List.mem_cons.1 hx with rfl | hx
    ·exact ha
    ·exact ih x hx
   ·rw [if_neg ha] at hx;cases hx
 intro b hb
 rcases List.mem_cons.1 hb with rfl | hb
 ·exact hc
 ·rw [←hall] at hb;exact hta r b hb
theorem v4d {w:Wd} (h:q3p w):w≠[]:=by
 obtain ⟨c,r,rfl,_⟩:=h
 simp
theorem v1k {w:Wd} (h:q3p w):nmW w=(decide (w≠z0x) && q3g (w.headD 0)):=by
 obtain ⟨c,r,rfl,_,ho,hl,_⟩:=h
 have hb:btL (wbS (c::r))=c::r:=rfl
 have hsz:(wbS (c::r)).size=(c::r).length:=by rw [←q0b,hb]
 unfold nmW q0x
 rw [hb,hsz]
 show _=(decide ((c::r)≠z0x) && q3g c)
 cases hc:q3g c with
 | false=>simp [hc]
 | true=>
  simp only [q4p,hc,if_true,decide_eq_true_eq] at ho
  simp only [q0o,hc,if_true] at hl
  have h1:=j5f hc hl
  have h2:(c::r).all q3g=true:=List.all_eq_true.2 h1
  rw [h2]
  have h3:(c::r).length≤8:=by omega
  simp only [List.length_cons] at h3 ⊢
  simp
  omega
theorem v9a {w:Wd} (h:q3p w) (hn:k0s w=true):(∀ b∈w,q4c b=true)∧w.length≤6:=by
 obtain ⟨c,r,rfl,_,ho,hl,_⟩:=h
 have hf:q4c c=true:=hn
 have hlow:q3g c=false:=k1k hf
 simp only [q4p,hlow,hf,if_true,Bool.false_eq_true,if_false,Bool.and_eq_true,decide_eq_true_eq] at ho
 simp only [q0o,hlow,hf,if_true,Bool.false_eq_true,if_false] at hl
 exact ⟨j5f hf hl,by omega⟩
theorem y3a {w:Wd} (h:q3p w) (hn:w.headD 0=35):v3a w:=by
 obtain ⟨c,r,rfl,_,ho,hl,_⟩:=h
 have hc:c=35:=hn
 subst hc
 have h1:q3g 35=false:=by decide
 have h2:q4c 35=false:=by decide
 have h3:((35:UInt8) == 35)=true:=by decide
 simp only [q4p,h1,h2,h3,if_true,Bool.false_eq_true,if_false] at ho
 simp only [q0o,h1,h2,h3,if_true,Bool.false_eq_true,if_false] at hl
 have hall:r.takeWhile nlB=r:=by
  have h4:=z4h (p:=nlB) r
  rw [show (r.takeWhile nlB).length=r.length by simp only [List.length_cons] at hl;omega,List.take_length] at h4
  exact h4.symm
 rw [hall,List.all_eq_true] at ho
 refine ⟨rfl,fun b hb=>?_⟩
 rcases List.mem_cons.1 hb with rfl | hb
 ·decide
 ·exact ho b hb
def v4a (ts:List Tn):Nat:=(ts.map fun t=>t.tk.length+2).sum
theorem q6w (t:Tn) (r:List Tn):v4a (t::r)=t.tk.length+2+v4a r:=by simp [v4a]
theorem z5z (l:Nat) (t:Tn):(brk l t).length≤t.tk.length+2:=by
 unfold brk
 split
 ·simp
 ·omega
theorem k9q:∀ ts:List Tn,(cmk ts).length≤v4a ts
 | []=>Nat.zero_le _
 | t::r=>by
  have ih:=k9q r
  rw [z2a,q6w,List.length_append]
  cases r with
  | nil=>simp [cmt];omega
  | cons u z=>
   simp only [cmt,List.length_cons]
   omega
theorem j5q (f:Tn→Tn→List Wd) (hf:∀ a b,(f a b).length≤a.tk.length+b.tk.length+5):∀ ts:List Tn,(two2 f ts).length≤v4a ts+1
 | []=>by simp [two2]
 | [_]=>by simp [two2]
 | [a,b]=>by
  have:=hf a b
  rw [q6w,q6w]
  show (f a b).length≤_
  omega
 | _::_::_::_=>by simp [two2]
theorem y2y (x:Td) (ts:List Tn):(q2p x ts).length≤3+v4a ts:=by
 have hc:=k9q ts
 unfold q2p
 split
 ·simp;omega
 ·split
  ·simp;omega
  ·split
   ·simp;omega
   ·split
    ·simp;omega
    ·split
     ·have:=j5q (fun a b=>brk 0 a++[43]::brk 1 b) (fun a b=>by
       have h1:=z5z 0 a
       have h2:=z5z 1 b
       simp;omega) ts
      omega
     ·have:=j5q (fun a b=>brk 1 a++[42]::brk 2 b) (fun a b=>by
       have h1:=z5z 1 a
       have h2:=z5z 2 b
       simp;omega) ts
      omega
theorem k2s:∀ F:Fo,v4a F.trs≤5*F.nodes.length
 | .nil=>by simp [Fo.trs,v4a]
 | .cons x k n=>by
  have h1:=k2s k
  have h2:=k2s n
  have h3:=y2y x k.trs
  rw [Fo.trs,q6w,Fo.nodes]
  simp only [q0m,List.length_cons,List.length_append]
  omega
theorem y2v {t:List Td} (h:q0c t=0) (h9:opT t≠9):(q6c t).length≤205:=by
 have h40:=(q2l h).1
 obtain ⟨x,y,k,rfl,hok,_,hk,hx⟩:=q7r h h9
 rw [(q6u hok hk).2]
 have h1:=k2s (.cons y k .nil)
 rw [Fo.trs,q6w] at h1
 simp only [List.length_cons] at h40
 have h2:(hdK (Fo.cons y k .nil).trs).length≤200:=by
  show (q0m y k.trs).tk.length≤200
  omega
 unfold stK
 split
 ·simp only [List.length_cons,List.length_append,List.length_nil];omega
 ·split
  ·simp only [List.length_cons,List.length_append,List.length_nil];omega
  ·simp
theorem v0v {t:List Td} (h:q0c t=0) (h9:opT t≠9) {u:List Int} {r:List UInt8} (hs:(q0s t).show u = .ok r):r.length≤20000:=by
 have h1:=v2r h h9 (v0x hs)
 have h2:=y2v h h9
 have h3:90*(q6c t).length≤90*205:=Nat.mul_le_mul_left _ h2
 omega
theorem k5g {t u:List Td} (ht:q0c t=0) (hu:q0c u=0) (h:q3c t=q3c u):t=u:=by
 have ok1:∀ {v:List Td},q0c v=0→okP 0 [v]:=fun {v} hv=>by
  refine ⟨hv,?_,trivial⟩
  rintro ⟨_,e⟩
  cases e
 have e1:q2d [t]=q2d [u]:=by simp [q2d,h]
 obtain ⟨a1,_⟩:=k1u [t] 0 0 (ok1 ht)
 obtain ⟨b1,_⟩:=k1u [u] 0 0 (ok1 hu)
 rw [e1,b1] at a1
 have p1:=z2g [t] 0 false [] (ok1 ht) (fun h=>by cases h)
 have p2:=z2g [u] 0 false [] (ok1 hu) (fun h=>by cases h)
 rw [a1] at p2
 have:=q8a p1 p2
 simp only [List.nil_append,Rp.ok.injEq,List.cons.injEq,and_true] at this
 exact this
def frs:List Wd→List Wd→Nat
 | _,[]=>0
 | known,t::r=>(if t∈known then 0 else 1)+frs (known++[t]) r
theorem k3x:∀ (p known:List Wd),(∀ t∈p,t∈known)→frs known p=0
 | [],_,_=>rfl
 | t::r,known,h=>by
  rw [frs,if_pos (h t (by simp)),k3x r (known++[t]) fun x hx=>by
   have:=h x (by simp [hx])
   simp [this]]
theorem v2x:∀ (p known:List Wd),frs known p≤p.length
 | [],_=>Nat.le_refl _
 | t::r,known=>by
  have:=v2x r (known++[t])
  rw [frs,List.length_cons]
  split<;>omega
def frP (p old:List (List Td)):Nat:=frs (old.map q3c) (p.map q3c)
theorem j8u (p:List (List Td)):frP p p=0:=k3x _ _ fun _ h=>h
theorem y0y (p old:List (List Td)):frP p old≤p.length:=by
 have:=v2x (p.map q3c) (old.map q3c)
 rwa [List.length_map] at this
theorem y1a {p:List Wd} {i:Nat} (h:i<p.length) (old:List Wd):frs (old++p.take i) (p.drop i)=(if p[i]∈old∨p[i]∈p.take i then 0 else 1)+frs (old++p.take (i+1)) (p.drop (i+1)):=by
 rw [List.drop_eq_getElem_cons h,frs,List.take_succ_eq_append_getElem h]
 simp only [List.mem_append,List.append_assoc]
end Go.Proofs.YtchdplceopegoaaGreatDoor
namespace Go.Proofs.YtchdplceopegoaaGreatDoor
open Go Go.RowKit
set_option maxRecDepth 100000
set_option maxHeartbeats 1000000
structure q0i (B b:Nat) (w w':World):Prop where
 os:w'.os=w.os
 tape:w'.tape=w.tape
 output:w'.output=w.output
 size:w.heap.size≤w'.heap.size
 block:∀ k,k<B→k≠b→w'.heap[k]? = w.heap[k]?
section
variable {B b:Nat} {w w' a:World}
theorem q0i.refl (B b:Nat) (w:World):q0i B b w w:=⟨rfl,rfl,rfl,Nat.le_refl _,fun _ _ _=>rfl⟩
theorem q0i.trans {c:World} (h:q0i B b a w) (k:q0i B b w c):q0i B b a c:=
 ⟨k.os.trans h.os,k.tape.trans h.tape,k.output.trans h.output,Nat.le_trans h.size k.size,fun i hi hb=>(k.block i hi hb).trans (h.block i hi hb)⟩
theorem q0i.drew (h:q0i B b a w):q0i B b a w.drew:=⟨h.os,h.tape,h.output,h.size,h.block⟩
theorem q0i.of (h:Below B w w'):q0i B b w w':=⟨h.os,h.tape,h.output,h.size,fun k hk _=>h.block k hk⟩
theorem q0i.below (h:q0i B b w w') (hB:B≤b):Below B w w':=⟨h.os,h.tape,h.output,h.size,fun k hk=>h.block k hk (by omega)⟩
theorem q0i.mono {B':Nat} (h:q0i B b w w') (hB:B'≤B):q0i B' b w w':=⟨h.os,h.tape,h.output,h.size,fun k hk=>h.block k (by omega)⟩
theorem q0i.alloc (h:q0i B b a w) (hB:B≤w.heap.size) (o:Obj):q0i B b a (w.alloc o):=
 h.trans (.of ((Below.refl B w).alloc hB o))
theorem q0i.setCell (h:q0i B b a w) {p:Addr} (hp:p.block=b∨B≤p.block) (u:Value):q0i B b a (w.setCell p u):=
 h.trans ⟨rfl,rfl,rfl,by simp [World.setCell],fun k hk hb=>Below.heap_setCell _ _ _ _ (by omega)⟩
theorem q0i.grown {row:Option Nat} (h:q0i B b a w) (hg:w.grownBy w' row) (hB:B≤w.heap.size) (hr:∀ k,row=some k→B≤k):q0i B b a w':=
 h.trans ⟨hg.os,hg.tape,hg.output,hg.size,fun k hk _=>hg.block k (by omega) (fun e=>by have:=hr k e.symm;omega)⟩
theorem q0i.cell (h:q0i B b w w') {p:Addr} (hp:p.block<B) (hb:p.block≠b):w'.cell? p=w.cell? p:=World.cell?_of_block (w:=w) (h.block p.block hp hb)
end
def XAt (T:TypeId) (B b:Nat) (p:Value) (bs R:List Value) (w:World):Prop:=
 ∃ v,w.heap[b]? = some (.cells (p::v::R).toArray T (0,0))∧w.ownsRowF B 5 1 v bs.length bs∧v.ownBlock≠some b∧(bs=[]→v = .slice none 0 0)
def IsX (T:TypeId) (B b:Nat) (bs R:List Value) (w:World):Prop:=
 XAt T B b (.pointer none) bs R w∨XAt T B b (.pointer (some ⟨b,0,none⟩)) bs R w
section
variable {T:TypeId} {B b:Nat} {p:Value} {bs R:List Value} {w:World}
theorem XAt.cell0 (h:XAt T B b p bs R w):w.cell? ⟨b,0,none⟩=some p:=by
 obtain ⟨v,hb,_⟩:=h
 simp [World.cell?,hb]
theorem XAt.cellR (h:XAt T B b p bs R w) (i:Nat):w.cell? ⟨b,i+2,none⟩=R[i]?:=by
 obtain ⟨v,hb,_⟩:=h
 simp [World.cell?,hb]
theorem XAt.shape (h:XAt T B b p bs R w):w.shape? b=some (T,R.length+2):=by
 obtain ⟨v,hb,_⟩:=h
 simp [World.shape?,hb]
theorem XAt.lt (h:XAt T B b p bs R w):b<w.heap.size:=by
 obtain ⟨v,hb,_⟩:=h
 rcases Nat.lt_or_ge b w.heap.size with h' | h'
 ·exact h'
 ·simp [Array.getElem?_eq_none h'] at hb
theorem XAt.used (h:XAt T B b p bs R w) (q:Value):XAt T B b q bs R (w.setCell ⟨b,0,none⟩ q):=by
 obtain ⟨v,hb,hown,hne,h0⟩:=h
 refine ⟨v,?_,?_,hne,h0⟩
 ·simp [World.setCell,Array.getElem?_modify,hb]
 ·exact hown.kept (row:=some b) ⟨rfl,rfl,rfl,by simp [World.setCell],fun k _ hk=>Below.heap_setCell _ _ _ _ (fun e=>hk (by simp [e]))⟩ (Or.inr hne)
theorem XAt.stored (h:XAt T B b p bs R w) (i:Nat) (q:Value):XAt T B b p bs (R.set i q) (w.setCell ⟨b,i+2,none⟩ q):=by
 obtain ⟨v,hb,hown,hne,h0⟩:=h
 refine ⟨v,?_,?_,hne,h0⟩
 ·simp [World.setCell,Array.getElem?_modify,hb]
 ·exact hown.kept (row:=some b) ⟨rfl,rfl,rfl,by simp [World.setCell],fun k _ hk=>Below.heap_setCell _ _ _ _ (fun e=>hk (by simp [e]))⟩ (Or.inr hne)
theorem XAt.frozen (h:XAt T B b p bs R w) (i:Nat):w.frozen? ⟨b,i,none⟩=false:=by
 obtain ⟨v,hb,_⟩:=h
 simp [World.frozen?,hb]
theorem XAt.put {v v':Value} {bs':List Value} (hb:w.heap[b]? = some (.cells (p::v::R).toArray T (0,0))) (hown:w.ownsRowF B 5 1 v' bs'.length bs') (hTe:T≠5) (h0:bs'=[]→v' = .slice none 0 0) :
  XAt T B b p bs' R (w.setCell ⟨b,1,none⟩ v'):=by
 have hne:=Lib.ownBlock_neF hown hb hTe
 refine ⟨v',?_,?_,hne,h0⟩
 ·simp [World.setCell,Array.getElem?_modify,hb]
 ·exact hown.kept (row:=some b) ⟨rfl,rfl,rfl,by simp [World.setCell],fun k _ hk=>Below.heap_setCell _ _ _ _ (fun e=>hk (by simp [e]))⟩ (Or.inr hne)
theorem XAt.alloc (h:XAt T B b p bs R w) (o:Obj):XAt T B b p bs R (w.alloc o):=by
 have hlt:=h.lt
 obtain ⟨v,hb,hown,hne,h0⟩:=h
 exact ⟨v,(Lib.alloc_old w o b hlt).trans hb,hown.kept (World.grownBy_alloc w o none) (by cases hv:v.ownBlock<;>simp),hne,h0⟩
theorem XAt.far {b':Nat} {w':World} {c:Array Value} {t:TypeId} {fz:Nat × Nat} (h:XAt T B b p bs R w) (hx:q0i w.heap.size b' w w') (hbb:b≠b') (hb':w.heap[b']? = some (.cells c t fz)) (ht:t≠5):XAt T B b p bs R w':=by
 have hlt:=h.lt
 obtain ⟨v,hb,hown,hne,h0⟩:=h
 refine ⟨v,(hx.block b hlt hbb).trans hb,hown.kept (row:=some b') ⟨hx.os,hx.tape,hx.output,hx.size,fun k hk hkb=>hx.block k hk (fun e=>hkb (by rw [e]))⟩ (Or.inr ?_),hne,h0⟩
 exact Lib.ownBlock_neF hown hb' ht
theorem IsX.at (h:IsX T B b bs R w):∃ p,XAt T B b p bs R w:=by
 rcases h with h | h
 ·exact ⟨_,h⟩
 ·exact ⟨_,h⟩
theorem IsX.lt (h:IsX T B b bs R w):b<w.heap.size:=h.at.elim fun _ h=>h.lt
theorem IsX.cellR (h:IsX T B b bs R w) (i:Nat):w.cell? ⟨b,i+2,none⟩=R[i]?:=h.at.elim fun _ h=>h.cellR i
theorem IsX.frozen (h:IsX T B b bs R w) (i:Nat):w.frozen? ⟨b,i,none⟩=false:=h.at.elim fun _ h=>h.frozen i
theorem IsX.alloc (h:IsX T B b bs R w) (o:Obj):IsX T B b bs R (w.alloc o):=h.imp (·.alloc o) (·.alloc o)
theorem IsX.stored (h:IsX T B b bs R w) (i:Nat) (q:Value):IsX T B b bs (R.set i q) (w.setCell ⟨b,i+2,none⟩ q):=h.imp (·.stored i q) (·.stored i q)
theorem IsX.drew (h:IsX T B b bs R w):IsX T B b bs R w.drew:=h
theorem IsX.far {b':Nat} {w':World} {c:Array Value} {t:TypeId} {fz:Nat × Nat} (h:IsX T B b bs R w) (hx:q0i w.heap.size b' w w') (hbb:b≠b') (hb':w.heap[b']? = some (.cells c t fz)) (ht:t≠5):IsX T B b bs R w':=h.imp (·.far hx hbb hb' ht) (·.far hx hbb hb' ht)
theorem IsX.fresh (T:TypeId) (w:World) (R:List Value):IsX T w.heap.size w.heap.size [] R (w.alloc (.cells (.pointer none::.slice none 0 0::R).toArray T)):=
 Or.inl ⟨.slice none 0 0,heap_alloc_new w _,World.ownsRowF_nil _ _ _ _,by simp [Value.ownBlock],fun _=>rfl⟩
theorem IsX.unused (T:TypeId) (B b:Nat) (w:World) (R:List Value) (h:w.heap[b]? = some (.cells (.pointer none::.slice none 0 0::R).toArray T (0,0))):IsX T B b [] R w:=
 Or.inl ⟨.slice none 0 0,h,World.ownsRowF_nil _ _ _ _,by simp [Value.ownBlock],fun _=>rfl⟩
end
theorem v1w:(Tryz.prog.info? 5).map (fun i=>(i.zero,i.size,i.bytes))=some (some (.int .u8 0),1,1):=by kernel_rfl
theorem v4h:Tryz.prog.cellsOf 5=1:=by kernel_rfl
theorem v2a:(Tryz.prog.info? 83).map (·.size)=some 2:=by kernel_rfl
theorem k2y (b:Nat) (w:World) (h0:w.cell? ⟨b,0,none⟩=some (.pointer (some ⟨b,0,none⟩))) :
  Calls Tryz.prog 54 #[.pointer (some ⟨b,0,none⟩)] w fun e w'=>e = .returned (.tuple #[])∧w'=w:=by
 obtain ⟨j,hj,_⟩:=Option.map_eq_some_iff.1 v2a
 go_enter Tryz.func54,Tryz.ntmps54
 go_wp2
 rw [Lib.run_neq_ptr_same w _ Tryz.underlying80 hj]
 go_wp2
 go_end0
 exact ⟨rfl,rfl⟩
theorem k0m (T n b:Nat) (w:World) (hl:liesAt Tryz.prog Tryz.prog.depth T (n / Tryz.prog.cellsOf T) 0 83 1=true) (h0:w.cell? ⟨b,0,none⟩=some (.pointer none)) (hsh:w.shape? b=some (T,n)) (hn:0<n) (hfz:w.frozen? ⟨b,0,none⟩=false) :
  Calls Tryz.prog 54 #[.pointer (some ⟨b,0,none⟩)] w fun e w'=>e = .returned (.tuple #[])∧w'=w.setCell ⟨b,0,none⟩ (.pointer (some ⟨b,0,none⟩)):=by
 obtain ⟨j,hj,hjs⟩:=Option.map_eq_some_iff.1 v2a
 have HL:Hid (liesAt Tryz.prog Tryz.prog.depth T (n / Tryz.prog.cellsOf T) 0 83 1=true):=hl
 have HS:Hid (w.shape? b=some (T,n)):=hsh
 have HJ:Hid (j.size≠0):=(show j.size≠0 by rw [hjs];decide)
 clear hl hsh hjs
 go_enter Tryz.func54,Tryz.ntmps54
 go_wp2
 rw [Lib.run_to_unsafe w ⟨b,0,none⟩ Tryz.underlying80 Tryz.underlying116 hj HJ.out HS.out hn]
 simp only [Result.andThen]
 rw [Oper.upon_value]
 go_wp2
 rw [run_callFunc_extern Tryz.func89 (by kernel_rfl) (by kernel_rfl) (by kernel_rfl) (e:=Extern.AbiNoEscape.same) (by kernel_rfl)]
 rw [Lib.run_noEscape]
 simp only [Result.andThen]
 rw [Oper.upon_value]
 go_wp2
 rw [Lib.run_from_unsafe w ⟨b,0,none⟩ Tryz.underlying116 Tryz.underlying80 hj HS.out HL.out]
 simp only [Result.andThen]
 rw [Oper.upon_value]
 go_wp2
 go_end0
 exact ⟨rfl,rfl⟩
def z0g (T n:Nat):Prop:=liesAt Tryz.prog Tryz.prog.depth T (n / Tryz.prog.cellsOf T) 0 83 1=true
theorem z1h (T B b:Nat) (bs R:List Value) (w:World) (hl:z0g T (R.length+2)) (h:IsX T B b bs R w) :
  Calls Tryz.prog 54 #[.pointer (some ⟨b,0,none⟩)] w fun e w'=>e = .returned (.tuple #[])∧(XAt T B b (.pointer (some ⟨b,0,none⟩)) bs R w'∧q0i B b w w'∧Lib.OthersKept 5 (some b) w w'):=by
 rcases h with h | h
 ·refine (k0m T (R.length+2) b w hl h.cell0 h.shape (by omega) (h.frozen 0)).mono ?_
  rintro e w' ⟨rfl,rfl⟩
  exact ⟨rfl,h.used _,(q0i.refl B b w).setCell (p:=⟨b,0,none⟩) (.inl rfl) _,(Lib.OthersKept.refl _ _ w).setCell ⟨b,0,none⟩ rfl _⟩
 ·refine (k2y b w h.cell0).mono ?_
  rintro e w' ⟨rfl,rfl⟩
  exact ⟨rfl,h,q0i.refl B b _,Lib.OthersKept.refl _ _ _⟩
end Go.Proofs.YtchdplceopegoaaGreatDoor
