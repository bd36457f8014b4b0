/- Texts as one: LnS, LnT, LnU, BstP. -/
import Derived.Test.YthjapabokcajhaaGreatDoorPb03
import Derived.Test.YthjapabokcajhaaGreatDoorPb04
import Derived.Test.YthjapabokcajhaaGreatDoorPb02
namespace Go.Proofs.YthjapabokcajhaaGreatDoor
open Go
def GOk (g:List Wd):Prop:=g≠[]∧g.length≤60∧∀ w∈g,w≠[]∧w.length≤20∧∀ b∈w,q7r b=true
theorem v2x:∀ g:List Wd,g≠[]→(∀ w∈g,∀ b∈w,b≠32)→q4w (jb g)=g
 | [w],_,h=>by
  have e:jb [w]=w:=by simp [jb]
  rw [e,k4p w (h w (by simp))]
 | w::u::r,_,h=>by
  have ih:=v2x (u::r) (by simp) fun x hx=>h x (by simp at hx ⊢;right;exact hx)
  have e:jb (w::u::r)=w++32::jb (u::r):=rfl
  rw [e,k4o _ _ (h w (by simp)),ih]
theorem v8m {b:UInt8} (h:q7r b=true):b≠32:=fun e=>by subst e;revert h;decide
theorem j1b {g:List Wd} (h:GOk g):jb g≠[]:=by
 obtain ⟨w,r,rfl⟩:=List.exists_cons_of_ne_nil h.1
 have hw:=(h.2.2 w (by simp)).1
 intro e
 have:w++(match r with | []=>[] | _::_=>32::jb r)=[]:=e
 exact hw (List.append_eq_nil_iff.1 this).1
theorem j2p {g:List Wd} (h:GOk g):q0h (jb g)=g∧q2t (wbS (jb g))=0:=by
 have h1:q0h (jb g)=g:=by rw [q0h,if_neg (j1b h),v2x g h.1 fun w hw b hb=>v8m ((h.2.2 w hw).2.2 b hb)]
 refine ⟨h1,?_⟩
 show q1e ((q0h (jb g)).map wbS)=0
 rw [h1,q1e,if_neg (by rw [List.length_map];have:=h.2.1;omega),if_pos]
 rw [List.all_eq_true]
 intro x hx
 obtain ⟨w,hw,rfl⟩:=List.mem_map.1 hx
 obtain ⟨q1,q2,q3⟩:=h.2.2 w hw
 have e:(wbS w).size=w.length:=by rw [←q0b];rfl
 have:=List.length_pos_iff.2 q1
 simp only [okW,Bool.and_eq_true,decide_eq_true_eq,List.all_eq_true]
 exact ⟨⟨by omega,by omega⟩,q3⟩
abbrev lnW (g:List Wd):Wd:=[35,32]++jb g
theorem v2g {g:List Wd} (h:GOk g):k0l (wbS (jb g))=lnW g:=by
 have e:(wbS (jb g)).size=(jb g).length:=by rw [←q0b];rfl
 have:=List.length_pos_iff.2 (j1b h)
 rw [k0l,if_neg (by omega)]
 rfl
theorem v5w {g:List Wd} (h:GOk g) (rest:List UInt8) (i:Nat):(lxW (lnW g++10::rest) i).map (·.2)=lnW g::(lxW rest (i+(lnW g).length+1)).map (·.2)∧lxF (lnW g++10::rest) i=lxF rest (i+(lnW g).length+1):=by
 have e2:=v2i (k3w (j2p h).2) rest i
 rw [v2g h] at e2
 rw [lxW,lxF,e2]
 exact ⟨rfl,rfl⟩
inductive FmS (t:List Td):List UInt8→List Wd→Prop where
 | doc {r cs cs'}:opT t≠9→(q0n t).lay 0 cs = .ok (r,cs')→FmS t (r++[10]) (q6w t)
 | empty {x}:t=[x]→x.op=9→btL x.tx=[]→FmS t [35,10] [[35]]
 | note {x gs}:t=[x]→x.op=9→gs≠[]→(∀ g∈gs,GOk g)→gs.flatten=q0h (btL x.tx)→btL x.tx≠[]→FmS t (gs.flatMap fun g=>lnW g++[10]) (gs.map lnW)
inductive FmP:List (List Td)→List UInt8→List Wd→Prop where
 | nil:FmP [] [] []
 | cons {t ps s ss ws us}:FmS t s ws→FmP ps ss us→FmP (t::ps) (s++ss) (ws++us)
theorem v2h:∀ (gs:List (List Wd)),(∀ g∈gs,GOk g)→∀ (rest:List UInt8) (i:Nat),∃ j,(lxW ((gs.flatMap fun g=>lnW g++[10])++rest) i).map (·.2)=gs.map lnW++(lxW rest j).map (·.2)∧lxF ((gs.flatMap fun g=>lnW g++[10])++rest) i=lxF rest j
 | [],_,rest,i=>⟨i,by simp,by simp⟩
 | g::gs,h,rest,i=>by
  obtain ⟨a1,a2⟩:=v5w (h g (by simp)) ((gs.flatMap fun g=>lnW g++[10])++rest) i
  obtain ⟨j,b1,b2⟩:=v2h gs (fun x hx=>h x (by simp [hx])) rest (i+(lnW g).length+1)
  have e:((g::gs).flatMap fun g=>lnW g++[10])++rest=lnW g++10::((gs.flatMap fun g=>lnW g++[10])++rest):=by simp
  refine ⟨j,?_,?_⟩
  ·rw [e,a1,b1];simp
  ·rw [e,a2,b2]
theorem y0a {t:List Td} (h:q0f t=0) {s:List UInt8} {ws:List Wd} (hf:FmS t s ws) (rest:List UInt8) (i:Nat):∃ j,(lxW (s++rest) i).map (·.2)=ws++(lxW rest j).map (·.2)∧lxF (s++rest) i=lxF rest j:=by
 cases hf with
 | doc h9 hr=>
  have hl:=Lx.post (v9l h h9 (.inr ⟨_,_,_,hr⟩)) (c:=10) (by decide) (Lx.blank (c:=10) (by decide))
  rw [List.append_nil] at hl
  exact ⟨_,hl rest i (q7e (by decide) _ _)⟩
 | empty=>
  have h0:q2t (⟨#[]⟩:ByteArray)=0:=by decide
  have e2:=v2i (k3w h0) rest i
  have e3:k0l (⟨#[]⟩:ByteArray)=[35]:=rfl
  rw [e3] at e2
  refine ⟨i+([35]:Wd).length+1,?_,?_⟩
  ·show (lxW ([35]++10::rest) i).map (·.2)=_
   rw [lxW,e2];rfl
  ·show lxF ([35]++10::rest) i=_
   rw [lxF,e2]
 | note _ _ _ hg=>exact v2h _ hg rest i
theorem v1v:∀ {ps:List (List Td)} {s:List UInt8} {ws:List Wd} {prev:Int},okP prev ps→FmP ps s ws→∀ i,(lxW s i).map (·.2)=ws∧lxF s i=none
 | _,_,_,_,_,.nil,i=>by rw [lxW,lxF,z0z];exact ⟨rfl,rfl⟩
 | _,_,_,_,h,.cons h1 h2,i=>by
  obtain ⟨j,a1,a2⟩:=y0a h.1 h1 _ i
  obtain ⟨b1,b2⟩:=v1v h.2.2 h2 j
  rw [a1,a2,b1,b2]
  exact ⟨rfl,rfl⟩
theorem y1l {t:List Td} (h:q0f t=0) (h9:opT t≠9) {pv:Bool} {acc:List (List Td)} {rest:List Wd} {R:Rp} (hr:PG false (acc++[t]) rest R):PG pv acc (q6w t++rest) R:=by
 rcases q4a h with ⟨x,rfl,ho,_⟩ | ⟨x,F,rfl,hok,hex,hl,hx⟩
 ·exact absurd ho h9
 ·have hkd:F.len=kdT x:=by
   rw [hl]
   unfold kdT
   rcases hx with ⟨h,_⟩ | ⟨h,_⟩<;>rw [h]<;>rfl
  obtain ⟨_,e2⟩:=z1k hok hkd
  have htl:F.trs.length=1:=by rw [q4x];exact hl
  obtain ⟨t,ht⟩:∃ t,F.trs=[t]:=by
   match F.trs,htl with
   | [t],_=>exact ⟨t,rfl⟩
  have hrd:=q9k F hok hex t (by rw [ht];simp)
  have hns:t.ns=F.nodes:=by
   have:=q9t F
   rw [ht] at this
   simpa using this
  have hlv:=z6s hrd (rest:=[59]::rest) (by simp) (by simp) (by simp)
  rw [hns] at hlv
  rw [e2,ht]
  rcases hx with ⟨ho,hnm,hn⟩ | ⟨ho,htx,hn⟩
  ·have q2:stK x [t]++rest=z2v::btL x.tx::[61]::(t.tk++[59]::rest):=by simp [stK,ho,hdK]
   have hx:x=z4w (btL x.tx):=z0t ho rfl hn
   rw [q2]
   refine .letO hnm hlv ?_
   rw [←hx]
   exact hr
  ·have q2:stK x [t]++rest=t.tk++[59]::rest:=by simp [stK,ho,hdK]
   have hx:x=doT:=z0t ho htx hn
   obtain ⟨w,z,ew,hw⟩:=hrd.b
   have hne:=z2d hw
   rw [q2]
   rw [ew,List.cons_append] at hlv ⊢
   refine .doO hne.2.2.2.2 hne.2.2.2.1 hlv ?_
   rw [←hx]
   exact hr
theorem z2z {g:List Wd} (h:GOk g):q4n (lnW g)=jb g:=by
 have:=z5a (j2p h).2
 rw [v2g h] at this
 exact this
theorem z8w:∀ (a b:List Wd),a≠[]→b≠[]→jb (a++b)=jb a++32::jb b
 | [w],b,_,hb=>by
  obtain ⟨u,r,rfl⟩:=List.exists_cons_of_ne_nil hb
  simp [jb]
 | w::u::r,b,_,hb=>by
  have ih:=z8w (u::r) b (by simp) hb
  have e1:jb (w::u::r++b)=w++32::jb (u::r++b):=rfl
  have e2:jb (w::u::r)=w++32::jb (u::r):=rfl
  rw [e1,e2,ih];simp
theorem j9o:∀ (gs:List (List Wd)),(∀ g∈gs,GOk g)→∀ (acc:List (List Td)) (g0:List Wd),GOk g0→∀ {rest:List Wd} {R:Rp},PG true (acc++[[ntT (jb (g0++gs.flatten))]]) rest R→PG true (acc++[[ntT (jb g0)]]) (gs.map lnW++rest) R
 | [],_,acc,g0,_,rest,R,h=>by simpa using h
 | g::gs,hg,acc,g0,h0,rest,R,h=>by
  have hgg:=hg g (by simp)
  rw [List.map_cons,List.cons_append]
  refine .note rfl ?_
  rw [z2z hgg]
  have e1:k2s true (acc++[[ntT (jb g0)]]) (jb g)=acc++[[ntT (jb (g0++g))]]:=by
   have e:q4l (acc++[[ntT (jb g0)]])=jb g0:=by simp [q4l,ntT];rfl
   show (acc++[[ntT (jb g0)]]).dropLast++[[ntT (q9x (q4l (acc++[[ntT (jb g0)]])) (jb g))]]=_
   rw [e,q9x,if_pos ⟨j1b hgg,j1b h0⟩,z8w g0 g h0.1 hgg.1]
   simp
  rw [e1]
  have key:∀ (gs:List (List Wd)),(∀ g∈gs,GOk g)→∀ (z:List Wd),z≠[]→jb z≠[]→∀ {rest:List Wd} {R:Rp},PG true (acc++[[ntT (jb (z++gs.flatten))]]) rest R→PG true (acc++[[ntT (jb z)]]) (gs.map lnW++rest) R:=by
   intro gs
   induction gs with
   | nil=>intro _ z _ _ rest R h;simpa using h
   | cons g gs ih=>
    intro hg z hz hz2 rest R h
    have hgg:=hg g (by simp)
    rw [List.map_cons,List.cons_append]
    refine .note rfl ?_
    rw [z2z hgg]
    have e1:k2s true (acc++[[ntT (jb z)]]) (jb g)=acc++[[ntT (jb (z++g))]]:=by
     have e:q4l (acc++[[ntT (jb z)]])=jb z:=by simp [q4l,ntT];rfl
     show (acc++[[ntT (jb z)]]).dropLast++[[ntT (q9x (q4l (acc++[[ntT (jb z)]])) (jb g))]]=_
     rw [e,q9x,if_pos ⟨j1b hgg,hz2⟩,z8w z g hz hgg.1]
     simp
    rw [e1]
    refine ih (fun x hx=>hg x (by simp [hx])) (z++g) (by simp [hz]) (by rw [z8w z g hz hgg.1];simp) ?_
    simpa [List.append_assoc] using h
  refine key gs (fun x hx=>hg x (by simp [hx])) (g0++g) (by simp [h0.1]) (by rw [z8w g0 g h0.1 hgg.1];simp) ?_
  simpa [List.append_assoc] using h
theorem v1w:∀ {ps:List (List Td)} {s:List UInt8} {ws:List Wd},FmP ps s ws→∀ (prev:Int) (pv:Bool) (acc:List (List Td)),okP prev ps→(pv=true→prev=9)→PG pv acc ws (.ok (acc++ps))
 | _,_,_,.nil,_,_,acc,_,_=>by simpa using PG.done
 | t::ps,_,_,.cons (us:=us) h1 h2,prev,pv,acc,h,hpv=>by
  have ih:∀ pv',(pv'=true→opT t=9)→PG pv' (acc++[t]) us (.ok (acc++[t]++ps)):=fun pv' h'=>v1w h2 (opT t) pv' (acc++[t]) h.2.2 h'
  have e0:acc++t::ps=acc++[t]++ps:=by simp
  rw [e0]
  have hpf:opT t=9→pv=false:=fun ho=>by
   cases pv with
   | false=>rfl
   | true=>exact absurd ⟨ho,hpv rfl⟩ h.2.1
  cases h1 with
  | doc h9 _=>exact y1l h.1 h9 (ih false (fun e=>by cases e))
  | @empty x he ho hx=>
   subst he
   have ho':opT [x]=9:=ho
   rw [hpf ho']
   have hn:x.n=0:=by
    rcases q4a h.1 with ⟨y,e,_,hn,_⟩ | ⟨y,F,e,_,_,hl,hy⟩
    ·cases e;exact hn
    ·rcases hy with ⟨h7,_⟩ | ⟨h7,_⟩<;>(have:x=y:=by injection e)<;>subst this<;>omega
   have hxx:x=ntT (btL x.tx):=z0t ho rfl hn
   refine .note rfl ?_
   have e2:k2s false acc (q4n [35])=acc++[[x]]:=by
    rw [k2s]
    simp only [Bool.false_eq_true,if_false]
    rw [hxx,hx];rfl
   rw [e2]
   exact ih true (fun _=>ho')
  | @note x gs he ho hne hg hfl hx=>
   subst he
   have ho':opT [x]=9:=ho
   rw [hpf ho']
   have hn:x.n=0∧q2t x.tx=0:=by
    rcases q4a h.1 with ⟨y,e,_,hn,hf⟩ | ⟨y,F,e,_,_,hl,hy⟩
    ·cases e;exact ⟨hn,hf⟩
    ·rcases hy with ⟨h7,_⟩ | ⟨h7,_⟩<;>(have:x=y:=by injection e)<;>subst this<;>omega
   have hxx:x=ntT (btL x.tx):=z0t ho rfl hn.1
   obtain ⟨g,gr,rfl⟩:=List.exists_cons_of_ne_nil hne
   have hgg:=hg g (by simp)
   rw [List.map_cons,List.cons_append]
   refine .note rfl ?_
   rw [z2z hgg]
   have e2:k2s false acc (jb g)=acc++[[ntT (jb g)]]:=rfl
   rw [e2]
   refine j9o gr (fun z hz=>hg z (by simp [hz])) acc g hgg ?_
   have e3:jb (g++gr.flatten)=btL x.tx:=by
    have:g++gr.flatten=q0h (btL x.tx):=by rw [←hfl];rfl
    rw [this,q0h,if_neg hx,z2s]
   rw [e3,←hxx]
   exact ih true (fun _=>ho')
end Go.Proofs.YthjapabokcajhaaGreatDoor
namespace Go.Proofs.YthjapabokcajhaaGreatDoor
open Go
def LnD (D:Tr) (b h:Nat):Prop:=(∀ r,D.flat=some r→r.length≤b)∧∀ deep cs cs' r,D.lay deep cs = .ok (r,cs')→deep+h≤80→r.length≤b
theorem LnD.mono {D:Tr} {b b' h h':Nat} (hd:LnD D b h) (hb:b≤b') (hh:h≤h'):LnD D b' h':=
 ⟨fun r hr=>Nat.le_trans (hd.1 r hr) hb,fun deep cs cs' r hr h1=>Nat.le_trans (hd.2 deep cs cs' r hr (by omega)) hb⟩
theorem z6r (s:List UInt8):LnD (wdD s) s.length 0:=
 ⟨fun r hr=>by cases hr;exact Nat.le_refl _,fun deep cs cs' r hr _=>by cases hr;exact Nat.le_refl _⟩
theorem v5t:LnD blD 81 0:=
 ⟨fun r hr=>by cases hr;decide,fun deep cs cs' r hr h=>by cases hr;simp;omega⟩
theorem y0k:LnD sfD 81 0:=
 ⟨fun r hr=>by cases hr;decide,fun deep cs cs' r hr h=>by cases hr;simp;omega⟩
theorem q8e {a b:Tr} {x y h:Nat} (ha:LnD a x h) (hb:LnD b y h):LnD (twD a b) (x+y) h:=by
 refine ⟨fun r hr=>?_,fun deep cs cs' r hr hh=>?_⟩
 ·simp only [Tr.flat,if_true] at hr
  cases ea:a.flat with
  | none=>rw [ea] at hr;cases hr
  | some s=>
   cases eb:b.flat with
   | none=>rw [ea,eb] at hr;cases hr
   | some t=>
    rw [ea,eb] at hr
    cases hr
    have h1:=ha.1 s ea
    have h2:=hb.1 t eb
    rw [List.length_append];omega
 ·simp only [Tr.lay,if_true] at hr
  cases la:a.lay deep cs with
  | error e=>rw [la] at hr;cases hr
  | ok p=>
   obtain ⟨r1,c1⟩:=p
   rw [la] at hr
   simp only at hr
   cases lb:b.lay deep c1 with
   | error e=>rw [lb] at hr;cases hr
   | ok p2=>
    obtain ⟨r2,c2⟩:=p2
    rw [lb] at hr
    cases hr
    have h1:=ha.2 _ _ _ _ la hh
    have h2:=hb.2 _ _ _ _ lb hh
    rw [List.length_append];omega
theorem v5u {a:Tr} {x h:Nat} (ha:LnD a x h):LnD (dpD a) x (h+2):=
 ⟨fun r hr=>ha.1 r hr,fun deep cs cs' r hr hh=>ha.2 (deep+(2:Int).toNat) cs cs' r hr (by have:(2:Int).toNat=2:=rfl;omega)⟩
theorem v5v {a:Tr} {x h:Nat} (ha:LnD a x h):LnD (grD a) x h:=by
 refine ⟨fun r hr=>ha.1 r hr,fun deep cs cs' r hr hh=>?_⟩
 simp only [Tr.lay] at hr
 rw [if_neg (by decide)] at hr
 cases cs with
 | nil=>cases hr
 | cons c cs=>
  simp only at hr
  split at hr
  ·exact ha.2 _ _ _ _ hr hh
  ·cases hf:a.flat with
   | none=>rw [hf] at hr;cases hr
   | some s=>rw [hf] at hr;cases hr;exact ha.1 _ hf
theorem y0i {x:Td} {d:Tr} {t:Tn} {h:Nat} (hx:x=t.x) (hd:LnD d (90*t.tk.length) h) (l:Nat):LnD (inD l x d) (90*(brk l t).length) h:=by
 unfold inD brk
 rw [hx]
 split
 ·refine (q8e ((z6r [40]).mono (Nat.le_refl _) (Nat.zero_le h)) (q8e hd ((z6r [41]).mono (Nat.le_refl _) (Nat.zero_le h)))).mono ?_ (Nat.le_refl _)
  simp only [List.length_cons,List.length_append,List.length_nil]
  omega
 ·exact hd
inductive Mls (h:Nat):List (Td × Tr)→List Tn→Prop where
 | nil:Mls h [] []
 | cons {p t ps ts}:p.1=t.x→LnD p.2 (90*t.tk.length) h→Mls h ps ts→Mls h (p::ps) (t::ts)
theorem Mls.up {h h':Nat} (hh:h≤h') {ps:List (Td × Tr)} {ts:List Tn} (m:Mls h ps ts):Mls h' ps ts:=by
 induction m with
 | nil=>exact .nil
 | cons e hd _ ih=>exact .cons e (hd.mono (Nat.le_refl _) hh) ih
theorem y0j {h:Nat}:∀ {ps:List (Td × Tr)} {ts:List Tn},Mls h ps ts→ps≠[]→LnD (kdD ps) (90*(cmk ts).length) h
 | _,_,.cons _ hd .nil,_=>by simp only [kdD,cmk,List.append_nil];exact hd
 | _,_,.cons (p:=p0) (t:=t0) (ps:=p::ps) (ts:=t::ts) _ hd (.cons e2 h2 h3),_=>by
  have ih:=y0j (Mls.cons e2 h2 h3) (by simp)
  show LnD (twD (twD p0.2 (wdD [44])) (twD blD (kdD (p::ps)))) _ h
  refine (q8e (q8e hd ((z6r [44]).mono (Nat.le_refl _) (Nat.zero_le h))) (q8e (v5t.mono (Nat.le_refl _) (Nat.zero_le h)) ih)).mono ?_ (Nat.le_refl _)
  have e:(cmk (t0::t::ts)).length=t0.tk.length+1+(cmk (t::ts)).length:=by simp [cmk];omega
  rw [e]
  simp only [List.length_cons,List.length_nil]
  omega
theorem j1x {h:Nat} {ps:List (Td × Tr)} {ts:List Tn} (m:Mls h ps ts) {op cl:List UInt8} (ho:op.length+cl.length≤18):LnD (q1i op cl ps) (90*((cmk ts).length+2)) (h+2):=by
 unfold q1i
 split
 ·refine (z6r _).mono ?_ (Nat.zero_le _)
  rw [List.length_append];omega
 ·rename_i h0
  have hk:=y0j m fun e=>h0 (by rw [e];rfl)
  have z:∀ s:List UInt8,LnD (wdD s) s.length (h+2):=fun s=>(z6r s).mono (Nat.le_refl _) (Nat.zero_le _)
  have zs:LnD sfD 81 (h+2):=y0k.mono (Nat.le_refl _) (Nat.zero_le _)
  refine v5v ((q8e (z op) (q8e (v5u (q8e (y0k.mono (Nat.le_refl _) (Nat.zero_le h)) hk)) (q8e zs (z cl)))).mono ?_ (Nat.le_refl _))
  omega
theorem y4c {h:Nat} {x:Td} {ps:List (Td × Tr)} {ts:List Tn} (m:Mls h ps ts) (hx:exN x) (hk:ps.length=kdT x):LnD (q0e x ps) (90*(q3h x ts).length) (h+2):=by
 have two:kdT x=2→∃ a b c d,ps=[a,b]∧ts=[c,d]∧(a.1=c.x∧LnD a.2 (90*c.tk.length) h)∧(b.1=d.x∧LnD b.2 (90*d.tk.length) h):=fun e=>by
  rw [e] at hk
  cases m with
  | nil=>simp at hk
  | cons h1 h1' h2=>cases h2 with
   | nil=>simp at hk
   | cons h3 h3' h4=>cases h4 with
    | nil=>exact ⟨_,_,_,_,rfl,rfl,⟨h1,h1'⟩,⟨h3,h3'⟩⟩
    | cons=>simp at hk
 have sum:∀ (l q:Nat) (c:UInt8) (a b:Td × Tr) (s t:Tn),(a.1=s.x∧LnD a.2 (90*s.tk.length) h)→(b.1=t.x∧LnD b.2 (90*t.tk.length) h)→LnD (grD (twD (inD l a.1 a.2) (dpD (twD blD (twD (wdD [c,32]) (inD q b.1 b.2)))))) (90*((brk l s).length+1+(brk q t).length)) (h+2):=fun l q c a b s t ha hb=>by
  refine v5v ((q8e ((y0i ha.1 ha.2 l).mono (Nat.le_refl _) (Nat.le_add_right h 2)) (v5u (q8e (v5t.mono (Nat.le_refl _) (Nat.zero_le h)) (q8e ((z6r [c,32]).mono (Nat.le_refl _) (Nat.zero_le h)) (y0i hb.1 hb.2 q))))).mono ?_ (Nat.le_refl _))
  simp only [List.length_cons,List.length_nil]
  omega
 rcases q2a hx with ⟨ho,_,h0,h9,_⟩ | ⟨ho,hn,_⟩ | ⟨ho,hn,_⟩ | ⟨ho,_⟩ | ⟨ho,_,_,h2⟩ | ⟨ho,_,_,h2⟩
 ·rw [show q0e x ps=wdD (q2y x.n.toNat) by simp [q0e,ho],show q3h x ts=[q2y x.n.toNat] by simp [q3h,ho]]
  have h1:=q8t 5 x.n.toNat (by omega)
  exact (z6r _).mono (by simp only [List.length_cons,List.length_nil];omega) (Nat.zero_le _)
 ·rw [show q0e x ps=wdD (btL x.tx) by simp [q0e,ho],show q3h x ts=[btL x.tx] by simp [q3h,ho]]
  have h1:=q2c hn
  exact (z6r _).mono (by simp only [List.length_cons,List.length_nil];omega) (Nat.zero_le _)
 ·rw [show q0e x ps=q1i (btL x.tx++[40]) [41] ps by simp [q0e,ho],show q3h x ts=btL x.tx::[40]::(cmk ts++[[41]]) by simp [q3h,ho]]
  have h1:=q2c hn
  refine (j1x m (by simp only [List.length_append,List.length_cons,List.length_nil];omega)).mono ?_ (Nat.le_refl _)
  simp only [List.length_append,List.length_cons,List.length_nil];omega
 ·rw [show q0e x ps=q1i [91] [93] ps by simp [q0e,ho],show q3h x ts=[91]::(cmk ts++[[93]]) by simp [q3h,ho]]
  refine (j1x m (by decide)).mono ?_ (Nat.le_refl _)
  simp only [List.length_append,List.length_cons,List.length_nil];omega
 ·obtain ⟨a,b,c,d,rfl,rfl,h3,h4⟩:=two h2
  rw [show q0e x [a,b]=grD (twD (inD 0 a.1 a.2) (dpD (twD blD (twD (wdD [43,32]) (inD 1 b.1 b.2))))) by simp [q0e,tw2,ho],show q3h x [c,d]=brk 0 c++[43]::brk 1 d by simp [q3h,two2,ho]]
  refine (sum 0 1 43 a b c d h3 h4).mono ?_ (Nat.le_refl _)
  simp only [List.length_append,List.length_cons];omega
 ·obtain ⟨a,b,c,d,rfl,rfl,h3,h4⟩:=two h2
  rw [show q0e x [a,b]=grD (twD (inD 1 a.1 a.2) (dpD (twD blD (twD (wdD [42,32]) (inD 2 b.1 b.2))))) by simp [q0e,tw2,ho],show q3h x [c,d]=brk 1 c++[42]::brk 2 d by simp [q3h,two2,ho]]
  refine (sum 1 2 42 a b c d h3 h4).mono ?_ (Nat.le_refl _)
  simp only [List.length_append,List.length_cons];omega
theorem k9l:∀ F:Fo,F.ok→F.exs→Mls (2*F.nodes.length) F.dcs F.trs
 | .nil,_,_=>.nil
 | .cons x k n,hok,hex=>by
  have h1:=k9l k hok.2.1 fun y hy=>hex y (by simp [Fo.nodes,hy])
  have h2:=k9l n hok.2.2 fun y hy=>hex y (by simp [Fo.nodes,hy])
  have h3:=y4c h1 (hex x (by simp [Fo.nodes])) (by rw [q3o];exact hok.1)
  have e:(Fo.cons x k n).nodes.length=1+k.nodes.length+n.nodes.length:=by simp only [Fo.nodes,List.length_cons,List.length_append];omega
  exact .cons rfl (h3.mono (Nat.le_refl _) (by omega)) (h2.up (by omega))
theorem v1s {t:List Td} (h:q0f t=0) (h9:opT t≠9) {cs cs':List Int} {r:List UInt8} (hr:(q0n t).lay 0 cs = .ok (r,cs')):r.length≤90*(q6w t).length:=by
 have hl40:=(q2e h).1
 obtain ⟨x,y,k,rfl,hok,hex,hk,hx⟩:=q4q h h9
 have hm:=k9l _ hok hex
 have hd:LnD (q0e y k.dcs) (90*(q1u y k.trs).tk.length) (2*(Fo.cons y k .nil).nodes.length):=by
  cases hm with
  | cons _ h1 _=>exact h1
 have e0:q0n (x::(Fo.cons y k .nil).nodes)=stD x (q0e y k.dcs):=q7l hok hk
 have e1:q6w (x::(Fo.cons y k .nil).nodes)=stK x (Fo.cons y k .nil).trs:=(z1k hok hk).2
 rw [e0] at hr
 rw [e1]
 simp only [List.length_cons] at hl40
 generalize q0e y k.dcs=D at hd hr
 have hH:2*(Fo.cons y k .nil).nodes.length≤78:=by omega
 generalize 2*(Fo.cons y k .nil).nodes.length=H at hd hH
 have z:∀ s:List UInt8,∀ q,LnD (wdD s) s.length q:=fun s q=>(z6r s).mono (Nat.le_refl _) (Nat.zero_le _)
 have hD:=q8e hd (z [59] _)
 rcases hx with ⟨ho,hnm,_⟩ | ⟨ho,_,_⟩
 ·have h8:=q2c hnm
  rw [stD,if_pos ho] at hr
  have h5:=v5v (q8e (z ([108,101,116,32]++btL x.tx++[32,61]) _) (v5u (q8e (v5t.mono (Nat.le_refl _) (Nat.zero_le _)) hD)))
  have h6:=h5.2 0 cs cs' r hr (by omega)
  have e3:(stK x (Fo.cons y k .nil).trs).length=(q1u y k.trs).tk.length+4:=by simp [stK,ho,hdK,Fo.trs]
  rw [e3]
  simp only [List.length_append,List.length_cons,List.length_nil] at h6
  omega
 ·rw [stD,if_neg (by omega)] at hr
  have h6:=hD.2 0 cs cs' r hr (by omega)
  have e3:(stK x (Fo.cons y k .nil).trs).length=(q1u y k.trs).tk.length+1:=by simp [stK,ho,hdK,Fo.trs]
  rw [e3]
  simp only [List.length_cons,List.length_nil] at h6
  omega
end Go.Proofs.YthjapabokcajhaaGreatDoor
namespace Go.Proofs.YthjapabokcajhaaGreatDoor
open Go
theorem v9i (n:Nat):z1i (q2y n)=true:=by
 rcases Nat.eq_zero_or_pos n with h | h
 ·subst h
  rw [show q2y 0=[48] by rw [q2y,dif_pos (by omega)];rfl]
  decide
 ·obtain ⟨c,z,e,_⟩:=z8h n h
  have hf:=z1r n c (by rw [e];simp)
  rw [e]
  simp only [z1i,List.headD_cons]
  have:c≠35:=fun e=>by subst e;revert hf;decide
  simpa using this
theorem k1p {s:ByteArray} (h:q0z s=true):z1i (btL s)=true:=by
 have h1:=(q9f h).1
 simp only [q0z,Bool.and_eq_true,decide_eq_true_eq,List.all_eq_true] at h
 cases e:btL s with
 | nil=>rw [e] at h1;simp at h1
 | cons c z=>
  have hf:=h.2 c (by rw [e];simp)
  simp only [z1i,List.headD_cons]
  have:c≠35:=fun e=>by subst e;revert hf;decide
  simpa using this
theorem v1n {l:Nat} {t:Tn} (h:∀ w∈t.tk,z1i w=true):∀ w∈brk l t,z1i w=true:=by
 unfold brk
 split
 ·intro w hw
  simp at hw
  rcases hw with rfl | hw | rfl
  ·decide
  ·exact h w hw
  ·decide
 ·exact h
theorem v1p:∀ ts:List Tn,(∀ t∈ts,∀ w∈t.tk,z1i w=true)→∀ w∈cmk ts,z1i w=true
 | [],_,w,hw=>by cases hw
 | [t],h,w,hw=>h t (by simp) w (by simpa [cmk] using hw)
 | t::u::r,h,w,hw=>by
  have e:cmk (t::u::r)=t.tk++[44]::cmk (u::r):=rfl
  rw [e] at hw
  rcases List.mem_append.1 hw with hw | hw
  ·exact h t (by simp) w hw
  ·rcases List.mem_cons.1 hw with rfl | hw
   ·decide
   ·exact v1p (u::r) (fun z hz=>h z (by simp at hz ⊢;right;exact hz)) w hw
theorem j4w:∀ F:Fo,F.ok→F.exs→∀ t∈F.trs,∀ w∈t.tk,z1i w=true
 | .nil,_,_,t,ht=>by cases ht
 | .cons x k n,hok,hex,t,ht=>by
  have ihk:=j4w k hok.2.1 fun y hy=>hex y (by simp [Fo.nodes,hy])
  have ihn:=j4w n hok.2.2 fun y hy=>hex y (by simp [Fo.nodes,hy])
  rw [Fo.trs] at ht
  rcases List.mem_cons.1 ht with rfl | ht
  ·show ∀ w∈q3h x k.trs,z1i w=true
   have hc:=v1p k.trs ihk
   have two:∀ (l m:Nat) (c:Wd),z1i c=true→∀ w∈two2 (fun a b=>brk l a++c::brk m b) k.trs,z1i w=true:=fun l m c hcn w hw=>by
    unfold two2 at hw
    split at hw
    ·rename_i a b hab
     rcases List.mem_append.1 hw with hw | hw
     ·exact v1n (ihk a (by rw [hab];simp)) w hw
     ·rcases List.mem_cons.1 hw with rfl | hw
      ·exact hcn
      ·exact v1n (ihk b (by rw [hab];simp)) w hw
    ·cases hw
   rcases q2a (hex x (by simp [Fo.nodes])) with ⟨ho,_⟩ | ⟨ho,hn,_⟩ | ⟨ho,hn,_⟩ | ⟨ho,_⟩ | ⟨ho,_⟩ | ⟨ho,_⟩
   ·rw [show q3h x k.trs=[q2y x.n.toNat] by simp [q3h,ho]]
    intro w hw;simp at hw;subst hw;exact v9i _
   ·rw [show q3h x k.trs=[btL x.tx] by simp [q3h,ho]]
    intro w hw;simp at hw;subst hw;exact k1p hn
   ·rw [show q3h x k.trs=btL x.tx::[40]::(cmk k.trs++[[41]]) by simp [q3h,ho]]
    intro w hw
    simp at hw
    rcases hw with rfl | rfl | hw | rfl
    ·exact k1p hn
    ·decide
    ·exact hc w hw
    ·decide
   ·rw [show q3h x k.trs=[91]::(cmk k.trs++[[93]]) by simp [q3h,ho]]
    intro w hw
    simp at hw
    rcases hw with rfl | hw | rfl
    ·decide
    ·exact hc w hw
    ·decide
   ·rw [show q3h x k.trs=two2 (fun a b=>brk 0 a++[43]::brk 1 b) k.trs by simp [q3h,ho]]
    exact two 0 1 [43] (by decide)
   ·rw [show q3h x k.trs=two2 (fun a b=>brk 1 a++[42]::brk 2 b) k.trs by simp [q3h,ho]]
    exact two 1 2 [42] (by decide)
  ·exact ihn t ht
theorem j8t {ws:List Wd} (h:∀ w∈ws,z1i w=true):many ws=ws.length:=by
 unfold many
 rw [List.filter_eq_self.2 h]
theorem v7z {t:List Td} (h:q0f t=0) (h9:opT t≠9):many (q6w t)=(q6w t).length:=by
 obtain ⟨x,y,k,rfl,hok,hex,hk,hx⟩:=q4q h h9
 have e1:q6w (x::(Fo.cons y k .nil).nodes)=stK x (Fo.cons y k .nil).trs:=(z1k hok hk).2
 have hn:=j4w _ hok hex (q1u y k.trs) (by simp [Fo.trs])
 rw [e1]
 refine j8t fun w hw=>?_
 rcases hx with ⟨ho,hnm,_⟩ | ⟨ho,_,_⟩
 ·rw [show stK x (Fo.cons y k .nil).trs=[108,101,116]::btL x.tx::[61]::((q1u y k.trs).tk++[[59]]) by simp [stK,ho,hdK,Fo.trs]] at hw
  simp at hw
  rcases hw with rfl | rfl | rfl | hw | rfl
  ·decide
  ·exact k1p hnm
  ·decide
  ·exact hn w hw
  ·decide
 ·rw [show stK x (Fo.cons y k .nil).trs=(q1u y k.trs).tk++[[59]] by simp [stK,ho,hdK,Fo.trs]] at hw
  simp at hw
  rcases hw with hw | rfl
  ·exact hn w hw
  ·decide
theorem v4v {t:List Td} (h:q0f t=0) {s:List UInt8} {ws:List Wd} (hf:FmS t s ws):s.length≤90*many (q6w t)+1441∧many ws≤many (q6w t):=by
 cases hf with
 | doc h9 hr=>
  have h1:=v1s h h9 hr
  rw [v7z h h9]
  rw [List.length_append]
  simp only [List.length_cons,List.length_nil]
  exact ⟨by omega,Nat.le_refl _⟩
 | empty=>exact ⟨by simp,by simp [many,z1i]⟩
 | @note x gs he ho hne hg hfl hx=>
  subst he
  have hnf:q2t x.tx=0:=by
   rcases q4a h with ⟨y,e,_,_,hf⟩ | ⟨y,F,e,_,_,hl,hy⟩
   ·cases e;exact hf
   ·rcases hy with ⟨h7,_⟩ | ⟨h7,_⟩<;>(have:x=y:=by injection e)<;>subst this<;>omega
  have h60:=(z0q hnf).1
  rw [←hfl] at h60
  have jl:∀ g:List Wd,(∀ w∈g,w.length≤20)→(jb g).length≤21*g.length:=j1a
  have key:∀ gs:List (List Wd),(∀ g∈gs,GOk g)→(gs.flatMap fun g=>lnW g++[10]).length≤24*gs.flatten.length:=by
   intro gs
   induction gs with
   | nil=>intro _;simp
   | cons g gs ih=>
    intro hg
    have i1:=ih fun z hz=>hg z (by simp [hz])
    have g1:=hg g (by simp)
    have j1:=jl g fun w hw=>(g1.2.2 w hw).2.1
    have p1:=List.length_pos_iff.2 g1.1
    simp only [List.flatMap_cons,List.flatten_cons,List.length_append,List.length_cons,List.length_nil]
    omega
  have k1:=key gs hg
  refine ⟨by omega,?_⟩
  have:many (gs.map lnW)=0:=by
   unfold many
   rw [List.length_eq_zero_iff,List.filter_eq_nil_iff]
   intro w hw
   obtain ⟨g,_,rfl⟩:=List.mem_map.1 hw
   simp [z1i]
  omega
theorem j0o:∀ {ps:List (List Td)} {s:List UInt8} {ws:List Wd} {prev:Int},okP prev ps→FmP ps s ws→s.length≤90*q3k ps+1441*ps.length∧many ws≤q3k ps
 | _,_,_,_,_,.nil=>by simp [many,q3k]
 | t::ps,_,_,_,h,.cons h1 h2=>by
  obtain ⟨a1,a2⟩:=v4v h.1 h1
  obtain ⟨b1,b2⟩:=j0o h.2.2 h2
  have e:q3k (t::ps)=many (q6w t)+q3k ps:=by simp [q3k,q9c]
  rw [e,List.length_append,List.length_cons,q9c]
  exact ⟨by omega,by omega⟩
theorem v4u {ps:List (List Td)} {s:List UInt8} {ws:List Wd} (h:(q1f ps).2=0) (hm:q3k ps≤300) (hf:FmP ps s ws):q7q (wbS s) ps 0 0:=by
 obtain ⟨hl,hok⟩:=q6t h
 obtain ⟨a1,a2⟩:=v1v hok hf 0
 obtain ⟨b1,b2⟩:=j0o hok hf
 have hw:q2w (btL (wbS s))=ws:=a1
 have hle:q6g (btL (wbS s))=0:=by
  have e:btL (wbS s)=s:=rfl
  rw [e]
  unfold q6g
  rw [if_neg (by omega),a2]
  have hw':q2w s=ws:=a1
  rw [hw',if_neg (by simp),if_neg (by omega)]
 refine .ok hle ?_ h
 rw [hw]
 have:=v1w hf 0 false [] hok (fun e=>by cases e)
 simpa using this
end Go.Proofs.YthjapabokcajhaaGreatDoor
namespace Go.Proofs.YthjapabokcajhaaGreatDoor
def q2x (wd:Nat):Nat→List UInt8→Nat × Nat × Nat
 | c,[]=>(0,0,c)
 | c,b::s=>if b=10 then ((q2x wd 0 s).1,(q2x wd 0 s).2.1+1,(q2x wd 0 s).2.2) else ((if wd≤c then 1 else 0)+(q2x wd (c+1) s).1,(q2x wd (c+1) s).2.1,(q2x wd (c+1) s).2.2)
theorem z6b (wd:Nat):∀ (c:Nat) (s t:List UInt8),q2x wd c (s++t)=((q2x wd c s).1+(q2x wd (q2x wd c s).2.2 t).1,(q2x wd c s).2.1+(q2x wd (q2x wd c s).2.2 t).2.1,(q2x wd (q2x wd c s).2.2 t).2.2)
 | c,[],t=>by simp [q2x]
 | c,b::s,t=>by
  simp only [List.cons_append,q2x]
  split
  ·rw [z6b wd 0 s t]
   simp only [Prod.mk.injEq,and_true,true_and]
   omega
  ·rw [z6b wd (c+1) s t]
   simp only [Prod.mk.injEq,and_true]
   omega
abbrev Crs:=(Nat × Nat) × List Int
def q2z (a b:Nat × Nat):Prop:=a.1<b.1∨(a.1=b.1∧a.2<b.2)
instance (a b:Nat × Nat):Decidable (q2z a b):=by unfold q2z;infer_instance
def k4k (a b:Crs):Crs:=if q2z b.1 a.1 then b else a
def q6i:Option Crs→Option Crs→Option Crs
 | none,y=>y
 | x,none=>x
 | some a,some b=>some (k4k a b)
theorem k6n (a b c:Crs):k4k (k4k a b) c=k4k a (k4k b c):=by
 by_cases h1:q2z b.1 a.1<;>by_cases h2:q2z c.1 b.1<;>by_cases h3:q2z c.1 a.1
 all_goals first
  | (simp [k4k,h1,h2,h3];done)
  | (exfalso;unfold q2z at h1 h2 h3;omega)
theorem k2a (x y z:Option Crs):q6i (q6i x y) z=q6i x (q6i y z):=by
 cases x<;>cases y<;>cases z<;>simp [q6i,k6n]
def fm:List Crs→Option Crs
 | []=>none
 | a::l=>q6i (some a) (fm l)
theorem j0l:∀ l m:List Crs,fm (l++m)=q6i (fm l) (fm m)
 | [],m=>by cases h:fm m<;>simp [fm,q6i,h]
 | a::l,m=>by rw [List.cons_append,fm,fm,j0l l m,k2a]
def q4v (o l:Nat) (u:List Int) (a:Crs):Crs:=((o+a.1.1,l+a.1.2),u++a.2)
theorem z8z (o l:Nat) (u:List Int) (a b:Crs):q2z (q4v o l u b).1 (q4v o l u a).1↔q2z b.1 a.1:=by
 unfold q2z q4v
 dsimp only
 omega
theorem j3h (o l:Nat) (u:List Int) (a b:Crs):k4k (q4v o l u a) (q4v o l u b)=q4v o l u (k4k a b):=by
 unfold k4k
 by_cases h:q2z b.1 a.1
 ·rw [if_pos h,if_pos ((z8z o l u a b).2 h)]
 ·rw [if_neg h,if_neg fun k=>h ((z8z o l u a b).1 k)]
theorem z0i (o l:Nat) (u:List Int):∀ as:List Crs,fm (as.map (q4v o l u))=(fm as).map (q4v o l u)
 | []=>rfl
 | a::as=>by
  rw [List.map_cons,fm,z0i o l u as,fm]
  cases fm as with
  | none=>rfl
  | some b=>simp [q6i,j3h]
theorem j0m:∀ {l:List Crs},fm l=none→l=[]
 | [],_=>rfl
 | a::l,h=>by
  rw [fm] at h
  cases hl:fm l<;>rw [hl] at h<;>simp [q6i] at h
theorem z6j:∀ {l:List Crs} {a:Crs},fm l=some a→∃ (p q:List Crs),l=p++a::q∧(∀ b∈p,q2z a.1 b.1)∧∀ b∈q,¬ q2z b.1 a.1
 | b::l,a,h=>by
  rw [fm] at h
  cases hl:fm l with
  | none=>
   rw [hl] at h
   obtain rfl:=j0m hl
   simp only [q6i,Option.some.injEq] at h
   subst h
   exact ⟨[],[],rfl,by simp,by simp⟩
  | some c=>
   rw [hl] at h
   obtain ⟨p,q,rfl,h1,h2⟩:=z6j hl
   simp only [q6i,Option.some.injEq,k4k] at h
   split at h
   ·rename_i hlt
    subst h
    refine ⟨b::p,q,rfl,fun d hd=>?_,h2⟩
    rcases List.mem_cons.1 hd with rfl | hd
    ·exact hlt
    ·exact h1 d hd
   ·rename_i hlt
    subst h
    refine ⟨[],p++c::q,rfl,by simp,fun d hd=>?_⟩
    rcases List.mem_append.1 hd with hd | hd
    ·have:=h1 d hd
     unfold q2z at *
     omega
    ·rcases List.mem_cons.1 hd with rfl | hd
     ·exact hlt
     ·have:=h2 d hd
      unfold q2z at *
      omega
def Tr.outs:Tr→Nat→List (List UInt8 × List Int)
 | .leaf x,deep=>[(if x.op=1 then x.tx.data.toList else if x.op=5 then [] else 10::List.replicate deep 32,[])]
 | .one x a,deep=>if x.op=7 then a.outs (deep+x.n.toNat) else (match a.flat with | none=>[] | some s=>[(s,[0])])++(a.outs deep).map fun p=>(p.1,1::p.2)
 | .two x a b,deep=>if x.op=6 then (a.outs deep).flatMap fun p=>(b.outs deep).map fun q=>(p.1++q.1,p.2++q.2) else ((a.outs deep).map fun p=>(p.1,0::p.2))++(b.outs deep).map fun p=>(p.1,1::p.2)
theorem q2u:∀ (t:Tr) (deep:Nat),(t.outs deep).map (·.2)=t.ways
 | .leaf x,deep=>by simp [Tr.outs,Tr.ways]
 | .one x a,deep=>by
  simp only [Tr.outs,Tr.ways]
  split
  ·exact q2u a _
  ·rw [List.map_append,←q2u a deep]
   congr 1
   ·cases h:a.flat<;>simp [Tr.isFlat,h]
   ·rw [List.map_map,List.map_map];rfl
 | .two x a b,deep=>by
  simp only [Tr.outs,Tr.ways]
  split
  ·rw [←q2u a deep,←q2u b deep,List.map_flatMap,List.flatMap_map]
   congr 1
   funext p
   rw [List.map_map,List.map_map]
   rfl
  ·rw [←q2u a deep,←q2u b deep,List.map_append,List.map_map,List.map_map,List.map_map,List.map_map]
   rfl
theorem q5s:∀ (t:Tr) (deep:Nat) (p:List UInt8 × List Int),p∈t.outs deep→∀ r,t.lay deep (p.2++r) = .ok (p.1,r)
 | .leaf x,deep,p,h,r=>by
  simp only [Tr.outs,List.mem_singleton] at h
  subst h
  simp only [Tr.lay,List.nil_append]
  split
  ·rfl
  ·split<;>rfl
 | .one x a,deep,p,h,r=>by
  simp only [Tr.outs] at h
  simp only [Tr.lay]
  split at h
  ·rename_i h7
   rw [if_pos h7]
   exact q5s a _ p h r
  ·rename_i h7
   rw [if_neg h7]
   rcases List.mem_append.1 h with h | h
   ·cases hf:a.flat with
    | none=>rw [hf] at h;simp at h
    | some s=>
     rw [hf] at h
     simp only [List.mem_singleton] at h
     subst h
     simp
   ·obtain ⟨q,hq,rfl⟩:=List.mem_map.1 h
    simp only [List.cons_append,if_pos]
    exact q5s a deep q hq r
 | .two x a b,deep,p,h,r=>by
  simp only [Tr.outs] at h
  simp only [Tr.lay]
  split at h
  ·rename_i h6
   rw [if_pos h6]
   obtain ⟨u,hu,hp⟩:=List.mem_flatMap.1 h
   obtain ⟨v,hv,rfl⟩:=List.mem_map.1 hp
   dsimp only
   rw [List.append_assoc,q5s a deep u hu (v.2++r)]
   dsimp only
   rw [q5s b deep v hv r]
  ·rename_i h6
   rw [if_neg h6]
   rcases List.mem_append.1 h with h | h
   ·obtain ⟨q,hq,rfl⟩:=List.mem_map.1 h
    simp only [List.cons_append,if_pos]
    exact q5s a deep q hq r
   ·obtain ⟨q,hq,rfl⟩:=List.mem_map.1 h
    simp only [List.cons_append]
    rw [if_neg (by decide)]
    exact q5s b deep q hq r
def q4k:List (Nat × Tr)→List (List UInt8 × List Int)
 | []=>[([],[])]
 | (d,t)::ks=>(t.outs d).flatMap fun p=>(q4k ks).map fun q=>(p.1++q.1,p.2++q.2)
def q3s (wd c:Nat) (ks:List (Nat × Tr)):List Crs:=(q4k ks).map fun p=>(((q2x wd c p.1).1,(q2x wd c p.1).2.1),p.2)
def bst (wd c:Nat) (ks:List (Nat × Tr)):Option Crs:=fm (q3s wd c ks)
theorem v4g (wd c:Nat):bst wd c []=some ((0,0),[]):=by simp [bst,q3s,q4k,q2x,fm,q6i]
theorem z4s (wd c:Nat) (s:List UInt8) (u:List Int) (ks:List (Nat × Tr)):((q4k ks).map fun q=>(s++q.1,u++q.2)).map (fun p=>(((q2x wd c p.1).1,(q2x wd c p.1).2.1),p.2))=(q3s wd (q2x wd c s).2.2 ks).map (q4v (q2x wd c s).1 (q2x wd c s).2.1 u):=by
 unfold q3s
 rw [List.map_map,List.map_map]
 congr 1
 funext q
 simp only [Function.comp,z6b,q4v]
theorem z5x (wd c d:Nat) (x:Nd) (ks:List (Nat × Tr)) (s:List UInt8) (hs:s=if x.op=1 then x.tx.data.toList else if x.op=5 then [] else 10::List.replicate d 32) :
  bst wd c ((d,.leaf x)::ks)=(bst wd (q2x wd c s).2.2 ks).map (q4v (q2x wd c s).1 (q2x wd c s).2.1 []):=by
 unfold bst
 rw [←z0i,←z4s,q3s,q4k,Tr.outs,←hs]
 simp
theorem j6v (wd c d:Nat) (x:Nd) (a:Tr) (ks:List (Nat × Tr)) (h:x.op=7):bst wd c ((d,.one x a)::ks)=bst wd c ((d+x.n.toNat,a)::ks):=by
 unfold bst q3s
 rw [q4k,q4k,Tr.outs,if_pos h]
theorem z2r (wd c d:Nat) (k:Int) (a:Tr) (ks:List (Nat × Tr)):((((a.outs d).map fun p=>(p.1,k::p.2)).flatMap fun p=>(q4k ks).map fun q=>(p.1++q.1,p.2++q.2)).map (fun p=>(((q2x wd c p.1).1,(q2x wd c p.1).2.1),p.2)))=(q3s wd c ((d,a)::ks)).map (q4v 0 0 [k]):=by
 unfold q3s
 rw [q4k,List.flatMap_map,List.map_map,List.map_flatMap,List.map_flatMap]
 congr 1
 funext p
 rw [List.map_map,List.map_map]
 congr 1
 funext q
 simp [Function.comp,q4v]
theorem z8c (wd c d:Nat) (x:Nd) (a:Tr) (ks:List (Nat × Tr)) (h:x.op≠7) :
  bst wd c ((d,.one x a)::ks)=q6i (match a.flat with | none=>none | some s=>(bst wd (q2x wd c s).2.2 ks).map (q4v (q2x wd c s).1 (q2x wd c s).2.1 [0])) ((bst wd c ((d,a)::ks)).map (q4v 0 0 [1])):=by
 unfold bst
 rw [←z0i,←z2r]
 rw [q3s,q4k,Tr.outs,if_neg h,List.flatMap_append,List.map_append,j0l]
 congr 1
 cases hf:a.flat with
 | none=>rfl
 | some s=>
  dsimp only
  rw [←z0i,←z4s]
  simp
theorem j6u (wd c d:Nat) (x:Nd) (a b:Tr) (ks:List (Nat × Tr)) (h:x.op=6):bst wd c ((d,.two x a b)::ks)=bst wd c ((d,a)::(d,b)::ks):=by
 unfold bst q3s
 rw [q4k,q4k,q4k,Tr.outs,if_pos h,List.flatMap_assoc]
 congr 2
 congr 1
 funext p
 rw [List.flatMap_map,List.map_flatMap]
 congr 1
 funext q
 rw [List.map_map]
 congr 1
 funext z
 simp [Function.comp,List.append_assoc]
theorem k5k (wd c d:Nat) (x:Nd) (a b:Tr) (ks:List (Nat × Tr)) (h:x.op≠6) :
  bst wd c ((d,.two x a b)::ks)=q6i ((bst wd c ((d,a)::ks)).map (q4v 0 0 [0])) ((bst wd c ((d,b)::ks)).map (q4v 0 0 [1])):=by
 unfold bst
 rw [←z0i,←z0i,←z2r,←z2r,q3s,q4k,Tr.outs,if_neg h,List.flatMap_append,List.map_append,j0l]
end Go.Proofs.YthjapabokcajhaaGreatDoor
