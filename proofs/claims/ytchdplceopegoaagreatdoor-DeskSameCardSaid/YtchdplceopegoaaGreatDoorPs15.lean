/- Texts as one: BstT, Mp0. -/
import Derived.Test.YtchdplceopegoaaGreatDoorPs07
import Derived.Maps.OwnSet
import Derived.DeepKeys4
namespace Go.Proofs.YtchdplceopegoaaGreatDoor
structure Pl where
 nd:Nd
 en:Nat
 nx:Nat
 dp:Nat
 lg:Int
 t:Tr
 ks:List (Nat × Tr)
def Tr.root:Tr→Nd
 | .leaf x=>x
 | .one x _=>x
 | .two x _ _=>x
def lgF:Option (List UInt8)→Int
 | none=>-1
 | some s=>(s.length:Int)
def Tr.lg:Tr→Int
 | .one x a=>if x.op=8 then lgF a.flat else 0
 | _=>0
def Tr.sz (t:Tr):Nat:=t.nodes.length
theorem j4y (x:Nd):(Tr.leaf x).sz=1:=rfl
theorem k0b (x:Nd) (a:Tr):(Tr.one x a).sz=1+a.sz:=by simp [Tr.sz,Tr.nodes];omega
theorem z3o (x:Nd) (a b:Tr):(Tr.two x a b).sz=1+a.sz+b.sz:=by simp [Tr.sz,Tr.nodes];omega
theorem k5j (t:Tr):0<t.sz:=t.pos
def z5e (t:Tr) (i nx dp:Nat) (ks:List (Nat × Tr)):Pl:=⟨t.root,i+t.sz,nx,dp,t.lg,t,ks⟩
def z9w:Tr→Nat→Nat→Nat→List (Nat × Tr)→List Pl
 | .leaf x,i,nx,dp,ks=>[z5e (.leaf x) i nx dp ks]
 | .one x a,i,nx,dp,ks=>z5e (.one x a) i nx dp ks::z9w a (i+1) nx (dp+x.n.toNat) ks
 | .two x a b,i,nx,dp,ks=>z5e (.two x a b) i nx dp ks::((if x.op=6 then z9w a (i+1) (i+1+a.sz) dp ((dp,b)::ks) else z9w a (i+1) nx dp ks)++z9w b (i+1+a.sz) nx dp ks)
theorem q9q:∀ (t:Tr) (i nx dp:Nat) (ks:List (Nat × Tr)),(z9w t i nx dp ks).length=t.sz
 | .leaf x,i,nx,dp,ks=>rfl
 | .one x a,i,nx,dp,ks=>by rw [z9w,List.length_cons,q9q a,k0b];omega
 | .two x a b,i,nx,dp,ks=>by
  rw [z9w,List.length_cons,List.length_append,q9q b,z3o]
  split<;>rw [q9q a]<;>omega
theorem j3w (t:Tr) (i nx dp:Nat) (ks:List (Nat × Tr)):∃ r,z9w t i nx dp ks=z5e t i nx dp ks::r:=by
 cases t<;>exact ⟨_,rfl⟩
theorem z1c:∀ (t:Tr) (i nx dp:Nat) (ks:List (Nat × Tr)),(z9w t i nx dp ks).map (·.nd)=t.nodes
 | .leaf x,i,nx,dp,ks=>rfl
 | .one x a,i,nx,dp,ks=>by rw [z9w,List.map_cons,z1c a];rfl
 | .two x a b,i,nx,dp,ks=>by
  rw [z9w,List.map_cons,List.map_append,z1c b]
  split<;>rw [z1c a]<;>rfl
def kont (R:List Pl) (i:Nat):List (Nat × Tr):=match R[i]? with | some r=>(r.dp,r.t)::r.ks | none=>[]
theorem k4b {R:List Pl} {i:Nat} (h:R.length≤i):kont R i=[]:=by rw [kont,List.getElem?_eq_none h]
structure Sp (R:List Pl) (L M:Nat) (i:Nat) (t:Tr) (nx dp:Nat) (ks:List (Nat × Tr)):Prop where
 pl:∃ post,R.drop i=z9w t i nx dp ks++post
 kx:kont R nx=ks
 lo:i+t.sz≤nx
 hi:nx≤R.length
 wf:t.Wf
 bl:t.lf+lfK ks≤L
 bd:dp+t.dsum≤M
 bk:KB M ks
section
variable {R:List Pl} {L M i nx dp:Nat} {ks:List (Nat × Tr)} {t a b:Tr} {x:Nd}
theorem q9d {l:List Pl} {i:Nat} {r:Pl} {q:List Pl} (h:l.drop i=r::q):l[i]? = some r∧l.drop (i+1)=q:=by
 have hi:i<l.length:=by
  rcases Nat.lt_or_ge i l.length with h' | h'
  ·exact h'
  ·rw [List.drop_eq_nil_of_le h'] at h;cases h
 rw [List.drop_eq_getElem_cons hi,List.cons.injEq] at h
 exact ⟨by rw [List.getElem?_eq_getElem hi,h.1],h.2⟩
theorem v5x {l p q:List Pl} {i:Nat} (h:l.drop i=p++q):l.drop (i+p.length)=q:=by rw [←List.drop_drop,h,List.drop_left]
theorem Sp.get (h:Sp R L M i t nx dp ks):R[i]? = some (z5e t i nx dp ks):=by
 obtain ⟨post,h⟩:=h.pl
 obtain ⟨r,e⟩:=j3w t i nx dp ks
 rw [e] at h
 exact (q9d h).1
theorem Sp.kont (h:Sp R L M i t nx dp ks):kont R i=(dp,t)::ks:=by rw [Proofs.YtchdplceopegoaaGreatDoor.kont,h.get];rfl
theorem Sp.lt (h:Sp R L M i t nx dp ks):i<R.length:=by have:=k5j t;have:=h.lo;have:=h.hi;omega
theorem Sp.one (h:Sp R L M i (.one x a) nx dp ks):Sp R L M (i+1) a nx (dp+x.n.toNat) ks where
 pl:=by
  obtain ⟨post,e⟩:=h.pl
  rw [z9w] at e
  exact ⟨post,(q9d e).2⟩
 kx:=h.kx
 lo:=by have:=h.lo;rw [k0b] at this;omega
 hi:=h.hi
 wf:=h.wf.2.2
 bl:=h.bl
 bd:=by
  have:=h.bd
  have h0:=q1r h.wf.1
  simp only [Tr.dsum] at this
  omega
 bk:=h.bk
theorem Sp.two2 (h:Sp R L M i (.two x a b) nx dp ks):Sp R L M (i+1+a.sz) b nx dp ks where
 pl:=by
  obtain ⟨post,e⟩:=h.pl
  rw [z9w] at e
  have e2:=(q9d (q:=_++post) e).2
  rw [List.append_assoc] at e2
  have e3:=v5x e2
  refine ⟨post,?_⟩
  rw [←e3]
  congr 1
  split<;>rw [q9q]
 kx:=h.kx
 lo:=by have:=h.lo;rw [z3o] at this;omega
 hi:=h.hi
 wf:=h.wf.2.2.2
 bl:=by have:=h.bl;simp only [Tr.lf] at this;omega
 bd:=by have:=h.bd;simp only [Tr.dsum] at this;omega
 bk:=h.bk
theorem Sp.both1 (h:Sp R L M i (.two x a b) nx dp ks) (h6:x.op=6):Sp R L M (i+1) a (i+1+a.sz) dp ((dp,b)::ks) where
 pl:=by
  obtain ⟨post,e⟩:=h.pl
  rw [z9w,if_pos h6,List.cons_append,List.append_assoc] at e
  exact ⟨_,(q9d e).2⟩
 kx:=h.two2.kont
 lo:=Nat.le_refl _
 hi:=by have:=h.lo;have:=h.hi;rw [z3o] at *;omega
 wf:=h.wf.2.2.1
 bl:=by have:=h.bl;simp only [Tr.lf,lfK] at this ⊢;omega
 bd:=by have:=h.bd;simp only [Tr.dsum] at this;omega
 bk:=by
  intro p hp
  rcases List.mem_cons.1 hp with rfl | hp
  ·exact ⟨by have:=h.bd;simp only [Tr.dsum] at this;dsimp only;omega,h.wf.2.2.2⟩
  ·exact h.bk p hp
theorem Sp.either1 (h:Sp R L M i (.two x a b) nx dp ks) (h6:x.op≠6):Sp R L M (i+1) a nx dp ks where
 pl:=by
  obtain ⟨post,e⟩:=h.pl
  rw [z9w,if_neg h6,List.cons_append,List.append_assoc] at e
  exact ⟨_,(q9d e).2⟩
 kx:=h.kx
 lo:=by have:=h.lo;rw [z3o] at this;omega
 hi:=h.hi
 wf:=h.wf.2.2.1
 bl:=by have:=h.bl;simp only [Tr.lf] at this ⊢;omega
 bd:=by have:=h.bd;simp only [Tr.dsum] at this;omega
 bk:=h.bk
theorem Sp.two1 (h:Sp R L M i (.two x a b) nx dp ks):∃ nx' ks',Sp R L M (i+1) a nx' dp ks':=by
 by_cases h6:x.op=6
 ·exact ⟨_,_,h.both1 h6⟩
 ·exact ⟨_,_,h.either1 h6⟩
end
theorem k5d {R:List Pl} {L M:Nat}:∀ (t:Tr) (i nx dp:Nat) (ks:List (Nat × Tr)),Sp R L M i t nx dp ks→∀ j,i≤j→j<i+t.sz→∃ t' nx' dp' ks',Sp R L M j t' nx' dp' ks'
 | .leaf x,i,nx,dp,ks,h,j,h1,h2=>by
  rw [j4y] at h2
  obtain rfl:j=i:=by omega
  exact ⟨_,_,_,_,h⟩
 | .one x a,i,nx,dp,ks,h,j,h1,h2=>by
  rw [k0b] at h2
  by_cases e:j=i
  ·subst e;exact ⟨_,_,_,_,h⟩
  ·exact k5d a _ _ _ _ h.one j (by omega) (by omega)
 | .two x a b,i,nx,dp,ks,h,j,h1,h2=>by
  rw [z3o] at h2
  by_cases e:j=i
  ·subst e;exact ⟨_,_,_,_,h⟩
  ·by_cases e2:j<i+1+a.sz
   ·obtain ⟨_,_,h'⟩:=h.two1
    exact k5d a _ _ _ _ h' j (by omega) (by omega)
   ·exact k5d b _ _ _ _ h.two2 j (by omega) (by omega)
def k8b (R:List Pl) (L M:Nat) (p j:Nat):Prop:=(∃ x a nx dp ks,Sp R L M p (.one x a) nx dp ks∧j=p+1)∨∃ x a b nx dp ks,Sp R L M p (.two x a b) nx dp ks∧(j=p+1∨j=p+1+a.sz)
theorem k4v {R:List Pl} {L M:Nat}:∀ (t:Tr) (i nx dp:Nat) (ks:List (Nat × Tr)),Sp R L M i t nx dp ks→∀ j,i<j→j<i+t.sz→∃ p,p<j∧k8b R L M p j
 | .leaf x,i,nx,dp,ks,h,j,h1,h2=>by rw [j4y] at h2;omega
 | .one x a,i,nx,dp,ks,h,j,h1,h2=>by
  rw [k0b] at h2
  by_cases e:j=i+1
  ·exact ⟨i,h1,.inl ⟨_,_,_,_,_,h,e⟩⟩
  ·exact k4v a _ _ _ _ h.one j (by omega) (by omega)
 | .two x a b,i,nx,dp,ks,h,j,h1,h2=>by
  rw [z3o] at h2
  by_cases e:j=i+1
  ·exact ⟨i,h1,.inr ⟨_,_,_,_,_,_,h,.inl e⟩⟩
  ·by_cases e3:j=i+1+a.sz
   ·exact ⟨i,h1,.inr ⟨_,_,_,_,_,_,h,.inr e3⟩⟩
   ·by_cases e2:j<i+1+a.sz
    ·obtain ⟨_,_,h'⟩:=h.two1
     exact k4v a _ _ _ _ h' j (by omega) (by omega)
    ·exact k4v b _ _ _ _ h.two2 j (by omega) (by omega)
def q0a (t:Tr):List Pl:=z9w t 0 t.sz 0 []
theorem q2f (t:Tr):(q0a t).length=t.sz:=q9q t _ _ _ _
theorem z7j {t:Tr} (h:t.Wf):Sp (q0a t) t.lf t.dsum 0 t t.sz 0 [] where
 pl:=⟨[],by simp [q0a]⟩
 kx:=k4b (Nat.le_of_eq (q2f t))
 lo:=by omega
 hi:=Nat.le_of_eq (q2f t).symm
 wf:=h
 bl:=by simp [lfK]
 bd:=by simp
 bk:=by intro p hp;simp at hp
theorem j4r {t:Tr} (h:t.Wf) {j:Nat} (hj:j<(q0a t).length):∃ t' nx dp ks,Sp (q0a t) t.lf t.dsum j t' nx dp ks:=
 k5d t 0 _ _ _ (z7j h) j (Nat.zero_le _) (by rw [q2f] at hj;omega)
theorem z9v {t:Tr} (h:t.Wf) {j:Nat} (h0:0<j) (hj:j<(q0a t).length):∃ p,p<j∧k8b (q0a t) t.lf t.dsum p j:=
 k4v t 0 _ _ _ (z7j h) j h0 (by rw [q2f] at hj;omega)
/-! ### Moves and courses -/
def vv (R:List Pl) (wd i c:Nat):Crs:=bs wd c (kont R i)
theorem v4g {R:List Pl} {wd i c:Nat} (h:R.length≤i):vv R wd i c=((0,0),[]):=by rw [vv,k4b h,y0f]
theorem y5y {R:List Pl} {wd L M i c nx dp:Nat} {ks:List (Nat × Tr)} {t:Tr} (h:Sp R L M i t nx dp ks) (hm:L*(21+M)≤400000):(vv R wd i c).1.1≤400000∧(vv R wd i c).1.2≤400000:=by
 have h1:=y4s wd c M (kont R i) (by rw [h.kont];intro p hp;rcases List.mem_cons.1 hp with rfl | hp;exact ⟨h.bd,h.wf⟩;exact h.bk p hp)
 have h2:lfK (kont R i)*(21+M)≤L*(21+M):=Nat.mul_le_mul_right _ (by rw [h.kont];exact h.bl)
 rw [vv]
 omega
structure Mv where
 np:Nat
 nc:Nat
 o:Nat
 l:Nat
def mvP (wd:Nat) (op:Int) (k nx dp lg e i c ch:Nat):Mv:=
 if op=1 then ⟨nx,min (c+k) wd,c+k - wd,0⟩
 else if op=2∨op=3∨op=4 then ⟨nx,min dp wd,dp - wd,1⟩
 else if op=5 then ⟨nx,c,0,0⟩
 else if op=8∧ch=0 then ⟨nx,min (c+lg) wd,c+lg - wd,0⟩
 else if op=9∧ch=1 then ⟨e,c,0,0⟩
 else ⟨i+1,c,0,0⟩
section
variable {wd k nx dp lg e i c ch:Nat} {op:Int}
theorem z6x (h:op=1):mvP wd op k nx dp lg e i c ch=⟨nx,min (c+k) wd,c+k - wd,0⟩:=by rw [mvP,if_pos h]
theorem q9n (h:op=2∨op=3∨op=4):mvP wd op k nx dp lg e i c ch=⟨nx,min dp wd,dp - wd,1⟩:=by rw [mvP,if_neg (by omega),if_pos h]
theorem z6y (h:op=5):mvP wd op k nx dp lg e i c ch=⟨nx,c,0,0⟩:=by rw [mvP,if_neg (by omega),if_neg (by omega),if_pos h]
theorem z6w (h:op=8) (h0:ch=0):mvP wd op k nx dp lg e i c ch=⟨nx,min (c+lg) wd,c+lg - wd,0⟩:=by rw [mvP,if_neg (by omega),if_neg (by omega),if_neg (by omega),if_pos ⟨h,h0⟩]
theorem z0z (h:op=9) (h0:ch=1):mvP wd op k nx dp lg e i c ch=⟨e,c,0,0⟩:=by rw [mvP,if_neg (by omega),if_neg (by omega),if_neg (by omega),if_neg (by omega),if_pos ⟨h,h0⟩]
theorem q9m (h:op=6∨op=7∨(op=8∧ch≠0)∨(op=9∧ch≠1)):mvP wd op k nx dp lg e i c ch=⟨i+1,c,0,0⟩:=by rw [mvP,if_neg (by omega),if_neg (by omega),if_neg (by omega),if_neg (by omega),if_neg (by omega)]
end
def mv (wd:Nat) (r:Pl) (e i c ch:Nat):Mv:=mvP wd r.nd.op r.nd.tx.size r.nx r.dp r.lg.toNat e i c ch
def z0u (op:Int):Bool:=decide (op=8) || decide (op=9)
structure Cv where
 o:Nat
 l:Nat
 ch:Nat
 np:Nat
 nc:Nat
def k9z (R:List Pl) (wd ch:Nat) (m:Mv):Cv:=⟨m.o+(vv R wd m.np m.nc).1.1,m.l+(vv R wd m.np m.nc).1.2,ch,m.np,m.nc⟩
def q1c (R:List Pl) (i:Nat):Pl:=R.getD i ⟨⟨0,⟨#[]⟩,0⟩,0,0,0,0,.leaf ⟨0,⟨#[]⟩,0⟩,[]⟩
theorem Sp.at {R:List Pl} {L M i nx dp:Nat} {ks:List (Nat × Tr)} {t:Tr} (h:Sp R L M i t nx dp ks):q1c R i=z5e t i nx dp ks:=by rw [q1c,List.getD,h.get];rfl
def q2o (R:List Pl) (wd i c ch:Nat):Mv:=mv wd (q1c R i) (q1c R (i+1)).en i c ch
def tkC (R:List Pl) (wd i c ch:Nat):Cv:=k9z R wd ch (q2o R wd i c ch)
def crs (R:List Pl) (wd i c:Nat):Cv:=
 if (q1c R i).lg = -1 then tkC R wd i c 1
 else if z0u (q1c R i).nd.op=false then tkC R wd i c 0
 else if q3b ((tkC R wd i c 1).o,(tkC R wd i c 1).l) ((tkC R wd i c 0).o,(tkC R wd i c 0).l) then tkC R wd i c 1 else tkC R wd i c 0
structure y6d (R:List Pl) (wd i:Nat) (m:Mv):Prop where
 lo:i<m.np
 hi:m.np≤R.length
 cl:m.nc≤wd
 bo:m.o≤20000
 bl:m.l≤1
section
variable {R:List Pl} {L M i nx dp wd c ch:Nat} {ks:List (Nat × Tr)} {t:Tr}
theorem y1h {a:Tr} (h:a.Wf) (hn:a.lf≤400):(lgF a.flat).toNat≤8000:=by
 cases hf:a.flat with
 | none=>simp [lgF]
 | some s=>have:=q8e a s h hf;simp [lgF];omega
theorem q4f {x:Nd} (h:Sp R L M i (.leaf x) nx dp ks):q2o R wd i c ch=mvP wd x.op x.tx.size nx dp 0 (q1c R (i+1)).en i c ch:=by rw [q2o,h.at];rfl
theorem q5o {x:Nd} {a:Tr} (h:Sp R L M i (.one x a) nx dp ks):q2o R wd i c ch=mvP wd x.op x.tx.size nx dp (Tr.lg (.one x a)).toNat (q1c R (i+1)).en i c ch:=by rw [q2o,h.at];rfl
theorem q7m {x:Nd} {a b:Tr} (h:Sp R L M i (.two x a b) nx dp ks):q2o R wd i c ch=mvP wd x.op x.tx.size nx dp 0 (i+1+a.sz) i c ch:=by
 obtain ⟨nx',ks',hs⟩:=h.two1
 rw [q2o,h.at,hs.at];rfl
theorem j2v (h:Sp R L M i t nx dp ks) (hc:c≤wd) (hw:wd≤100) (hL:L≤400) (hM:M≤3200):y6d R wd i (q2o R wd i c ch):=by
 have h1:=h.lo
 have h2:=h.hi
 have h3:=k5j t
 have hbd:=h.bd
 have hbl:=h.bl
 cases t with
 | leaf x=>
  have hn:=q1r h.wf.1
  rw [q4f h]
  rcases q4r h.wf.1 h.wf.2 with e | e | e | e | e
  ·rw [z6x e]
   have:=q3x (hn.2.2.2.2.1 e)
   exact ⟨by dsimp only;omega,h2,Nat.min_le_right _ _,by dsimp only;omega,by simp⟩
  all_goals first
   | (rw [q9n (by omega)];exact ⟨by dsimp only;omega,h2,Nat.min_le_right _ _,by dsimp only;omega,by simp⟩)
   | (rw [z6y (by omega)];exact ⟨by dsimp only;omega,h2,hc,by simp,by simp⟩)
 | one x a=>
  have hs:=h.one
  have hlt:=hs.lt
  have h78:=z1n h.wf.2.1
  rw [q5o h]
  by_cases h8:x.op=8∧ch=0
  ·rw [z6w h8.1 h8.2]
   have hlg:(Tr.lg (.one x a)).toNat≤8000:=by rw [Tr.lg,if_pos h8.1];exact y1h h.wf.2.2 (by simp only [Tr.lf] at hbl;omega)
   exact ⟨by dsimp only;omega,h2,Nat.min_le_right _ _,by dsimp only;omega,by simp⟩
  ·rw [q9m (by omega)]
   exact ⟨by simp,by dsimp only;omega,hc,by simp,by simp⟩
 | two x a b=>
  obtain ⟨nx',ks',hs⟩:=h.two1
  have hlt:=hs.lt
  have hlt2:=h.two2.lt
  have h69:=z0b h.wf.2.1
  rw [q7m h]
  by_cases h9:x.op=9∧ch=1
  ·rw [z0z h9.1 h9.2]
   exact ⟨by dsimp only;omega,by dsimp only;omega,hc,by simp,by simp⟩
  ·rw [q9m (by omega)]
   exact ⟨by simp,by dsimp only;omega,hc,by simp,by simp⟩
theorem y2p (o l:Nat) (u:List Int) (a:Crs):q4t o l u a=((o+a.1.1,l+a.1.2),u++a.2):=rfl
theorem k9w (h:Sp R L M i t nx dp ks) (hc:c≤wd) :
  vv R wd i c=(((crs R wd i c).o,(crs R wd i c).l),(if z0u t.root.op=true then [((crs R wd i c).ch:Int)] else [])++(vv R wd (crs R wd i c).np (crs R wd i c).nc).2)∧∃ ch,(ch=0∨ch=1)∧crs R wd i c=tkC R wd i c ch:=by
 have hp:=h.at
 have hk:=h.kont
 have hx:=h.kx
 refine ⟨?_,?_⟩
 ·cases t with
  | leaf x=>
   have hlg:(q1c R i).lg≠-1:=by rw [hp];simp [z5e,Tr.lg]
   have hop:(q1c R i).nd.op=x.op:=by rw [hp];rfl
   have hch:z0u x.op=false:=by rcases q4r h.wf.1 h.wf.2 with e | e | e | e | e<;>simp [z0u,e]
   rw [crs,if_neg hlg,hop,if_pos hch,tkC,k9z,Tr.root,hch]
   dsimp only
   have hv:vv R wd i c=q4t (q2o R wd i c 0).o (q2o R wd i c 0).l [] (vv R wd (q2o R wd i c 0).np (q2o R wd i c 0).nc):=by
    rw [q4f h,vv,hk]
    rcases q4r h.wf.1 h.wf.2 with e | e | e | e | e
    ·rw [z6x e,v5e h.wf.1 e hc]
     dsimp only
     rw [vv,hx]
    all_goals first
     | (rw [q9n (by omega),v5d (by omega)];dsimp only;rw [vv,hx])
     | (rw [z6y (by omega),v5f e];dsimp only;rw [vv,hx])
   rw [hv]
   rfl
  | one x a=>
   have h78:=z1n h.wf.2.1
   have hop:(q1c R i).nd.op=x.op:=by rw [hp];rfl
   have hs:=h.one
   have m1:q2o R wd i c 1=⟨i+1,c,0,0⟩:=by rw [q5o h,q9m (by omega)]
   rcases h78 with e | e
   ·have hlg:(q1c R i).lg≠-1:=by rw [hp];simp [z5e,Tr.lg,e]
    have hch:z0u x.op=false:=by simp [z0u,e]
    have m0:q2o R wd i c 0=⟨i+1,c,0,0⟩:=by rw [q5o h,q9m (by omega)]
    rw [crs,if_neg hlg,hop,if_pos hch,tkC,k9z,Tr.root,hch,m0]
    dsimp only
    rw [vv,hk,v5a e,vv,hs.kont]
    simp
   ·have hch:z0u x.op=true:=by simp [z0u,e]
    have hlg:(q1c R i).lg=lgF a.flat:=by rw [hp];simp [z5e,Tr.lg,e]
    have hn0:x.n.toNat=0:=by have:=q1r h.wf.1;omega
    have ek:kont R (i+1)=(dp,a)::ks:=by rw [hs.kont,hn0];rfl
    cases hf:a.flat with
    | none=>
     rw [hf] at hlg
     rw [crs,if_pos (show (q1c R i).lg = -1 from hlg),tkC,k9z,Tr.root,hch,m1]
     dsimp only
     rw [vv,hk,v5c (by omega) hf,y2p,vv,ek]
     simp
    | some s=>
     rw [hf] at hlg
     have hlg':(q1c R i).lg≠-1:=by rw [hlg,lgF];omega
     have m0:q2o R wd i c 0=⟨nx,min (c+s.length) wd,c+s.length - wd,0⟩:=by
      rw [q5o h,z6w e rfl,Tr.lg,if_pos e,hf]
      rfl
     rw [crs,if_neg hlg',hop,if_neg (by rw [hch];simp),Tr.root,hch]
     rw [vv,hk,j7p (by omega) h.wf.2.2 hf hc]
     have e0:tkC R wd i c 0=⟨(q4t (c+s.length - wd) 0 [0] (bs wd (min (c+s.length) wd) ks)).1.1,(q4t (c+s.length - wd) 0 [0] (bs wd (min (c+s.length) wd) ks)).1.2,0,nx,min (c+s.length) wd⟩:=by
      rw [tkC,k9z,m0];simp only [vv,hx,q4t]
     have e1:tkC R wd i c 1=⟨(q4t 0 0 [1] (bs wd c ((dp,a)::ks))).1.1,(q4t 0 0 [1] (bs wd c ((dp,a)::ks))).1.2,1,i+1,c⟩:=by
      rw [tkC,k9z,m1];simp only [vv,ek,q4t]
     rw [e0,e1]
     unfold k4z
     dsimp only
     split
     ·simp only [if_true,vv,ek,q4t];rfl
     ·simp only [if_true,vv,hx,q4t];rfl
  | two x a b=>
   have h69:=z0b h.wf.2.1
   have hop:(q1c R i).nd.op=x.op:=by rw [hp];rfl
   have hlg:(q1c R i).lg≠-1:=by rw [hp];simp [z5e,Tr.lg]
   have m0:q2o R wd i c 0=⟨i+1,c,0,0⟩:=by rw [q7m h,q9m (by omega)]
   rcases h69 with e | e
   ·have hch:z0u x.op=false:=by simp [z0u,e]
    rw [crs,if_neg hlg,hop,if_pos hch,tkC,k9z,Tr.root,hch,m0]
    dsimp only
    rw [vv,hk,v4z e,vv,(h.both1 e).kont]
    simp
   ·have hch:z0u x.op=true:=by simp [z0u,e]
    have hs:=h.either1 (by omega)
    have hs2:=h.two2
    have m1:q2o R wd i c 1=⟨i+1+a.sz,c,0,0⟩:=by rw [q7m h,z0z e rfl]
    rw [crs,if_neg hlg,hop,if_neg (by rw [hch];simp),Tr.root,hch]
    rw [vv,hk,k9f (by omega)]
    have e0:tkC R wd i c 0=⟨(q4t 0 0 [0] (bs wd c ((dp,a)::ks))).1.1,(q4t 0 0 [0] (bs wd c ((dp,a)::ks))).1.2,0,i+1,c⟩:=by
     rw [tkC,k9z,m0];simp only [vv,hs.kont,q4t]
    have e1:tkC R wd i c 1=⟨(q4t 0 0 [1] (bs wd c ((dp,b)::ks))).1.1,(q4t 0 0 [1] (bs wd c ((dp,b)::ks))).1.2,1,i+1+a.sz,c⟩:=by
     rw [tkC,k9z,m1];simp only [vv,hs2.kont,q4t]
    rw [e0,e1]
    unfold k4z
    dsimp only
    split
    ·simp only [if_true,vv,hs2.kont,q4t];rfl
    ·simp only [if_true,vv,hs.kont,q4t];rfl
 ·unfold crs
  split
  ·exact ⟨1,.inr rfl,rfl⟩
  ·split
   ·exact ⟨0,.inl rfl,rfl⟩
   ·split
    ·exact ⟨1,.inr rfl,rfl⟩
    ·exact ⟨0,.inl rfl,rfl⟩
end
end Go.Proofs.YtchdplceopegoaaGreatDoor
namespace Go.Proofs.YtchdplceopegoaaGreatDoor
open Go Go.RowKit Go.Maps
theorem j9t:laidOutB Tryz.prog=true:=by kernel_rfl
theorem y6l:(216:TypeId)<Tryz.prog.types.size:=of_decide_eq_true (by kernel_rfl)
theorem mkt:Tryz.prog.keyTypeAt 3 216=true:=by kernel_rfl
theorem v9p:Keyed Tryz.prog 216:=Keyed.of_law (deep_law_laid j9t (m:=3) (by omega) y6l mkt (by rw [Tryz.underlying216]))
theorem y5m:Tryz.prog.keyType 216=true:=by kernel_rfl
theorem v3h:Tryz.prog.cellsOf 216=2:=by kernel_rfl
theorem v7h:Tryz.prog.cellsOf 3=1:=by kernel_rfl
theorem y5l:∃ d,Tryz.prog.types.size=d+1:=⟨396 - 1,by kernel_rfl⟩
theorem y1t (w:World):(zeroValue 218).run Tryz.prog w = .ok (.agg #[.int .i64 0,.int .i64 0,.int .i64 0,.int .i64 0,.int .i64 0]) w:=by kernel_rfl
theorem y6i {n:Nat} (h:n≤1000000):(Lit.int .i64 (n:Int)).wf=true:=WalkArith.wf_i64 (by omega)
theorem y5k {p c:Nat} (hp:p≤1000000) (hc:c≤1000000):∃ kl,keyOf Tryz.prog 216 (.agg #[.int .i64 (p:Int),.int .i64 (c:Int)])=some kl:=by
 obtain ⟨d,hd⟩:=y5l
 have h1:=y6i hp
 have h2:=y6i hc
 have hf:(Value.agg #[.int .i64 (p:Int),.int .i64 (c:Int)]).formed Tryz.prog 216=true:=by
  simp [Value.formed,Tryz.underlying216,v3h]
 refine ⟨.string (keyBytes [.int .i64 p,.int .i64 c]),?_⟩
 unfold keyOf
 rw [Tryz.underlying216]
 simp only [y5m,hf,Bool.and_self,if_true,hd]
 simp [Program.keyLits,Tryz.underlying216,Tryz.underlying3,v3h,v7h,Value.cells,h1,h2]
def cvV (k:Cv):Value:=.agg #[.int .i64 k.o,.int .i64 k.l,.int .i64 k.ch,.int .i64 k.np,.int .i64 k.nc]
def zCv:Cv:=⟨0,0,0,0,0⟩
def cvR (v:Value):Option (DataW Value × List MemPlace):=some (.held v,[])
def y4b (S:Nat→Nat→Bool):Nat:=(List.range 40501).countP fun k=>S (k / 101) (k % 101)
theorem v5p (S:Nat→Nat→Bool):y4b S≤40501:=by
 have:=List.countP_le_length (p:=fun k=>S (k / 101) (k % 101)) (l:=List.range 40501)
 rw [List.length_range] at this
 exact this
def z7u (S:Nat→Nat→Bool) (p c:Nat):Nat→Nat→Bool:=fun p' c'=>S p' c' || (decide (p'=p) && decide (c'=c))
theorem z4m {f g:Nat→Bool} (k:Nat):∀ (l:List Nat),k∈l→(∀ x,f x=true→g x=true)→f k=false→g k=true→l.countP f+1≤l.countP g
 | [],h,_,_,_=>by simp at h
 | a::l,h,h1,h2,h3=>by
  have hm:l.countP f≤l.countP g:=List.countP_mono_left fun x _=>h1 x
  rw [List.countP_cons,List.countP_cons]
  by_cases e:a=k
  ·subst e
   rw [h2,h3]
   simp
   omega
  ·have h4:=z4m k l (by rcases List.mem_cons.1 h with h | h;exact absurd h.symm e;exact h) h1 h2 h3
   cases hf:f a with
   | true=>rw [h1 a hf];omega
   | false=>simp only [Bool.false_eq_true,if_false,Nat.add_zero];exact Nat.le_trans h4 (Nat.le_add_right _ _)
theorem j7z {S:Nat→Nat→Bool} {p c:Nat} (hp:p≤400) (hc:c≤100) (h:S p c=false):y4b S+1≤y4b (z7u S p c):=by
 have e1:(p*101+c) / 101=p:=by omega
 have e2:(p*101+c) % 101=c:=by omega
 refine z4m (p*101+c) _ (List.mem_range.2 (by omega)) (fun x hx=>?_) ?_ ?_
 ·simp only [z7u,hx,Bool.true_or]
 ·rw [e1,e2];exact h
 ·simp [z7u,e1,e2]
def Mem (w:World) (b:Nat) (C:Nat→Nat→Cv) (S:Nat→Nat→Bool):Prop:=
 ∃ D n,w.ownsMap Tryz.prog 216 cvR b n D∧n≤y4b S∧∀ p c:Nat,p≤400→c≤100→∀ kl,keyOf Tryz.prog 216 (.agg #[.int .i64 (p:Int),.int .i64 (c:Int)])=some kl→
  Maps.has D kl=S p c∧D.atKey kl (.held (cvV zCv)) = .held (cvV (if S p c=true then C p c else zCv))
section
variable {w w':World} {b:Nat} {C:Nat→Nat→Cv} {S:Nat→Nat→Bool} {p c:Nat}
theorem Mem.lt (h:Mem w b C S):b<w.heap.size:=by
 obtain ⟨D,n,h,_⟩:=h
 exact h.lt
theorem Mem.kept (h:Mem w b C S) (hb:w'.heap[b]? = w.heap[b]?):Mem w' b C S:=by
 obtain ⟨D,n,⟨es,clock,h1,h2⟩,h3⟩:=h
 exact ⟨D,n,⟨es,clock,hb.trans h1,h2⟩,h3⟩
theorem Mem.look (h:Mem w b C S) (hp:p≤400) (hc:c≤100):(Instr.lookup 212 (.map (some b)) (.agg #[.int .i64 (p:Int),.int .i64 (c:Int)]) false).run Tryz.prog w = .ok (cvV (if S p c=true then C p c else zCv)) w:=by
 obtain ⟨D,n,h,_,h2⟩:=h
 obtain ⟨kl,hk⟩:=y5k (p:=p) (c:=c) (by omega) (by omega)
 obtain ⟨v,ps,hrun,hv⟩:=h.lookup v9p Tryz.underlying212 (y1t w) (zd:=.held (cvV zCv)) (zp:=[]) rfl hk
 rw [(h2 p c hp hc kl hk).2] at hv
 simp only [cvR,Option.some.injEq,Prod.mk.injEq,DataW.held.injEq] at hv
 rw [hrun,hv.1]
theorem Mem.look_ok (h:Mem w b C S) (hp:p≤400) (hc:c≤100):(Instr.lookup 212 (.map (some b)) (.agg #[.int .i64 (p:Int),.int .i64 (c:Int)]) true).run Tryz.prog w = .ok (.tuple #[cvV (if S p c=true then C p c else zCv),.bool (S p c)]) w:=by
 obtain ⟨D,n,h,_,h2⟩:=h
 obtain ⟨kl,hk⟩:=y5k (p:=p) (c:=c) (by omega) (by omega)
 obtain ⟨v,ps,hrun,hv⟩:=h.look_ok v9p Tryz.underlying212 (y1t w) (zd:=.held (cvV zCv)) (zp:=[]) rfl hk
 rw [(h2 p c hp hc kl hk).2] at hv
 simp only [cvR,Option.some.injEq,Prod.mk.injEq,DataW.held.injEq] at hv
 rw [hrun,hv.1,(h2 p c hp hc kl hk).1]
theorem Mem.store (h:Mem w b C S) (hp:p≤400) (hc:c≤100) (hs:S p c=false) :
  ∃ w',(Instr.mapUpdate 212 (.map (some b)) (.agg #[.int .i64 (p:Int),.int .i64 (c:Int)]) (cvV (C p c))).run Tryz.prog w = .ok () w'∧Mem w' b C (z7u S p c)∧w.grownBy w' (some b):=by
 obtain ⟨D,n,h,hn,h2⟩:=h
 obtain ⟨kl,hk⟩:=y5k (p:=p) (c:=c) (by omega) (by omega)
 obtain ⟨w1,hrun,hown,hg⟩:=h.update v9p Tryz.underlying212 (by have:=v5p S;unfold maxLen;omega) hk (d:=.held (cvV (C p c))) (ps:=[]) (val:=cvV (C p c)) rfl
 refine ⟨w1,hrun,⟨_,_,hown,Nat.le_trans (Nat.add_le_add_right hn 1) (j7z hp hc hs),fun p' c' hp' hc' kl' hk'=>?_⟩,hg⟩
 by_cases e:p'=p∧c'=c
 ·obtain ⟨rfl,rfl⟩:=e
  have ek:kl'=kl:=by rw [hk] at hk';exact (Option.some.inj hk').symm
  subst ek
  have ea:z7u S p' c' p' c'=true:=by simp [z7u]
  rw [ea,if_pos rfl]
  exact ⟨has_put_same h.isMap (v9p.key hk) _,atKey_put_same h.isMap (v9p.key hk) _ _⟩
 ·have ne:kl'≠kl:=by
   intro ek
   subst ek
   have:=v9p.inj hk' hk
   simp at this
   omega
  have ea:z7u S p c p' c'=S p' c':=by
   simp only [z7u]
   by_cases e1:p'=p
   ·have e2:¬ c'=c:=fun e2=>e ⟨e1,e2⟩
    simp [e2]
   ·simp [e1]
  rw [ea,has_put_other ne,atKey_put_other ne]
  exact h2 p' c' hp' hc' kl' hk'
end
theorem Mem.made (w:World) (C:Nat→Nat→Cv):Mem (w.alloc (.map #[] 0)) w.heap.size C (fun _ _=>false):=
 ⟨.map [],0,World.ownsMap_made _ _ _ _,Nat.zero_le _,fun _ _ _ _ _ _=>⟨rfl,rfl⟩⟩
end Go.Proofs.YtchdplceopegoaaGreatDoor
