/- Texts as one: BstT, Mp0. -/
import Derived.Test.YtchdplceopegoaaGreatDoorPw06
import Derived.Maps.OwnSet
import Derived.DeepKeys4
namespace Go.Proofs.YtchdplceopegoaaGreatDoor
structure Pl where
 nd:Nd
 en:Nat
 nx:Nat
 dp:Nat
 lg:Int
 t:Tr
 ks:List (Nat × Tr)
def Tr.root:Tr→Nd
 | .leaf x=>x
 | .one x _=>x
 | .two x _ _=>x
def lgF:Option (List UInt8)→Int
 | none=>-1
 | some s=>(s.length:Int)
def Tr.lg:Tr→Int
 | .one x a=>if x.op=8 then lgF a.flat else 0
 | _=>0
def Tr.sz (t:Tr):Nat:=t.nodes.length
theorem j3b (x:Nd):(Tr.leaf x).sz=1:=rfl
theorem z9c (x:Nd) (a:Tr):(Tr.one x a).sz=1+a.sz:=by simp [Tr.sz,Tr.nodes];omega
theorem z2p (x:Nd) (a b:Tr):(Tr.two x a b).sz=1+a.sz+b.sz:=by simp [Tr.sz,Tr.nodes];omega
theorem k4a (t:Tr):0<t.sz:=t.pos
def z4d (t:Tr) (i nx dp:Nat) (ks:List (Nat × Tr)):Pl:=⟨t.root,i+t.sz,nx,dp,t.lg,t,ks⟩
def z8w:Tr→Nat→Nat→Nat→List (Nat × Tr)→List Pl
 | .leaf x,i,nx,dp,ks=>[z4d (.leaf x) i nx dp ks]
 | .one x a,i,nx,dp,ks=>z4d (.one x a) i nx dp ks::z8w a (i+1) nx (dp+x.n.toNat) ks
 | .two x a b,i,nx,dp,ks=>z4d (.two x a b) i nx dp ks::((if x.op=6 then z8w a (i+1) (i+1+a.sz) dp ((dp,b)::ks) else z8w a (i+1) nx dp ks)++z8w b (i+1+a.sz) nx dp ks)
theorem q8p:∀ (t:Tr) (i nx dp:Nat) (ks:List (Nat × Tr)),(z8w t i nx dp ks).length=t.sz
 | .leaf x,i,nx,dp,ks=>rfl
 | .one x a,i,nx,dp,ks=>by rw [z8w,List.length_cons,q8p a,z9c];omega
 | .two x a b,i,nx,dp,ks=>by
  rw [z8w,List.length_cons,List.length_append,q8p b,z2p]
  split<;>rw [q8p a]<;>omega
theorem j2d (t:Tr) (i nx dp:Nat) (ks:List (Nat × Tr)):∃ r,z8w t i nx dp ks=z4d t i nx dp ks::r:=by
 cases t<;>exact ⟨_,rfl⟩
theorem z0a:∀ (t:Tr) (i nx dp:Nat) (ks:List (Nat × Tr)),(z8w t i nx dp ks).map (·.nd)=t.nodes
 | .leaf x,i,nx,dp,ks=>rfl
 | .one x a,i,nx,dp,ks=>by rw [z8w,List.map_cons,z0a a];rfl
 | .two x a b,i,nx,dp,ks=>by
  rw [z8w,List.map_cons,List.map_append,z0a b]
  split<;>rw [z0a a]<;>rfl
def kont (R:List Pl) (i:Nat):List (Nat × Tr):=match R[i]? with | some r=>(r.dp,r.t)::r.ks | none=>[]
theorem k2w {R:List Pl} {i:Nat} (h:R.length≤i):kont R i=[]:=by rw [kont,List.getElem?_eq_none h]
structure Sp (R:List Pl) (L M:Nat) (i:Nat) (t:Tr) (nx dp:Nat) (ks:List (Nat × Tr)):Prop where
 pl:∃ post,R.drop i=z8w t i nx dp ks++post
 kx:kont R nx=ks
 lo:i+t.sz≤nx
 hi:nx≤R.length
 wf:t.Wf
 bl:t.lf+lfK ks≤L
 bd:dp+t.dsum≤M
 bk:KB M ks
section
variable {R:List Pl} {L M i nx dp:Nat} {ks:List (Nat × Tr)} {t a b:Tr} {x:Nd}
theorem q8e {l:List Pl} {i:Nat} {r:Pl} {q:List Pl} (h:l.drop i=r::q):l[i]? = some r∧l.drop (i+1)=q:=by
 have hi:i<l.length:=by
  rcases Nat.lt_or_ge i l.length with h' | h'
  ·exact h'
  ·rw [List.drop_eq_nil_of_le h'] at h;cases h
 rw [List.drop_eq_getElem_cons hi,List.cons.injEq] at h
 exact ⟨by rw [List.getElem?_eq_getElem hi,h.1],h.2⟩
theorem v2z {l p q:List Pl} {i:Nat} (h:l.drop i=p++q):l.drop (i+p.length)=q:=by rw [←List.drop_drop,h,List.drop_left]
theorem Sp.get (h:Sp R L M i t nx dp ks):R[i]? = some (z4d t i nx dp ks):=by
 obtain ⟨post,h⟩:=h.pl
 obtain ⟨r,e⟩:=j2d t i nx dp ks
 rw [e] at h
 exact (q8e h).1
theorem Sp.kont (h:Sp R L M i t nx dp ks):kont R i=(dp,t)::ks:=by rw [Proofs.YtchdplceopegoaaGreatDoor.kont,h.get];rfl
theorem Sp.lt (h:Sp R L M i t nx dp ks):i<R.length:=by have:=k4a t;have:=h.lo;have:=h.hi;omega
theorem Sp.one (h:Sp R L M i (.one x a) nx dp ks):Sp R L M (i+1) a nx (dp+x.n.toNat) ks where
 pl:=by
  obtain ⟨post,e⟩:=h.pl
  rw [z8w] at e
  exact ⟨post,(q8e e).2⟩
 kx:=h.kx
 lo:=by have:=h.lo;rw [z9c] at this;omega
 hi:=h.hi
 wf:=h.wf.2.2
 bl:=h.bl
 bd:=by
  have:=h.bd
  have h0:=q1r h.wf.1
  simp only [Tr.dsum] at this
  omega
 bk:=h.bk
theorem Sp.two2 (h:Sp R L M i (.two x a b) nx dp ks):Sp R L M (i+1+a.sz) b nx dp ks where
 pl:=by
  obtain ⟨post,e⟩:=h.pl
  rw [z8w] at e
  have e2:=(q8e (q:=_++post) e).2
  rw [List.append_assoc] at e2
  have e3:=v2z e2
  refine ⟨post,?_⟩
  rw [←e3]
  congr 1
  split<;>rw [q8p]
 kx:=h.kx
 lo:=by have:=h.lo;rw [z2p] at this;omega
 hi:=h.hi
 wf:=h.wf.2.2.2
 bl:=by have:=h.bl;simp only [Tr.lf] at this;omega
 bd:=by have:=h.bd;simp only [Tr.dsum] at this;omega
 bk:=h.bk
theorem Sp.both1 (h:Sp R L M i (.two x a b) nx dp ks) (h6:x.op=6):Sp R L M (i+1) a (i+1+a.sz) dp ((dp,b)::ks) where
 pl:=by
  obtain ⟨post,e⟩:=h.pl
  rw [z8w,if_pos h6,List.cons_append,List.append_assoc] at e
  exact ⟨_,(q8e e).2⟩
 kx:=h.two2.kont
 lo:=Nat.le_refl _
 hi:=by have:=h.lo;have:=h.hi;rw [z2p] at *;omega
 wf:=h.wf.2.2.1
 bl:=by have:=h.bl;simp only [Tr.lf,lfK] at this ⊢;omega
 bd:=by have:=h.bd;simp only [Tr.dsum] at this;omega
 bk:=by
  intro p hp
  rcases List.mem_cons.1 hp with rfl | hp
  ·exact ⟨by have:=h.bd;simp only [Tr.dsum] at this;dsimp only;omega,h.wf.2.2.2⟩
  ·exact h.bk p hp
theorem Sp.either1 (h:Sp R L M i (.two x a b) nx dp ks) (h6:x.op≠6):Sp R L M (i+1) a nx dp ks where
 pl:=by
  obtain ⟨post,e⟩:=h.pl
  rw [z8w,if_neg h6,List.cons_append,List.append_assoc] at e
  exact ⟨_,(q8e e).2⟩
 kx:=h.kx
 lo:=by have:=h.lo;rw [z2p] at this;omega
 hi:=h.hi
 wf:=h.wf.2.2.1
 bl:=by have:=h.bl;simp only [Tr.lf] at this ⊢;omega
 bd:=by have:=h.bd;simp only [Tr.dsum] at this;omega
 bk:=h.bk
theorem Sp.two1 (h:Sp R L M i (.two x a b) nx dp ks):∃ nx' ks',Sp R L M (i+1) a nx' dp ks':=by
 by_cases h6:x.op=6
 ·exact ⟨_,_,h.both1 h6⟩
 ·exact ⟨_,_,h.either1 h6⟩
end
theorem k3w {R:List Pl} {L M:Nat}:∀ (t:Tr) (i nx dp:Nat) (ks:List (Nat × Tr)),Sp R L M i t nx dp ks→∀ j,i≤j→j<i+t.sz→∃ t' nx' dp' ks',Sp R L M j t' nx' dp' ks'
 | .leaf x,i,nx,dp,ks,h,j,h1,h2=>by
  rw [j3b] at h2
  obtain rfl:j=i:=by omega
  exact ⟨_,_,_,_,h⟩
 | .one x a,i,nx,dp,ks,h,j,h1,h2=>by
  rw [z9c] at h2
  by_cases e:j=i
  ·subst e;exact ⟨_,_,_,_,h⟩
  ·exact k3w a _ _ _ _ h.one j (by omega) (by omega)
 | .two x a b,i,nx,dp,ks,h,j,h1,h2=>by
  rw [z2p] at h2
  by_cases e:j=i
  ·subst e;exact ⟨_,_,_,_,h⟩
  ·by_cases e2:j<i+1+a.sz
   ·obtain ⟨_,_,h'⟩:=h.two1
    exact k3w a _ _ _ _ h' j (by omega) (by omega)
   ·exact k3w b _ _ _ _ h.two2 j (by omega) (by omega)
def k6s (R:List Pl) (L M:Nat) (p j:Nat):Prop:=(∃ x a nx dp ks,Sp R L M p (.one x a) nx dp ks∧j=p+1)∨∃ x a b nx dp ks,Sp R L M p (.two x a b) nx dp ks∧(j=p+1∨j=p+1+a.sz)
theorem k3o {R:List Pl} {L M:Nat}:∀ (t:Tr) (i nx dp:Nat) (ks:List (Nat × Tr)),Sp R L M i t nx dp ks→∀ j,i<j→j<i+t.sz→∃ p,p<j∧k6s R L M p j
 | .leaf x,i,nx,dp,ks,h,j,h1,h2=>by rw [j3b] at h2;omega
 | .one x a,i,nx,dp,ks,h,j,h1,h2=>by
  rw [z9c] at h2
  by_cases e:j=i+1
  ·exact ⟨i,h1,.inl ⟨_,_,_,_,_,h,e⟩⟩
  ·exact k3o a _ _ _ _ h.one j (by omega) (by omega)
 | .two x a b,i,nx,dp,ks,h,j,h1,h2=>by
  rw [z2p] at h2
  by_cases e:j=i+1
  ·exact ⟨i,h1,.inr ⟨_,_,_,_,_,_,h,.inl e⟩⟩
  ·by_cases e3:j=i+1+a.sz
   ·exact ⟨i,h1,.inr ⟨_,_,_,_,_,_,h,.inr e3⟩⟩
   ·by_cases e2:j<i+1+a.sz
    ·obtain ⟨_,_,h'⟩:=h.two1
     exact k3o a _ _ _ _ h' j (by omega) (by omega)
    ·exact k3o b _ _ _ _ h.two2 j (by omega) (by omega)
def q0a (t:Tr):List Pl:=z8w t 0 t.sz 0 []
theorem q2b (t:Tr):(q0a t).length=t.sz:=q8p t _ _ _ _
theorem z6h {t:Tr} (h:t.Wf):Sp (q0a t) t.lf t.dsum 0 t t.sz 0 [] where
 pl:=⟨[],by simp [q0a]⟩
 kx:=k2w (Nat.le_of_eq (q2b t))
 lo:=by omega
 hi:=Nat.le_of_eq (q2b t).symm
 wf:=h
 bl:=by simp [lfK]
 bd:=by simp
 bk:=by intro p hp;simp at hp
theorem j2v {t:Tr} (h:t.Wf) {j:Nat} (hj:j<(q0a t).length):∃ t' nx dp ks,Sp (q0a t) t.lf t.dsum j t' nx dp ks:=
 k3w t 0 _ _ _ (z6h h) j (Nat.zero_le _) (by rw [q2b] at hj;omega)
theorem z8v {t:Tr} (h:t.Wf) {j:Nat} (h0:0<j) (hj:j<(q0a t).length):∃ p,p<j∧k6s (q0a t) t.lf t.dsum p j:=
 k3o t 0 _ _ _ (z6h h) j h0 (by rw [q2b] at hj;omega)
/-! ### Moves and courses -/
def vv (R:List Pl) (wd i c:Nat):Crs:=bs wd c (kont R i)
theorem v1m {R:List Pl} {wd i c:Nat} (h:R.length≤i):vv R wd i c=((0,0),[]):=by rw [vv,k2w h,v6w]
theorem y2c {R:List Pl} {wd L M i c nx dp:Nat} {ks:List (Nat × Tr)} {t:Tr} (h:Sp R L M i t nx dp ks) (hm:L*(21+M)≤400000):(vv R wd i c).1.1≤400000∧(vv R wd i c).1.2≤400000:=by
 have h1:=y1a wd c M (kont R i) (by rw [h.kont];intro p hp;rcases List.mem_cons.1 hp with rfl | hp;exact ⟨h.bd,h.wf⟩;exact h.bk p hp)
 have h2:lfK (kont R i)*(21+M)≤L*(21+M):=Nat.mul_le_mul_right _ (by rw [h.kont];exact h.bl)
 rw [vv]
 omega
structure Mv where
 np:Nat
 nc:Nat
 o:Nat
 l:Nat
def mvP (wd:Nat) (op:Int) (k nx dp lg e i c ch:Nat):Mv:=
 if op=1 then ⟨nx,min (c+k) wd,c+k - wd,0⟩
 else if op=2∨op=3∨op=4 then ⟨nx,min dp wd,dp - wd,1⟩
 else if op=5 then ⟨nx,c,0,0⟩
 else if op=8∧ch=0 then ⟨nx,min (c+lg) wd,c+lg - wd,0⟩
 else if op=9∧ch=1 then ⟨e,c,0,0⟩
 else ⟨i+1,c,0,0⟩
section
variable {wd k nx dp lg e i c ch:Nat} {op:Int}
theorem z5w (h:op=1):mvP wd op k nx dp lg e i c ch=⟨nx,min (c+k) wd,c+k - wd,0⟩:=by rw [mvP,if_pos h]
theorem q8n (h:op=2∨op=3∨op=4):mvP wd op k nx dp lg e i c ch=⟨nx,min dp wd,dp - wd,1⟩:=by rw [mvP,if_neg (by omega),if_pos h]
theorem z5x (h:op=5):mvP wd op k nx dp lg e i c ch=⟨nx,c,0,0⟩:=by rw [mvP,if_neg (by omega),if_neg (by omega),if_pos h]
theorem z5v (h:op=8) (h0:ch=0):mvP wd op k nx dp lg e i c ch=⟨nx,min (c+lg) wd,c+lg - wd,0⟩:=by rw [mvP,if_neg (by omega),if_neg (by omega),if_neg (by omega),if_pos ⟨h,h0⟩]
theorem q9y (h:op=9) (h0:ch=1):mvP wd op k nx dp lg e i c ch=⟨e,c,0,0⟩:=by rw [mvP,if_neg (by omega),if_neg (by omega),if_neg (by omega),if_neg (by omega),if_pos ⟨h,h0⟩]
theorem q8m (h:op=6∨op=7∨(op=8∧ch≠0)∨(op=9∧ch≠1)):mvP wd op k nx dp lg e i c ch=⟨i+1,c,0,0⟩:=by rw [mvP,if_neg (by omega),if_neg (by omega),if_neg (by omega),if_neg (by omega),if_neg (by omega)]
end
def mv (wd:Nat) (r:Pl) (e i c ch:Nat):Mv:=mvP wd r.nd.op r.nd.tx.size r.nx r.dp r.lg.toNat e i c ch
def q9u (op:Int):Bool:=decide (op=8) || decide (op=9)
structure Cv where
 o:Nat
 l:Nat
 ch:Nat
 np:Nat
 nc:Nat
def k8o (R:List Pl) (wd ch:Nat) (m:Mv):Cv:=⟨m.o+(vv R wd m.np m.nc).1.1,m.l+(vv R wd m.np m.nc).1.2,ch,m.np,m.nc⟩
def q1b (R:List Pl) (i:Nat):Pl:=R.getD i ⟨⟨0,⟨#[]⟩,0⟩,0,0,0,0,.leaf ⟨0,⟨#[]⟩,0⟩,[]⟩
theorem Sp.at {R:List Pl} {L M i nx dp:Nat} {ks:List (Nat × Tr)} {t:Tr} (h:Sp R L M i t nx dp ks):q1b R i=z4d t i nx dp ks:=by rw [q1b,List.getD,h.get];rfl
def q2l (R:List Pl) (wd i c ch:Nat):Mv:=mv wd (q1b R i) (q1b R (i+1)).en i c ch
def tkC (R:List Pl) (wd i c ch:Nat):Cv:=k8o R wd ch (q2l R wd i c ch)
def crs (R:List Pl) (wd i c:Nat):Cv:=
 if (q1b R i).lg = -1 then tkC R wd i c 1
 else if q9u (q1b R i).nd.op=false then tkC R wd i c 0
 else if q2x ((tkC R wd i c 1).o,(tkC R wd i c 1).l) ((tkC R wd i c 0).o,(tkC R wd i c 0).l) then tkC R wd i c 1 else tkC R wd i c 0
structure y2h (R:List Pl) (wd i:Nat) (m:Mv):Prop where
 lo:i<m.np
 hi:m.np≤R.length
 cl:m.nc≤wd
 bo:m.o≤20000
 bl:m.l≤1
section
variable {R:List Pl} {L M i nx dp wd c ch:Nat} {ks:List (Nat × Tr)} {t:Tr}
theorem v7t {a:Tr} (h:a.Wf) (hn:a.lf≤400):(lgF a.flat).toNat≤8000:=by
 cases hf:a.flat with
 | none=>simp [lgF]
 | some s=>have:=q7i a s h hf;simp [lgF];omega
theorem q3y {x:Nd} (h:Sp R L M i (.leaf x) nx dp ks):q2l R wd i c ch=mvP wd x.op x.tx.size nx dp 0 (q1b R (i+1)).en i c ch:=by rw [q2l,h.at];rfl
theorem q5g {x:Nd} {a:Tr} (h:Sp R L M i (.one x a) nx dp ks):q2l R wd i c ch=mvP wd x.op x.tx.size nx dp (Tr.lg (.one x a)).toNat (q1b R (i+1)).en i c ch:=by rw [q2l,h.at];rfl
theorem q6u {x:Nd} {a b:Tr} (h:Sp R L M i (.two x a b) nx dp ks):q2l R wd i c ch=mvP wd x.op x.tx.size nx dp 0 (i+1+a.sz) i c ch:=by
 obtain ⟨nx',ks',hs⟩:=h.two1
 rw [q2l,h.at,hs.at];rfl
theorem j1d (h:Sp R L M i t nx dp ks) (hc:c≤wd) (hw:wd≤100) (hL:L≤400) (hM:M≤3200):y2h R wd i (q2l R wd i c ch):=by
 have h1:=h.lo
 have h2:=h.hi
 have h3:=k4a t
 have hbd:=h.bd
 have hbl:=h.bl
 cases t with
 | leaf x=>
  have hn:=q1r h.wf.1
  rw [q3y h]
  rcases q4i h.wf.1 h.wf.2 with e | e | e | e | e
  ·rw [z5w e]
   have:=q3r (hn.2.2.2.2.1 e)
   exact ⟨by dsimp only;omega,h2,Nat.min_le_right _ _,by dsimp only;omega,by simp⟩
  all_goals first
   | (rw [q8n (by omega)];exact ⟨by dsimp only;omega,h2,Nat.min_le_right _ _,by dsimp only;omega,by simp⟩)
   | (rw [z5x (by omega)];exact ⟨by dsimp only;omega,h2,hc,by simp,by simp⟩)
 | one x a=>
  have hs:=h.one
  have hlt:=hs.lt
  have h78:=z0m h.wf.2.1
  rw [q5g h]
  by_cases h8:x.op=8∧ch=0
  ·rw [z5v h8.1 h8.2]
   have hlg:(Tr.lg (.one x a)).toNat≤8000:=by rw [Tr.lg,if_pos h8.1];exact v7t h.wf.2.2 (by simp only [Tr.lf] at hbl;omega)
   exact ⟨by dsimp only;omega,h2,Nat.min_le_right _ _,by dsimp only;omega,by simp⟩
  ·rw [q8m (by omega)]
   exact ⟨by simp,by dsimp only;omega,hc,by simp,by simp⟩
 | two x a b=>
  obtain ⟨nx',ks',hs⟩:=h.two1
  have hlt:=hs.lt
  have hlt2:=h.two2.lt
  have h69:=q9a h.wf.2.1
  rw [q6u h]
  by_cases h9:x.op=9∧ch=1
  ·rw [q9y h9.1 h9.2]
   exact ⟨by dsimp only;omega,by dsimp only;omega,hc,by simp,by simp⟩
  ·rw [q8m (by omega)]
   exact ⟨by simp,by dsimp only;omega,hc,by simp,by simp⟩
theorem v8y (o l:Nat) (u:List Int) (a:Crs):q4k o l u a=((o+a.1.1,l+a.1.2),u++a.2):=rfl
theorem k8l (h:Sp R L M i t nx dp ks) (hc:c≤wd) :
  vv R wd i c=(((crs R wd i c).o,(crs R wd i c).l),(if q9u t.root.op=true then [((crs R wd i c).ch:Int)] else [])++(vv R wd (crs R wd i c).np (crs R wd i c).nc).2)∧∃ ch,(ch=0∨ch=1)∧crs R wd i c=tkC R wd i c ch:=by
 have hp:=h.at
 have hk:=h.kont
 have hx:=h.kx
 refine ⟨?_,?_⟩
 ·cases t with
  | leaf x=>
   have hlg:(q1b R i).lg≠-1:=by rw [hp];simp [z4d,Tr.lg]
   have hop:(q1b R i).nd.op=x.op:=by rw [hp];rfl
   have hch:q9u x.op=false:=by rcases q4i h.wf.1 h.wf.2 with e | e | e | e | e<;>simp [q9u,e]
   rw [crs,if_neg hlg,hop,if_pos hch,tkC,k8o,Tr.root,hch]
   dsimp only
   have hv:vv R wd i c=q4k (q2l R wd i c 0).o (q2l R wd i c 0).l [] (vv R wd (q2l R wd i c 0).np (q2l R wd i c 0).nc):=by
    rw [q3y h,vv,hk]
    rcases q4i h.wf.1 h.wf.2 with e | e | e | e | e
    ·rw [z5w e,v2i h.wf.1 e hc]
     dsimp only
     rw [vv,hx]
    all_goals first
     | (rw [q8n (by omega),v2h (by omega)];dsimp only;rw [vv,hx])
     | (rw [z5x (by omega),v2j e];dsimp only;rw [vv,hx])
   rw [hv]
   rfl
  | one x a=>
   have h78:=z0m h.wf.2.1
   have hop:(q1b R i).nd.op=x.op:=by rw [hp];rfl
   have hs:=h.one
   have m1:q2l R wd i c 1=⟨i+1,c,0,0⟩:=by rw [q5g h,q8m (by omega)]
   rcases h78 with e | e
   ·have hlg:(q1b R i).lg≠-1:=by rw [hp];simp [z4d,Tr.lg,e]
    have hch:q9u x.op=false:=by simp [q9u,e]
    have m0:q2l R wd i c 0=⟨i+1,c,0,0⟩:=by rw [q5g h,q8m (by omega)]
    rw [crs,if_neg hlg,hop,if_pos hch,tkC,k8o,Tr.root,hch,m0]
    dsimp only
    rw [vv,hk,v2f e,vv,hs.kont]
    simp
   ·have hch:q9u x.op=true:=by simp [q9u,e]
    have hlg:(q1b R i).lg=lgF a.flat:=by rw [hp];simp [z4d,Tr.lg,e]
    have hn0:x.n.toNat=0:=by have:=q1r h.wf.1;omega
    have ek:kont R (i+1)=(dp,a)::ks:=by rw [hs.kont,hn0];rfl
    cases hf:a.flat with
    | none=>
     rw [hf] at hlg
     rw [crs,if_pos (show (q1b R i).lg = -1 from hlg),tkC,k8o,Tr.root,hch,m1]
     dsimp only
     rw [vv,hk,v2g (by omega) hf,v8y,vv,ek]
     simp
    | some s=>
     rw [hf] at hlg
     have hlg':(q1b R i).lg≠-1:=by rw [hlg,lgF];omega
     have m0:q2l R wd i c 0=⟨nx,min (c+s.length) wd,c+s.length - wd,0⟩:=by
      rw [q5g h,z5v e rfl,Tr.lg,if_pos e,hf]
      rfl
     rw [crs,if_neg hlg',hop,if_neg (by rw [hch];simp),Tr.root,hch]
     rw [vv,hk,j5n (by omega) h.wf.2.2 hf hc]
     have e0:tkC R wd i c 0=⟨(q4k (c+s.length - wd) 0 [0] (bs wd (min (c+s.length) wd) ks)).1.1,(q4k (c+s.length - wd) 0 [0] (bs wd (min (c+s.length) wd) ks)).1.2,0,nx,min (c+s.length) wd⟩:=by
      rw [tkC,k8o,m0];simp only [vv,hx,q4k]
     have e1:tkC R wd i c 1=⟨(q4k 0 0 [1] (bs wd c ((dp,a)::ks))).1.1,(q4k 0 0 [1] (bs wd c ((dp,a)::ks))).1.2,1,i+1,c⟩:=by
      rw [tkC,k8o,m1];simp only [vv,ek,q4k]
     rw [e0,e1]
     unfold k3s
     dsimp only
     split
     ·simp only [if_true,vv,ek,q4k];rfl
     ·simp only [if_true,vv,hx,q4k];rfl
  | two x a b=>
   have h69:=q9a h.wf.2.1
   have hop:(q1b R i).nd.op=x.op:=by rw [hp];rfl
   have hlg:(q1b R i).lg≠-1:=by rw [hp];simp [z4d,Tr.lg]
   have m0:q2l R wd i c 0=⟨i+1,c,0,0⟩:=by rw [q6u h,q8m (by omega)]
   rcases h69 with e | e
   ·have hch:q9u x.op=false:=by simp [q9u,e]
    rw [crs,if_neg hlg,hop,if_pos hch,tkC,k8o,Tr.root,hch,m0]
    dsimp only
    rw [vv,hk,v2e e,vv,(h.both1 e).kont]
    simp
   ·have hch:q9u x.op=true:=by simp [q9u,e]
    have hs:=h.either1 (by omega)
    have hs2:=h.two2
    have m1:q2l R wd i c 1=⟨i+1+a.sz,c,0,0⟩:=by rw [q6u h,q9y e rfl]
    rw [crs,if_neg hlg,hop,if_neg (by rw [hch];simp),Tr.root,hch]
    rw [vv,hk,k7w (by omega)]
    have e0:tkC R wd i c 0=⟨(q4k 0 0 [0] (bs wd c ((dp,a)::ks))).1.1,(q4k 0 0 [0] (bs wd c ((dp,a)::ks))).1.2,0,i+1,c⟩:=by
     rw [tkC,k8o,m0];simp only [vv,hs.kont,q4k]
    have e1:tkC R wd i c 1=⟨(q4k 0 0 [1] (bs wd c ((dp,b)::ks))).1.1,(q4k 0 0 [1] (bs wd c ((dp,b)::ks))).1.2,1,i+1+a.sz,c⟩:=by
     rw [tkC,k8o,m1];simp only [vv,hs2.kont,q4k]
    rw [e0,e1]
    unfold k3s
    dsimp only
    split
    ·simp only [if_true,vv,hs2.kont,q4k];rfl
    ·simp only [if_true,vv,hs.kont,q4k];rfl
 ·unfold crs
  split
  ·exact ⟨1,.inr rfl,rfl⟩
  ·split
   ·exact ⟨0,.inl rfl,rfl⟩
   ·split
    ·exact ⟨1,.inr rfl,rfl⟩
    ·exact ⟨0,.inl rfl,rfl⟩
end
end Go.Proofs.YtchdplceopegoaaGreatDoor
namespace Go.Proofs.YtchdplceopegoaaGreatDoor
open Go Go.RowKit Go.Maps
theorem j7h:laidOutB Tryz.prog=true:=by kernel_rfl
theorem y2q:(216:TypeId)<Tryz.prog.types.size:=of_decide_eq_true (by kernel_rfl)
theorem mkt:Tryz.prog.keyTypeAt 3 216=true:=by kernel_rfl
theorem v6i:Keyed Tryz.prog 216:=Keyed.of_law (deep_law_laid j7h (m:=3) (by omega) y2q mkt (by rw [Tryz.underlying216]))
theorem y1q:Tryz.prog.keyType 216=true:=by kernel_rfl
theorem v0q:Tryz.prog.cellsOf 216=2:=by kernel_rfl
theorem v4g:Tryz.prog.cellsOf 3=1:=by kernel_rfl
theorem y1p:∃ d,Tryz.prog.types.size=d+1:=⟨396 - 1,by kernel_rfl⟩
theorem v8e (w:World):(zeroValue 218).run Tryz.prog w = .ok (.agg #[.int .i64 0,.int .i64 0,.int .i64 0,.int .i64 0,.int .i64 0]) w:=by kernel_rfl
theorem y2n {n:Nat} (h:n≤1000000):(Lit.int .i64 (n:Int)).wf=true:=WalkArith.wf_i64 (by omega)
theorem y1o {p c:Nat} (hp:p≤1000000) (hc:c≤1000000):∃ kl,keyOf Tryz.prog 216 (.agg #[.int .i64 (p:Int),.int .i64 (c:Int)])=some kl:=by
 obtain ⟨d,hd⟩:=y1p
 have h1:=y2n hp
 have h2:=y2n hc
 have hf:(Value.agg #[.int .i64 (p:Int),.int .i64 (c:Int)]).formed Tryz.prog 216=true:=by
  simp [Value.formed,Tryz.underlying216,v0q]
 refine ⟨.string (keyBytes [.int .i64 p,.int .i64 c]),?_⟩
 unfold keyOf
 rw [Tryz.underlying216]
 simp only [y1q,hf,Bool.and_self,if_true,hd]
 simp [Program.keyLits,Tryz.underlying216,Tryz.underlying3,v0q,v4g,Value.cells,h1,h2]
def cvV (k:Cv):Value:=.agg #[.int .i64 k.o,.int .i64 k.l,.int .i64 k.ch,.int .i64 k.np,.int .i64 k.nc]
def zCv:Cv:=⟨0,0,0,0,0⟩
def cvR (v:Value):Option (DataW Value × List MemPlace):=some (.held v,[])
def y0i (S:Nat→Nat→Bool):Nat:=(List.range 40501).countP fun k=>S (k / 101) (k % 101)
theorem v2r (S:Nat→Nat→Bool):y0i S≤40501:=by
 have:=List.countP_le_length (p:=fun k=>S (k / 101) (k % 101)) (l:=List.range 40501)
 rw [List.length_range] at this
 exact this
def z6u (S:Nat→Nat→Bool) (p c:Nat):Nat→Nat→Bool:=fun p' c'=>S p' c' || (decide (p'=p) && decide (c'=c))
theorem z3n {f g:Nat→Bool} (k:Nat):∀ (l:List Nat),k∈l→(∀ x,f x=true→g x=true)→f k=false→g k=true→l.countP f+1≤l.countP g
 | [],h,_,_,_=>by simp at h
 | a::l,h,h1,h2,h3=>by
  have hm:l.countP f≤l.countP g:=List.countP_mono_left fun x _=>h1 x
  rw [List.countP_cons,List.countP_cons]
  by_cases e:a=k
  ·subst e
   rw [h2,h3]
   simp
   omega
  ·have h4:=z3n k l (by rcases List.mem_cons.1 h with h | h;exact absurd h.symm e;exact h) h1 h2 h3
   cases hf:f a with
   | true=>rw [h1 a hf];omega
   | false=>simp only [Bool.false_eq_true,if_false,Nat.add_zero];exact Nat.le_trans h4 (Nat.le_add_right _ _)
theorem j5w {S:Nat→Nat→Bool} {p c:Nat} (hp:p≤400) (hc:c≤100) (h:S p c=false):y0i S+1≤y0i (z6u S p c):=by
 have e1:(p*101+c) / 101=p:=by omega
 have e2:(p*101+c) % 101=c:=by omega
 refine z3n (p*101+c) _ (List.mem_range.2 (by omega)) (fun x hx=>?_) ?_ ?_
 ·simp only [z6u,hx,Bool.true_or]
 ·rw [e1,e2];exact h
 ·simp [z6u,e1,e2]
def Mem (w:World) (b:Nat) (C:Nat→Nat→Cv) (S:Nat→Nat→Bool):Prop:=
 ∃ D n,w.ownsMap Tryz.prog 216 cvR b n D∧n≤y0i S∧∀ p c:Nat,p≤400→c≤100→∀ kl,keyOf Tryz.prog 216 (.agg #[.int .i64 (p:Int),.int .i64 (c:Int)])=some kl→
  Maps.has D kl=S p c∧D.atKey kl (.held (cvV zCv)) = .held (cvV (if S p c=true then C p c else zCv))
section
variable {w w':World} {b:Nat} {C:Nat→Nat→Cv} {S:Nat→Nat→Bool} {p c:Nat}
theorem Mem.lt (h:Mem w b C S):b<w.heap.size:=by
 obtain ⟨D,n,h,_⟩:=h
 exact h.lt
theorem Mem.kept (h:Mem w b C S) (hb:w'.heap[b]? = w.heap[b]?):Mem w' b C S:=by
 obtain ⟨D,n,⟨es,clock,h1,h2⟩,h3⟩:=h
 exact ⟨D,n,⟨es,clock,hb.trans h1,h2⟩,h3⟩
theorem Mem.look (h:Mem w b C S) (hp:p≤400) (hc:c≤100):(Instr.lookup 212 (.map (some b)) (.agg #[.int .i64 (p:Int),.int .i64 (c:Int)]) false).run Tryz.prog w = .ok (cvV (if S p c=true then C p c else zCv)) w:=by
 obtain ⟨D,n,h,_,h2⟩:=h
 obtain ⟨kl,hk⟩:=y1o (p:=p) (c:=c) (by omega) (by omega)
 obtain ⟨v,ps,hrun,hv⟩:=h.lookup v6i Tryz.underlying212 (v8e w) (zd:=.held (cvV zCv)) (zp:=[]) rfl hk
 rw [(h2 p c hp hc kl hk).2] at hv
 simp only [cvR,Option.some.injEq,Prod.mk.injEq,DataW.held.injEq] at hv
 rw [hrun,hv.1]
theorem Mem.look_ok (h:Mem w b C S) (hp:p≤400) (hc:c≤100):(Instr.lookup 212 (.map (some b)) (.agg #[.int .i64 (p:Int),.int .i64 (c:Int)]) true).run Tryz.prog w = .ok (.tuple #[cvV (if S p c=true then C p c else zCv),.bool (S p c)]) w:=by
 obtain ⟨D,n,h,_,h2⟩:=h
 obtain ⟨kl,hk⟩:=y1o (p:=p) (c:=c) (by omega) (by omega)
 obtain ⟨v,ps,hrun,hv⟩:=h.look_ok v6i Tryz.underlying212 (v8e w) (zd:=.held (cvV zCv)) (zp:=[]) rfl hk
 rw [(h2 p c hp hc kl hk).2] at hv
 simp only [cvR,Option.some.injEq,Prod.mk.injEq,DataW.held.injEq] at hv
 rw [hrun,hv.1,(h2 p c hp hc kl hk).1]
theorem Mem.store (h:Mem w b C S) (hp:p≤400) (hc:c≤100) (hs:S p c=false) :
  ∃ w',(Instr.mapUpdate 212 (.map (some b)) (.agg #[.int .i64 (p:Int),.int .i64 (c:Int)]) (cvV (C p c))).run Tryz.prog w = .ok () w'∧Mem w' b C (z6u S p c)∧w.grownBy w' (some b):=by
 obtain ⟨D,n,h,hn,h2⟩:=h
 obtain ⟨kl,hk⟩:=y1o (p:=p) (c:=c) (by omega) (by omega)
 obtain ⟨w1,hrun,hown,hg⟩:=h.update v6i Tryz.underlying212 (by have:=v2r S;unfold maxLen;omega) hk (d:=.held (cvV (C p c))) (ps:=[]) (val:=cvV (C p c)) rfl
 refine ⟨w1,hrun,⟨_,_,hown,Nat.le_trans (Nat.add_le_add_right hn 1) (j5w hp hc hs),fun p' c' hp' hc' kl' hk'=>?_⟩,hg⟩
 by_cases e:p'=p∧c'=c
 ·obtain ⟨rfl,rfl⟩:=e
  have ek:kl'=kl:=by rw [hk] at hk';exact (Option.some.inj hk').symm
  subst ek
  have ea:z6u S p' c' p' c'=true:=by simp [z6u]
  rw [ea,if_pos rfl]
  exact ⟨has_put_same h.isMap (v6i.key hk) _,atKey_put_same h.isMap (v6i.key hk) _ _⟩
 ·have ne:kl'≠kl:=by
   intro ek
   subst ek
   have:=v6i.inj hk' hk
   simp at this
   omega
  have ea:z6u S p c p' c'=S p' c':=by
   simp only [z6u]
   by_cases e1:p'=p
   ·have e2:¬ c'=c:=fun e2=>e ⟨e1,e2⟩
    simp [e2]
   ·simp [e1]
  rw [ea,has_put_other ne,atKey_put_other ne]
  exact h2 p' c' hp' hc' kl' hk'
end
theorem Mem.made (w:World) (C:Nat→Nat→Cv):Mem (w.alloc (.map #[] 0)) w.heap.size C (fun _ _=>false):=
 ⟨.map [],0,World.ownsMap_made _ _ _ _,Nat.zero_le _,fun _ _ _ _ _ _=>⟨rfl,rfl⟩⟩
end Go.Proofs.YtchdplceopegoaaGreatDoor
