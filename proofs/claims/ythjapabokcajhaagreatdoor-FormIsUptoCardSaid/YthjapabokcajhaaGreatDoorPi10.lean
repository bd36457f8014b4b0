/- Texts as one: BstT, NodS, Pm0, Pm1, Chk. -/
import Derived.Test.YthjapabokcajhaaGreatDoorPi07
import Derived.Deep.RegionHeld3
import Derived.Deep.DeepCutAuto
import Derived.BigRegion
open Go.Proofs.Tryz
namespace Go.Proofs.YthjapabokcajhaaGreatDoor
structure Pl where
 nd:Nd
 en:Nat
 nx:Nat
 dp:Nat
 lg:Int
 t:Tr
 ks:List (Nat × Tr)
def Tr.root:Tr->Nd
 | .leaf x=>x
 | .one x _=>x
 | .two x _ _=>x
def lgF:Option (List UInt8)->Int
 | none=>-1
 | some s=>(s.length:Int)
def Tr.lg:Tr->Int
 | .one x a=>if x.op=8 then lgF a.flat else 0
 | _=>0
def Tr.sz(t:Tr):Nat:=t.nodes.length
theorem j8w(x:Nd):(Tr.leaf x).sz=1:=rfl
theorem k2l(x:Nd)(a:Tr):(Tr.one x a).sz=1+a.sz:=by simp[Tr.sz,Tr.nodes];omega
theorem z4z(x:Nd)(a b:Tr):(Tr.two x a b).sz=1+a.sz+b.sz:=by simp[Tr.sz,Tr.nodes];omega
theorem k7p(t:Tr):0<t.sz:=t.pos
def z6z(t:Tr)(i nx dp:Nat)(ks:List (Nat × Tr)):Pl:=⟨t.root,i+t.sz,nx,dp,t.lg,t,ks⟩
def k2d:Tr->Nat->Nat->Nat->List (Nat × Tr)->List Pl
 | .leaf x,i,nx,dp,ks=>[z6z (.leaf x) i nx dp ks]
 | .one x a,i,nx,dp,ks=>z6z (.one x a) i nx dp ks::k2d a (i+1) nx (dp+x.n.toNat) ks
 | .two x a b,i,nx,dp,ks=>z6z (.two x a b) i nx dp ks::((if x.op=6 then k2d a (i+1) (i+1+a.sz) dp ((dp,b)::ks)else k2d a (i+1) nx dp ks)++k2d b (i+1+a.sz) nx dp ks)
theorem z0o:∀(t:Tr)(i nx dp:Nat)(ks:List (Nat × Tr)),(k2d t i nx dp ks).length=t.sz
 | .leaf x,i,nx,dp,ks=>rfl
 | .one x a,i,nx,dp,ks=>by rw[k2d,List.length_cons,z0o a,k2l];omega
 | .two x a b,i,nx,dp,ks=>by
  rw[k2d,List.length_cons,List.length_append,z0o b,z4z]
  split<;>rw[z0o a]<;>omega
theorem j8b(t:Tr)(i nx dp:Nat)(ks:List (Nat × Tr)):∃r,k2d t i nx dp ks=z6z t i nx dp ks::r:=by
 cases t<;>exact⟨_,rfl⟩
theorem z2d:∀(t:Tr)(i nx dp:Nat)(ks:List (Nat × Tr)),(k2d t i nx dp ks).map (·.nd)=t.nodes
 | .leaf x,i,nx,dp,ks=>rfl
 | .one x a,i,nx,dp,ks=>by rw[k2d,List.map_cons,z2d a];rfl
 | .two x a b,i,nx,dp,ks=>by
  rw[k2d,List.map_cons,List.map_append,z2d b]
  split<;>rw[z2d a]<;>rfl
def kont(R:List Pl)(i:Nat):List (Nat × Tr):=match R[i]? with|some r=>(r.dp,r.t)::r.ks|none=>[]
theorem k6k{R:List Pl}{i:Nat}(h:R.length<=i):kont R i=[]:=by rw[kont,List.getElem?_eq_none h]
structure Sp(R:List Pl)(L M:Nat)(i:Nat)(t:Tr)(nx dp:Nat)(ks:List (Nat × Tr)):Prop where
 pl:∃post,R.drop i=k2d t i nx dp ks++post
 kx:kont R nx=ks
 lo:i+t.sz<=nx
 hi:nx<=R.length
 wf:t.Wf
 bl:t.lf+lfK ks<=L
 bd:dp+t.dsum<=M
 bk:KB M ks
section
variable {R:List Pl} {L M i nx dp:Nat} {ks:List (Nat × Tr)} {t a b:Tr} {x:Nd}
theorem z0e{l:List Pl}{i:Nat}{r:Pl}{q:List Pl}(h:l.drop i=r::q):l[i]?=some r/\l.drop (i+1)=q:=by
 have hi:i<l.length:=by
  rcases Nat.lt_or_ge i l.length with h'|h'
  ·exact h'
  ·rw[List.drop_eq_nil_of_le h']at h;cases h
 rw[List.drop_eq_getElem_cons hi,List.cons.injEq]at h;exact⟨by rw[List.getElem?_eq_getElem hi,h.1],h.2⟩
theorem v9p{l p q:List Pl}{i:Nat}(h:l.drop i=p++q):l.drop (i+p.length)=q:=by rw[<-List.drop_drop,h,List.drop_left]
theorem Sp.get(h:Sp R L M i t nx dp ks):R[i]?=some (z6z t i nx dp ks):=by
 obtain⟨post,h⟩:=h.pl;obtain⟨r,e⟩:=j8b t i nx dp ks;rw[e]at h;exact(z0e h).1
theorem Sp.kont(h:Sp R L M i t nx dp ks):kont R i=(dp,t)::ks:=by rw[Proofs.YthjapabokcajhaaGreatDoor.kont,h.get];rfl
theorem Sp.lt(h:Sp R L M i t nx dp ks):i<R.length:=by have:=k7p t;have:=h.lo;have:=h.hi;omega
theorem Sp.one(h:Sp R L M i (.one x a) nx dp ks):Sp R L M (i+1) a nx (dp+x.n.toNat) ks where
 pl:=by
  obtain⟨post,e⟩:=h.pl;rw[k2d]at e;exact⟨post,(z0e e).2⟩
 kx:=h.kx
 lo:=by have:=h.lo;rw[k2l]at this;omega
 hi:=h.hi
 wf:=h.wf.2.2
 bl:=h.bl
 bd:=by
  have:=h.bd
  have h0:=q1x h.wf.1;simp only[Tr.dsum]at this;omega
 bk:=h.bk
theorem Sp.two2(h:Sp R L M i (.two x a b) nx dp ks):Sp R L M (i+1+a.sz) b nx dp ks where
 pl:=by
  obtain⟨post,e⟩:=h.pl;rw[k2d]at e;have e2:=(z0e (q:=_++post) e).2;rw[List.append_assoc]at e2;have e3:=v9p e2;refine⟨post,?_⟩;rw[<-e3]
  congr 1
  split<;>rw[z0o]
 kx:=h.kx
 lo:=by have:=h.lo;rw[z4z]at this;omega
 hi:=h.hi
 wf:=h.wf.2.2.2
 bl:=by have:=h.bl;simp only[Tr.lf]at this;omega
 bd:=by have:=h.bd;simp only[Tr.dsum]at this;omega
 bk:=h.bk
theorem Sp.both1(h:Sp R L M i (.two x a b) nx dp ks)(h6:x.op=6):Sp R L M (i+1) a (i+1+a.sz) dp ((dp,b)::ks) where
 pl:=by
  obtain⟨post,e⟩:=h.pl;rw[k2d,if_pos h6,List.cons_append,List.append_assoc]at e;exact⟨_,(z0e e).2⟩
 kx:=h.two2.kont
 lo:=Nat.le_refl _
 hi:=by have:=h.lo;have:=h.hi;rw[z4z]at *;omega
 wf:=h.wf.2.2.1
 bl:=by have:=h.bl;simp only[Tr.lf,lfK]at this⊢;omega
 bd:=by have:=h.bd;simp only[Tr.dsum]at this;omega
 bk:=by
  intro p hp;rcases List.mem_cons.1 hp with rfl|hp
  ·exact⟨by have:=h.bd;simp only[Tr.dsum]at this;dsimp only;omega,h.wf.2.2.2⟩
  ·exact h.bk p hp
theorem Sp.either1(h:Sp R L M i (.two x a b) nx dp ks)(h6:x.op≠6):Sp R L M (i+1) a nx dp ks where
 pl:=by
  obtain⟨post,e⟩:=h.pl;rw[k2d,if_neg h6,List.cons_append,List.append_assoc]at e;exact⟨_,(z0e e).2⟩
 kx:=h.kx
 lo:=by have:=h.lo;rw[z4z]at this;omega
 hi:=h.hi
 wf:=h.wf.2.2.1
 bl:=by have:=h.bl;simp only[Tr.lf]at this⊢;omega
 bd:=by have:=h.bd;simp only[Tr.dsum]at this;omega
 bk:=h.bk
theorem Sp.two1(h:Sp R L M i (.two x a b) nx dp ks):∃nx' ks',Sp R L M (i+1) a nx' dp ks':=by
 by_cases h6:x.op=6
 ·exact⟨_,_,h.both1 h6⟩
 ·exact⟨_,_,h.either1 h6⟩
end
theorem k7l{R:List Pl}{L M:Nat}:∀(t:Tr)(i nx dp:Nat)(ks:List (Nat × Tr)),Sp R L M i t nx dp ks->∀j,i<=j->j<i+t.sz->∃t' nx' dp' ks',Sp R L M j t' nx' dp' ks'
 | .leaf x,i,nx,dp,ks,h,j,h1,h2=>by
  rw[j8w]at h2;obtain rfl:j=i:=by omega
  exact⟨_,_,_,_,h⟩
 | .one x a,i,nx,dp,ks,h,j,h1,h2=>by
  rw[k2l]at h2;by_cases e:j=i
  ·subst e;exact⟨_,_,_,_,h⟩
  ·exact k7l a _ _ _ _ h.one j (by omega) (by omega)
 | .two x a b,i,nx,dp,ks,h,j,h1,h2=>by
  rw[z4z]at h2;by_cases e:j=i
  ·subst e;exact⟨_,_,_,_,h⟩
  ·by_cases e2:j<i+1+a.sz
   ·obtain⟨_,_,h'⟩:=h.two1;exact k7l a _ _ _ _ h' j (by omega) (by omega)
   ·exact k7l b _ _ _ _ h.two2 j (by omega) (by omega)
def j0x(R:List Pl)(L M:Nat)(p j:Nat):Prop:=(∃x a nx dp ks,Sp R L M p (.one x a) nx dp ks/\j=p+1)\/∃x a b nx dp ks,Sp R L M p (.two x a b) nx dp ks/\(j=p+1\/j=p+1+a.sz)
theorem k7i{R:List Pl}{L M:Nat}:∀(t:Tr)(i nx dp:Nat)(ks:List (Nat × Tr)),Sp R L M i t nx dp ks->∀j,i<j->j<i+t.sz->∃p,p<j/\j0x R L M p j
 | .leaf x,i,nx,dp,ks,h,j,h1,h2=>by rw[j8w]at h2;omega
 | .one x a,i,nx,dp,ks,h,j,h1,h2=>by
  rw[k2l]at h2;by_cases e:j=i+1
  ·exact⟨i,h1,.inl ⟨_,_,_,_,_,h,e⟩⟩
  ·exact k7i a _ _ _ _ h.one j (by omega) (by omega)
 | .two x a b,i,nx,dp,ks,h,j,h1,h2=>by
  rw[z4z]at h2;by_cases e:j=i+1
  ·exact⟨i,h1,.inr ⟨_,_,_,_,_,_,h,.inl e⟩⟩
  ·by_cases e3:j=i+1+a.sz
   ·exact⟨i,h1,.inr ⟨_,_,_,_,_,_,h,.inr e3⟩⟩
   ·by_cases e2:j<i+1+a.sz
    ·obtain⟨_,_,h'⟩:=h.two1;exact k7i a _ _ _ _ h' j (by omega) (by omega)
    ·exact k7i b _ _ _ _ h.two2 j (by omega) (by omega)
def q0a(t:Tr):List Pl:=k2d t 0 t.sz 0 []
theorem q2v(t:Tr):(q0a t).length=t.sz:=z0o t _ _ _ _
theorem z9h{t:Tr}(h:t.Wf):Sp (q0a t) t.lf t.dsum 0 t t.sz 0 [] where
 pl:=⟨[],by simp[q0a]⟩
 kx:=k6k (Nat.le_of_eq (q2v t))
 lo:=by omega
 hi:=Nat.le_of_eq (q2v t).symm
 wf:=h
 bl:=by simp[lfK]
 bd:=by simp
 bk:=by intro p hp;simp at hp
theorem j8q{t:Tr}(h:t.Wf){j:Nat}(hj:j<(q0a t).length):∃t' nx dp ks,Sp (q0a t) t.lf t.dsum j t' nx dp ks:=
 k7l t 0 _ _ _ (z9h h) j (Nat.zero_le _) (by rw[q2v]at hj;omega)
theorem k2b{t:Tr}(h:t.Wf){j:Nat}(h0:0<j)(hj:j<(q0a t).length):∃p,p<j/\j0x (q0a t) t.lf t.dsum p j:=
 k7i t 0 _ _ _ (z9h h) j h0 (by rw[q2v]at hj;omega)
/-! ### Moves and courses -/
def vv(R:List Pl)(wd i c:Nat):Crs:=bs wd c (kont R i)
theorem v8f{R:List Pl}{wd i c:Nat}(h:R.length<=i):vv R wd i c=((0,0),[]):=by rw[vv,k6k h,y3o]
theorem y8t{R:List Pl}{wd L M i c nx dp:Nat}{ks:List (Nat × Tr)}{t:Tr}(h:Sp R L M i t nx dp ks)(hm:L*(21+M)<=400000):(vv R wd i c).1.1<=400000/\(vv R wd i c).1.2<=400000:=by
 have h1:=y7k wd c M (kont R i) (by rw[h.kont];intro p hp;rcases List.mem_cons.1 hp with rfl|hp;exact⟨h.bd,h.wf⟩;exact h.bk p hp);have h2:lfK (kont R i)*(21+M)<=L*(21+M):=Nat.mul_le_mul_right _ (by rw[h.kont];exact h.bl);rw[vv];omega
structure Mv where
 np:Nat
 nc:Nat
 o:Nat
 l:Nat
def mvP(wd:Nat)(op:Int)(k nx dp lg e i c ch:Nat):Mv:=
 if op=1 then⟨nx,min (c+k) wd,c+k-wd,0⟩
 else if op=2\/op=3\/op=4 then⟨nx,min dp wd,dp-wd,1⟩
 else if op=5 then⟨nx,c,0,0⟩
 else if op=8/\ch=0 then⟨nx,min (c+lg) wd,c+lg-wd,0⟩
 else if op=9/\ch=1 then⟨e,c,0,0⟩
 else⟨i+1,c,0,0⟩
section
variable {wd k nx dp lg e i c ch:Nat} {op:Int}
theorem z8x(h:op=1):mvP wd op k nx dp lg e i c ch=⟨nx,min (c+k) wd,c+k-wd,0⟩:=by rw[mvP,if_pos h]
theorem z0j(h:op=2\/op=3\/op=4):mvP wd op k nx dp lg e i c ch=⟨nx,min dp wd,dp-wd,1⟩:=by rw[mvP,if_neg (by omega),if_pos h]
theorem z8y(h:op=5):mvP wd op k nx dp lg e i c ch=⟨nx,c,0,0⟩:=by rw[mvP,if_neg (by omega),if_neg (by omega),if_pos h]
theorem z8w(h:op=8)(h0:ch=0):mvP wd op k nx dp lg e i c ch=⟨nx,min (c+lg) wd,c+lg-wd,0⟩:=by rw[mvP,if_neg (by omega),if_neg (by omega),if_neg (by omega),if_pos ⟨h,h0⟩]
theorem z1y(h:op=9)(h0:ch=1):mvP wd op k nx dp lg e i c ch=⟨e,c,0,0⟩:=by rw[mvP,if_neg (by omega),if_neg (by omega),if_neg (by omega),if_neg (by omega),if_pos ⟨h,h0⟩]
theorem z0i(h:op=6\/op=7\/(op=8/\ch≠0)\/(op=9/\ch≠1)):mvP wd op k nx dp lg e i c ch=⟨i+1,c,0,0⟩:=by rw[mvP,if_neg (by omega),if_neg (by omega),if_neg (by omega),if_neg (by omega),if_neg (by omega)]
end
def mv(wd:Nat)(r:Pl)(e i c ch:Nat):Mv:=mvP wd r.nd.op r.nd.tx.size r.nx r.dp r.lg.toNat e i c ch
def z1u(op:Int):Bool:=decide (op=8)||decide (op=9)
structure Cv where
 o:Nat
 l:Nat
 ch:Nat
 np:Nat
 nc:Nat
def j2z(R:List Pl)(wd ch:Nat)(m:Mv):Cv:=⟨m.o+(vv R wd m.np m.nc).1.1,m.l+(vv R wd m.np m.nc).1.2,ch,m.np,m.nc⟩
def q1o(R:List Pl)(i:Nat):Pl:=R.getD i ⟨⟨0,⟨#[]⟩,0⟩,0,0,0,0,.leaf ⟨0,⟨#[]⟩,0⟩,[]⟩
theorem Sp.at{R:List Pl}{L M i nx dp:Nat}{ks:List (Nat × Tr)}{t:Tr}(h:Sp R L M i t nx dp ks):q1o R i=z6z t i nx dp ks:=by rw[q1o,List.getD,h.get];rfl
def q3h(R:List Pl)(wd i c ch:Nat):Mv:=mv wd (q1o R i) (q1o R (i+1)).en i c ch
def tkC(R:List Pl)(wd i c ch:Nat):Cv:=j2z R wd ch (q3h R wd i c ch)
def crs(R:List Pl)(wd i c:Nat):Cv:=
 if(q1o R i).lg=-1 then tkC R wd i c 1
 else if z1u (q1o R i).nd.op=false then tkC R wd i c 0
 else if q2t ((tkC R wd i c 1).o,(tkC R wd i c 1).l) ((tkC R wd i c 0).o,(tkC R wd i c 0).l)then tkC R wd i c 1 else tkC R wd i c 0
structure y8w(R:List Pl)(wd i:Nat)(m:Mv):Prop where
 lo:i<m.np
 hi:m.np<=R.length
 cl:m.nc<=wd
 bo:m.o<=20000
 bl:m.l<=1
section
variable {R:List Pl} {L M i nx dp wd c ch:Nat} {ks:List (Nat × Tr)} {t:Tr}
theorem y4i{a:Tr}(h:a.Wf)(hn:a.lf<=400):(lgF a.flat).toNat<=8000:=by
 cases hf:a.flat with
 | none=>simp[lgF]
 | some s=>have:=q9h a s h hf;simp[lgF];omega
theorem q5d{x:Nd}(h:Sp R L M i (.leaf x) nx dp ks):q3h R wd i c ch=mvP wd x.op x.tx.size nx dp 0 (q1o R (i+1)).en i c ch:=by rw[q3h,h.at];rfl
theorem q6u{x:Nd}{a:Tr}(h:Sp R L M i (.one x a) nx dp ks):q3h R wd i c ch=mvP wd x.op x.tx.size nx dp (Tr.lg (.one x a)).toNat (q1o R (i+1)).en i c ch:=by rw[q3h,h.at];rfl
theorem q8p{x:Nd}{a b:Tr}(h:Sp R L M i (.two x a b) nx dp ks):q3h R wd i c ch=mvP wd x.op x.tx.size nx dp 0 (i+1+a.sz) i c ch:=by
 obtain⟨nx',ks',hs⟩:=h.two1;rw[q3h,h.at,hs.at];rfl
theorem j5w(h:Sp R L M i t nx dp ks)(hc:c<=wd)(hw:wd<=100)(hL:L<=400)(hM:M<=3200):y8w R wd i (q3h R wd i c ch):=by
 have h1:=h.lo;have h2:=h.hi;have h3:=k7p t;have hbd:=h.bd;have hbl:=h.bl;cases t with
 | leaf x=>
  have hn:=q1x h.wf.1;rw[q5d h];rcases q3w h.wf.1 h.wf.2 with e|e|e|e|e
  ·rw[z8x e]
   have:=q3y (hn.2.2.2.2.1 e)
   exact⟨by dsimp only;omega,h2,Nat.min_le_right _ _,by dsimp only;omega,by simp⟩
  all_goals first
   | (rw[z0j (by omega)];exact⟨by dsimp only;omega,h2,Nat.min_le_right _ _,by dsimp only;omega,by simp⟩)
   | (rw[z8y (by omega)];exact⟨by dsimp only;omega,h2,hc,by simp,by simp⟩)
 | one x a=>
  have hs:=h.one;have hlt:=hs.lt;have h78:=q7z h.wf.2.1;rw[q6u h];by_cases h8:x.op=8/\ch=0
  ·rw[z8w h8.1 h8.2];have hlg:(Tr.lg (.one x a)).toNat<=8000:=by rw[Tr.lg,if_pos h8.1];exact y4i h.wf.2.2 (by simp only[Tr.lf]at hbl;omega)
   exact⟨by dsimp only;omega,h2,Nat.min_le_right _ _,by dsimp only;omega,by simp⟩
  ·rw[z0i (by omega)];exact⟨by simp,by dsimp only;omega,hc,by simp,by simp⟩
 | two x a b=>
  obtain⟨nx',ks',hs⟩:=h.two1;have hlt:=hs.lt;have hlt2:=h.two2.lt;have h69:=q7m h.wf.2.1;rw[q8p h];by_cases h9:x.op=9/\ch=1
  ·rw[z1y h9.1 h9.2];exact⟨by dsimp only;omega,by dsimp only;omega,hc,by simp,by simp⟩
  ·rw[z0i (by omega)];exact⟨by simp,by dsimp only;omega,hc,by simp,by simp⟩
theorem y5b(o l:Nat)(u:List Int)(a:Crs):q5t o l u a=((o+a.1.1,l+a.1.2),u++a.2):=rfl
theorem j2w(h:Sp R L M i t nx dp ks)(hc:c<=wd):
  vv R wd i c=(((crs R wd i c).o,(crs R wd i c).l),(if z1u t.root.op=true then [((crs R wd i c).ch:Int)]else [])++(vv R wd (crs R wd i c).np (crs R wd i c).nc).2)/\∃ch,(ch=0\/ch=1)/\crs R wd i c=tkC R wd i c ch:=by
 have hp:=h.at;have hk:=h.kont;have hx:=h.kx;refine⟨?_,?_⟩
 ·cases t with
  | leaf x=>
   have hlg:(q1o R i).lg≠-1:=by rw[hp];simp[z6z,Tr.lg]
   have hop:(q1o R i).nd.op=x.op:=by rw[hp];rfl
   have hch:z1u x.op=false:=by rcases q3w h.wf.1 h.wf.2 with e|e|e|e|e<;>simp[z1u,e]
   rw[crs,if_neg hlg,hop,if_pos hch,tkC,j2z,Tr.root,hch];dsimp only
   have hv:vv R wd i c=q5t (q3h R wd i c 0).o (q3h R wd i c 0).l [] (vv R wd (q3h R wd i c 0).np (q3h R wd i c 0).nc):=by
    rw[q5d h,vv,hk];rcases q3w h.wf.1 h.wf.2 with e|e|e|e|e
    ·rw[z8x e,v8w h.wf.1 e hc];dsimp only;rw[vv,hx]
    all_goals first
     | (rw[z0j (by omega),v8v (by omega)];dsimp only;rw[vv,hx])
     | (rw[z8y (by omega),v8x e];dsimp only;rw[vv,hx])
   rw[hv];rfl
  | one x a=>
   have h78:=q7z h.wf.2.1;have hop:(q1o R i).nd.op=x.op:=by rw[hp];rfl
   have hs:=h.one;have m1:q3h R wd i c 1=⟨i+1,c,0,0⟩:=by rw[q6u h,z0i (by omega)]
   rcases h78 with e|e
   ·have hlg:(q1o R i).lg≠-1:=by rw[hp];simp[z6z,Tr.lg,e]
    have hch:z1u x.op=false:=by simp[z1u,e]
    have m0:q3h R wd i c 0=⟨i+1,c,0,0⟩:=by rw[q6u h,z0i (by omega)]
    rw[crs,if_neg hlg,hop,if_pos hch,tkC,j2z,Tr.root,hch,m0];dsimp only;rw[vv,hk,v8t e,vv,hs.kont];simp
   ·have hch:z1u x.op=true:=by simp[z1u,e]
    have hlg:(q1o R i).lg=lgF a.flat:=by rw[hp];simp[z6z,Tr.lg,e]
    have hn0:x.n.toNat=0:=by have:=q1x h.wf.1;omega
    have ek:kont R (i+1)=(dp,a)::ks:=by rw[hs.kont,hn0];rfl
    cases hf:a.flat with
    | none=>
     rw[hf]at hlg;rw[crs,if_pos (show(q1o R i).lg=-1 from hlg),tkC,j2z,Tr.root,hch,m1];dsimp only;rw[vv,hk,v8u (by omega) hf,y5b,vv,ek];simp
    | some s=>
     rw[hf]at hlg;have hlg':(q1o R i).lg≠-1:=by rw[hlg,lgF];omega
     have m0:q3h R wd i c 0=⟨nx,min (c+s.length) wd,c+s.length-wd,0⟩:=by
      rw[q6u h,z8w e rfl,Tr.lg,if_pos e,hf];rfl
     rw[crs,if_neg hlg',hop,if_neg (by rw[hch];simp),Tr.root,hch];rw[vv,hk,v1g (by omega) h.wf.2.2 hf hc]
     have e0:tkC R wd i c 0=⟨(q5t (c+s.length-wd) 0 [0] (bs wd (min (c+s.length) wd) ks)).1.1,(q5t (c+s.length-wd) 0 [0] (bs wd (min (c+s.length) wd) ks)).1.2,0,nx,min (c+s.length) wd⟩:=by
      rw[tkC,j2z,m0];simp only[vv,hx,q5t]
     have e1:tkC R wd i c 1=⟨(q5t 0 0 [1] (bs wd c ((dp,a)::ks))).1.1,(q5t 0 0 [1] (bs wd c ((dp,a)::ks))).1.2,1,i+1,c⟩:=by
      rw[tkC,j2z,m1];simp only[vv,ek,q5t]
     rw[e0,e1];unfold z9w;dsimp only
     split
     ·simp only[if_true,vv,ek,q5t];rfl
     ·simp only[if_true,vv,hx,q5t];rfl
  | two x a b=>
   have h69:=q7m h.wf.2.1;have hop:(q1o R i).nd.op=x.op:=by rw[hp];rfl
   have hlg:(q1o R i).lg≠-1:=by rw[hp];simp[z6z,Tr.lg]
   have m0:q3h R wd i c 0=⟨i+1,c,0,0⟩:=by rw[q8p h,z0i (by omega)]
   rcases h69 with e|e
   ·have hch:z1u x.op=false:=by simp[z1u,e]
    rw[crs,if_neg hlg,hop,if_pos hch,tkC,j2z,Tr.root,hch,m0];dsimp only;rw[vv,hk,v8s e,vv,(h.both1 e).kont];simp
   ·have hch:z1u x.op=true:=by simp[z1u,e]
    have hs:=h.either1 (by omega);have hs2:=h.two2;have m1:q3h R wd i c 1=⟨i+1+a.sz,c,0,0⟩:=by rw[q8p h,z1y e rfl]
    rw[crs,if_neg hlg,hop,if_neg (by rw[hch];simp),Tr.root,hch];rw[vv,hk,j2h (by omega)]
    have e0:tkC R wd i c 0=⟨(q5t 0 0 [0] (bs wd c ((dp,a)::ks))).1.1,(q5t 0 0 [0] (bs wd c ((dp,a)::ks))).1.2,0,i+1,c⟩:=by
     rw[tkC,j2z,m0];simp only[vv,hs.kont,q5t]
    have e1:tkC R wd i c 1=⟨(q5t 0 0 [1] (bs wd c ((dp,b)::ks))).1.1,(q5t 0 0 [1] (bs wd c ((dp,b)::ks))).1.2,1,i+1+a.sz,c⟩:=by
     rw[tkC,j2z,m1];simp only[vv,hs2.kont,q5t]
    rw[e0,e1];unfold z9w;dsimp only
    split
    ·simp only[if_true,vv,hs2.kont,q5t];rfl
    ·simp only[if_true,vv,hs.kont,q5t];rfl
 ·unfold crs
  split
  ·exact⟨1,.inr rfl,rfl⟩
  ·split
   ·exact⟨0,.inl rfl,rfl⟩
   ·split
    ·exact⟨1,.inr rfl,rfl⟩
    ·exact⟨0,.inl rfl,rfl⟩
end
end Go.Proofs.YthjapabokcajhaaGreatDoor
namespace Go.Proofs.YthjapabokcajhaaGreatDoor
open Go Go.RowKit
def q1a(s:Nat)(w:World)(a:Option Addr)(ds:List Nd):Prop:=
 ∀i(h:i<ds.length),∃o,a=some ⟨s,o,none⟩/\w.cell? ⟨s,o+i*3,none⟩=some (.int .i64 ds[i].op)/\w.cell? ⟨s,o+i*3+1,none⟩=some (.string ds[i].tx)/\w.cell? ⟨s,o+i*3+2,none⟩=some (.int .i64 ds[i].n)
theorem q1u.s{w:World}{a:Option Addr}{ds:List Nd}(h:q1u w a ds)(h0:ds≠[]):∃s,s<w.heap.size/\q1a s w a ds:=by
 obtain⟨s,o,rfl,hs,_⟩:=h 0 (List.length_pos_iff.2 h0);refine⟨s,hs,fun i hi=>?_⟩;obtain⟨b,o',e,_,c⟩:=h i hi;simp only[Option.some.injEq,Addr.mk.injEq,and_true]at e;obtain⟨rfl,rfl⟩:=e;exact⟨o,rfl,c⟩
theorem q1a.nods{s:Nat}{w:World}{a:Option Addr}{ds:List Nd}(h:q1a s w a ds)(hs:s<w.heap.size):q1u w a ds:=by
 intro i hi;obtain⟨o,e,c⟩:=h i hi;exact⟨s,o,e,hs,c⟩
theorem q1a.kept{s:Nat}{w w':World}{a:Option Addr}{ds:List Nd}(h:q1a s w a ds)(hb:w'.heap[s]?=w.heap[s]?):q1a s w' a ds:=by
 intro i hi;obtain⟨o,e,c1,c2,c3⟩:=h i hi;have hc:∀j,w'.cell? ⟨s,j,none⟩=w.cell? ⟨s,j,none⟩:=fun j=>World.cell?_of_block (w:=w) (a:=⟨s,j,none⟩) hb
 exact⟨o,e,(hc _).trans c1,(hc _).trans c2,(hc _).trans c3⟩
theorem q1a.rest{s:Nat}{w:World}{o:Nat}{x:Nd}{ds:List Nd}(h:q1a s w (some ⟨s,o,none⟩) (x::ds)):q1a s w (some ⟨s,o+3,none⟩) ds:=by
 intro i hi;obtain⟨o',e,c1,c2,c3⟩:=h (i+1) (by simp;omega);simp only[Option.some.injEq,Addr.mk.injEq,and_true,true_and]at e;obtain rfl:=e;refine⟨o+3,rfl,?_,?_,?_⟩
 ·rw[show o+3+i*3=o+(i+1)*3 by omega];exact c1
 ·rw[show o+3+i*3+1=o+(i+1)*3+1 by omega];exact c2
 ·rw[show o+3+i*3+2=o+(i+1)*3+2 by omega];exact c3
theorem q1a.slid{s:Nat}{w:World}{o cap:Nat}{x:Nd}{ds:List Nd}(h:q1a s w (some ⟨s,o,none⟩) (x::ds))(hc:ds.length+1<=cap):
  q1a s w (if cap=1 then some ⟨s,o,none⟩else some ⟨s,o+3,none⟩) ds:=by
 by_cases h1:cap=1
 ·have:ds=[]:=List.eq_nil_of_length_eq_zero (by omega)
  subst this;exact fun i hi=>by simp at hi
 ·rw[if_neg h1];exact h.rest
end Go.Proofs.YthjapabokcajhaaGreatDoor
namespace Go.Proofs.YthjapabokcajhaaGreatDoor
open Go Go.RowKit
structure Q where
 op:Int
 tx:ByteArray
 n:Int
 en:Int
 nx:Int
 dp:Int
 lg:Int
def q0:Q:=⟨0,⟨#[]⟩,0,0,0,0,0⟩
def q1(r:Pl):Q:=⟨r.nd.op,r.nd.tx,r.nd.n,r.en,0,0,0⟩
def q2(r:Pl):Q:=⟨r.nd.op,r.nd.tx,r.nd.n,r.en,r.nx,r.dp,r.lg⟩
structure z3i(w:World)(g j:Nat)(q:Q):Prop where
 c0:w.cell? ⟨g,j*7,none⟩=some (.int .i64 q.op)
 c1:w.cell? ⟨g,j*7+1,none⟩=some (.string q.tx)
 c2:w.cell? ⟨g,j*7+2,none⟩=some (.int .i64 q.n)
 c3:w.cell? ⟨g,j*7+3,none⟩=some (.int .i64 q.en)
 c4:w.cell? ⟨g,j*7+4,none⟩=some (.int .i64 q.nx)
 c5:w.cell? ⟨g,j*7+5,none⟩=some (.int .i64 q.dp)
 c6:w.cell? ⟨g,j*7+6,none⟩=some (.int .i64 q.lg)
def q7p(w:World)(b:Nat):Prop:=∃cs T,w.heap[b]?=some (.cells cs T (0,0))
theorem q7p.frozen{w:World}{b i:Nat}(h:q7p w b):w.frozen? ⟨b,i,none⟩=false:=by
 obtain⟨cs,T,h⟩:=h;simp[World.frozen?,h]
theorem q7p.lt{w:World}{b:Nat}(h:q7p w b):b<w.heap.size:=by
 obtain⟨cs,T,h⟩:=h;rcases Nat.lt_or_ge b w.heap.size with h'|h'
 ·exact h'
 ·simp[Array.getElem?_eq_none h']at h
theorem q7p.kept{w w':World}{b:Nat}(h:q7p w b)(hb:w'.heap[b]?=w.heap[b]?):q7p w' b:=by
 obtain⟨cs,T,h⟩:=h;exact⟨cs,T,hb.trans h⟩
theorem q7p.set{w:World}{b c i:Nat}{v:Value}(h:q7p w b):q7p (w.setCell ⟨c,i,none⟩ v) b:=by
 by_cases e:c=b
 ·subst e;obtain⟨cs,T,h⟩:=h;exact⟨cs.setIfInBounds i v,T,by simp[World.setCell,Array.getElem?_modify,h]⟩
 ·exact h.kept (Below.heap_setCell _ _ _ _ (Ne.symm e))
structure PwR(w:World)(g n:Nat)(F:Nat->Q):Prop where
 get:∀j,j<n->z3i w g j (F j)
 row:q7p w g
theorem z3i.kept{w w':World}{g j:Nat}{q:Q}(h:z3i w g j q)(hb:w'.heap[g]?=w.heap[g]?):z3i w' g j q:=by
 have hc:∀k,w'.cell? ⟨g,k,none⟩=w.cell? ⟨g,k,none⟩:=fun k=>World.cell?_of_block (w:=w) (a:=⟨g,k,none⟩) hb
 exact⟨(hc _).trans h.c0,(hc _).trans h.c1,(hc _).trans h.c2,(hc _).trans h.c3,(hc _).trans h.c4,(hc _).trans h.c5,(hc _).trans h.c6⟩
theorem PwR.kept{w w':World}{g n:Nat}{F:Nat->Q}(h:PwR w g n F)(hb:w'.heap[g]?=w.heap[g]?):PwR w' g n F:=⟨fun j hj=>(h.get j hj).kept hb,h.row.kept hb⟩
theorem PwR.congr{w:World}{g n:Nat}{F G:Nat->Q}(h:PwR w g n F)(e:∀j,j<n->F j=G j):PwR w g n G:=⟨fun j hj=>e j hj ▸ h.get j hj,h.row⟩
theorem z3i.other{w:World}{g j k f:Nat}{q:Q}{v:Value}(h:z3i w g k q)(hf:f<7)(hk:k≠j):z3i (w.setCell ⟨g,j*7+f,none⟩ v) g k q:=
 ⟨(cso (by omega)).trans h.c0,(cso (by omega)).trans h.c1,(cso (by omega)).trans h.c2,(cso (by omega)).trans h.c3,(cso (by omega)).trans h.c4,(cso (by omega)).trans h.c5,(cso (by omega)).trans h.c6⟩
def upd(F:Nat->Q)(j:Nat)(q:Q):Nat->Q:=fun k=>if k=j then q else F k
theorem q0n(F:Nat->Q)(j:Nat)(q:Q):upd F j q j=q:=by simp[upd]
theorem q1j{F:Nat->Q}{j k:Nat}{q:Q}(h:k≠j):upd F j q k=F k:=by simp[upd,h]
theorem PwR.put{w:World}{g n j f:Nat}{F:Nat->Q}{v:Value}{q:Q}(h:PwR w g n F)(hf:f<7)(hq:z3i (w.setCell ⟨g,j*7+f,none⟩ v) g j q):PwR (w.setCell ⟨g,j*7+f,none⟩ v) g n (upd F j q) where
 get k hk:=by
  by_cases e:k=j
  ·subst e;rw[q0n];exact hq
  ·rw[q1j e];exact(h.get k hk).other hf e
 row:=h.row.set
section
variable {w:World} {g n j:Nat} {F:Nat→Q}
theorem PwR.putOp(h:PwR w g n F)(hj:j<n)(x:Int):PwR (w.setCell ⟨g,j*7,none⟩ (.int .i64 x)) g n (upd F j {F j with op:=x}):=by
 have k:=h.get j hj;exact h.put (f:=0) (by omega) ⟨css k.c0,(cso (by omega)).trans k.c1,(cso (by omega)).trans k.c2,(cso (by omega)).trans k.c3,(cso (by omega)).trans k.c4,(cso (by omega)).trans k.c5,(cso (by omega)).trans k.c6⟩
theorem PwR.putTx(h:PwR w g n F)(hj:j<n)(x:ByteArray):PwR (w.setCell ⟨g,j*7+1,none⟩ (.string x)) g n (upd F j {F j with tx:=x}):=by
 have k:=h.get j hj;exact h.put (f:=1) (by omega) ⟨(cso (by omega)).trans k.c0,css k.c1,(cso (by omega)).trans k.c2,(cso (by omega)).trans k.c3,(cso (by omega)).trans k.c4,(cso (by omega)).trans k.c5,(cso (by omega)).trans k.c6⟩
theorem PwR.putN(h:PwR w g n F)(hj:j<n)(x:Int):PwR (w.setCell ⟨g,j*7+2,none⟩ (.int .i64 x)) g n (upd F j {F j with n:=x}):=by
 have k:=h.get j hj;exact h.put (f:=2) (by omega) ⟨(cso (by omega)).trans k.c0,(cso (by omega)).trans k.c1,css k.c2,(cso (by omega)).trans k.c3,(cso (by omega)).trans k.c4,(cso (by omega)).trans k.c5,(cso (by omega)).trans k.c6⟩
theorem PwR.putEn(h:PwR w g n F)(hj:j<n)(x:Int):PwR (w.setCell ⟨g,j*7+3,none⟩ (.int .i64 x)) g n (upd F j {F j with en:=x}):=by
 have k:=h.get j hj;exact h.put (f:=3) (by omega) ⟨(cso (by omega)).trans k.c0,(cso (by omega)).trans k.c1,(cso (by omega)).trans k.c2,css k.c3,(cso (by omega)).trans k.c4,(cso (by omega)).trans k.c5,(cso (by omega)).trans k.c6⟩
theorem PwR.putNx(h:PwR w g n F)(hj:j<n)(x:Int):PwR (w.setCell ⟨g,j*7+4,none⟩ (.int .i64 x)) g n (upd F j {F j with nx:=x}):=by
 have k:=h.get j hj;exact h.put (f:=4) (by omega) ⟨(cso (by omega)).trans k.c0,(cso (by omega)).trans k.c1,(cso (by omega)).trans k.c2,(cso (by omega)).trans k.c3,css k.c4,(cso (by omega)).trans k.c5,(cso (by omega)).trans k.c6⟩
theorem PwR.putDp(h:PwR w g n F)(hj:j<n)(x:Int):PwR (w.setCell ⟨g,j*7+5,none⟩ (.int .i64 x)) g n (upd F j {F j with dp:=x}):=by
 have k:=h.get j hj;exact h.put (f:=5) (by omega) ⟨(cso (by omega)).trans k.c0,(cso (by omega)).trans k.c1,(cso (by omega)).trans k.c2,(cso (by omega)).trans k.c3,(cso (by omega)).trans k.c4,css k.c5,(cso (by omega)).trans k.c6⟩
theorem PwR.putLg(h:PwR w g n F)(hj:j<n)(x:Int):PwR (w.setCell ⟨g,j*7+6,none⟩ (.int .i64 x)) g n (upd F j {F j with lg:=x}):=by
 have k:=h.get j hj;exact h.put (f:=6) (by omega) ⟨(cso (by omega)).trans k.c0,(cso (by omega)).trans k.c1,(cso (by omega)).trans k.c2,(cso (by omega)).trans k.c3,(cso (by omega)).trans k.c4,(cso (by omega)).trans k.c5,css k.c6⟩
end
theorem z9r(F:Nat->Q)(j:Nat)(p q:Q):upd (upd F j p) j q=upd F j q:=by
 funext k
 simp only[upd]
 split<;>rfl
theorem ka{w:World}{b o:Nat}{v:Value}(h:w.cell? ⟨b,o,none⟩=some v)(O:Obj):(w.alloc O).cell? ⟨b,o,none⟩=some v:=
 (((Below.refl _ w).alloc Zl O).cell (p:=⟨b,o,none⟩) (World.block_lt_of_cell? w _ h)).trans h
theorem kaf{w:World}{b o:Nat}(hb:b<w.heap.size)(h:w.frozen? ⟨b,o,none⟩=false)(O:Obj):(w.alloc O).frozen? ⟨b,o,none⟩=false:=
 (((Below.refl _ w).alloc Zl O).frozen (p:=⟨b,o,none⟩) hb).trans h
theorem z5k{i n:Nat}(hn:n<=400)(hi:(i:Int)<n):IntKind.i64.wrap ((i:Int)+1)=(i:Int)+1:=by
 rw[IntKind.wrap_i64];omega
end Go.Proofs.YthjapabokcajhaaGreatDoor
namespace Go.Proofs.YthjapabokcajhaaGreatDoor
open Go Go.RowKit
set_option maxRecDepth 100000
set_option maxHeartbeats 4000000
theorem j1x(bp g n i:Nat)(op:Int)(w:World)(hn:n<=400)(hi:(i:Int)<n)
  (c0:w.cell? ⟨bp,0,none⟩=some (.slice (some ⟨g,0,none⟩) n n)) (d1:w.cell? ⟨g,i*7,none⟩=some (.int .i64 op)) (h6:(op==6)=false) (h9:(op==9)=false) (h7:(op==7)=false) (h8:(op==8)=false):
  Calls prog 160 #[.pointer (some ⟨bp,0,none⟩),.int .i64 i] w fun e w'=>e=.returned (.int .i64 ((i:Int)+1))/\∃q,w'=w.drewN q:=by
 have hw1:=z5k hn hi;have hp0:(0:Int)<=(i:Int):=by omega
 go_in;go_wp2;go_ret;exact⟨rfl,0,rfl⟩
theorem v1b(bp g n i:Nat)(op x:Int)(w:World)(hn:n<=400)(hi:(i:Int)<n)(hi1:(i:Int)+1<n)
  (c0:w.cell? ⟨bp,0,none⟩=some (.slice (some ⟨g,0,none⟩) n n)) (d1:w.cell? ⟨g,i*7,none⟩=some (.int .i64 op)) (d2:w.cell? ⟨g,(i+1)*7+3,none⟩=some (.int .i64 x)) (hop:op=7\/op=8):
  Calls prog 160 #[.pointer (some ⟨bp,0,none⟩),.int .i64 i] w fun e w'=>e=.returned (.int .i64 x)/\∃q,w'=w.drewN q:=by
 have hw1:=z5k hn hi;have hp0:(0:Int)<=(i:Int):=by omega
 have hp1:(0:Int)<=(i:Int)+1:=by omega
 have htn:((i:Int)+1).toNat=i+1:=by omega
 rcases hop with rfl|rfl
 all_goals
  go_in;go_wp2;go_ret;exact⟨rfl,0,rfl⟩
theorem v1c(bp g n i j:Nat)(op x:Int)(w:World)(hn:n<=400)(hi:(i:Int)<n)(hi1:(i:Int)+1<n)(hj:(j:Int)<n)
  (c0:w.cell? ⟨bp,0,none⟩=some (.slice (some ⟨g,0,none⟩) n n)) (d1:w.cell? ⟨g,i*7,none⟩=some (.int .i64 op)) (d2:w.cell? ⟨g,(i+1)*7+3,none⟩=some (.int .i64 (j:Int))) (d3:w.cell? ⟨g,j*7+3,none⟩=some (.int .i64 x)) (hop:op=6\/op=9):
  Calls prog 160 #[.pointer (some ⟨bp,0,none⟩),.int .i64 i] w fun e w'=>e=.returned (.int .i64 x)/\∃q,w'=w.drewN q:=by
 have hw1:=z5k hn hi;have hp0:(0:Int)<=(i:Int):=by omega
 have hp1:(0:Int)<=(i:Int)+1:=by omega
 have htn:((i:Int)+1).toNat=i+1:=by omega
 have hpj:(0:Int)<=(j:Int):=by omega
 rcases hop with rfl|rfl
 all_goals
  go_in;go_wp2_with fail
  go_quiet (fail)
  go_wp2;go_ret;exact⟨rfl,_,rfl⟩
def y3g(g a b:Nat)(e f:Value)(w w':World):Prop:=
 w'.os=w.os/\w'.tape=w.tape/\w'.output=w.output/\w'.heap=((w.setCell ⟨g,a,none⟩ e).setCell ⟨g,b,none⟩ f).heap
theorem j2l(bp g n i:Nat)(x y:Int)(w:World)(hi:(i:Int)<n)
  (c0:w.cell? ⟨bp,0,none⟩=some (.slice (some ⟨g,0,none⟩) n n)) (y1 y2:Value) (e5:w.cell? ⟨g,i*7+4,none⟩=some y1) (e6:w.cell? ⟨g,i*7+5,none⟩=some y2) (z1:w.frozen? ⟨g,i*7+4,none⟩=false) (z2:w.frozen? ⟨g,i*7+5,none⟩=false):
  Calls prog 193 #[.pointer (some ⟨bp,0,none⟩),.int .i64 i,.int .i64 x,.int .i64 y] w fun e w'=>e=.returned (.tuple #[])/\y3g g (i*7+4) (i*7+5) (.int .i64 x) (.int .i64 y) w w':=by
 have hp0:(0:Int)<=(i:Int):=by omega
 go_in
 go_region_held3 (fun w'=>w'.cell? ⟨bp,0,none⟩=some (.slice (some ⟨g,0,none⟩) n n))
  (first|exact c0|exact(cso (by omega)).trans c0|exact(cso (by omega)).trans ((cso (by omega)).trans c0)) (fail)
 all_goals
  go_wp2
  go_end0
  exact⟨rfl,rfl,rfl,rfl,rfl⟩
def j3u(n:Int):Bool:=decide (0<=n)&&decide (n<=1000000)
def okC(c:Int × Int):Bool:=j3u c.1&&j3u c.2
theorem z3z{n:Int}(h:j3u n=true):0<=n/\n<=1000000:=by simpa[j3u]using h
theorem k8u{n:Int}(h:j3u n=false):n<0\/(0<=n/\1000000<n):=by
 simp[j3u]at h;omega
theorem z8k(n:Int)(w:World):Calls prog 250 #[n] w fun e w'=>e=.returned (.bool (j3u n))/\w=w':=by
 cases h:j3u n with
 | true=>
  obtain⟨h1,h2⟩:=z3z h;clear h;go_in;go_wp2;go_ret;exact⟨rfl,rfl⟩
 | false=>
  rcases k8u h with h1|⟨h1,h2⟩
  ·have h1':¬0<=n:=by omega
   clear h;go_in;go_wp2;go_ret;exact⟨rfl,rfl⟩
  ·have h2':¬n<=1000000:=by omega
   clear h;go_in;go_wp2;go_ret;exact⟨rfl,rfl⟩
theorem k0l(cs:List (Int × Int))(B:Nat)(w:World)(hB:B<w.heap.size)(hlen:cs.length<=2)
  (hc:∀j(h:j<cs.length),w.cell? ⟨B,j*2,none⟩=some (.int .i64 cs[j].1)/\w.cell? ⟨B,j*2+1,none⟩=some (.int .i64 cs[j].2)):
  Calls prog 239 #[.slice (some ⟨B,0,none⟩) cs.length cs.length] w fun e w'=>((∃c∈cs,okC c=false)/\e=.returned (.iface 23 (.int .i64 1))\/(∀c∈cs,okC c=true)/\e=.returned .nilIface)/\Below w w w':=by
 go_in;go_wp2
 go_loopw [7] (fun i wr=>∃k:Nat,k<=cs.length/\i=.int .i64 k/\(∀c∈cs.take k,okC c=true)/\Below w w wr) (fun i _=>cs.length-(intOf i).toNat)
 case atStart=>exact⟨0,Nat.zero_le _,rfl,by simp,Below.refl _ _⟩
 case round=>
  obtain⟨k,hk,rfl,hall,hb⟩:=hrel;by_cases hlt:k<cs.length
  ·have c1:=(hc k hlt).1;have c2:=(hc k hlt).2;have d1:wr.cell? ⟨B,k*2,none⟩=some (.int .i64 cs[k].1):=(hb.cell (p:=⟨B,k*2,none⟩) hB).trans c1;have d2:wr.cell? ⟨B,k*2+1,none⟩=some (.int .i64 cs[k].2):=(hb.cell (p:=⟨B,k*2+1,none⟩) hB).trans c2;clear c1 c2 hc;have hbw:w.heap.size<=wr.heap.size:=hb.size;have hbx:Below w w (wr.alloc (.cells #[.int .i64 cs[k].1,.int .i64 cs[k].2] 54)):=hb.alloc hbw _;cases f1:j3u cs[k].1 with
   | false=>
    go_wp2_with(go_at_call 250;refine(z8k _ _).mono ?_;rintro e w'⟨rfl,rfl⟩);go_ret;exact⟨.inl ⟨⟨cs[k],List.getElem_mem hlt,by simp[okC,f1]⟩,rfl⟩,hbx⟩
   | true=>
    cases f2:j3u cs[k].2 with
    | false=>
     go_wp2_with(go_at_call 250;refine(z8k _ _).mono ?_;rintro e w'⟨rfl,rfl⟩);go_ret;exact⟨.inl ⟨⟨cs[k],List.getElem_mem hlt,by simp[okC,f2]⟩,rfl⟩,hbx⟩
    | true=>
     go_wp2_with(go_at_call 250;refine(z8k _ _).mono ?_;rintro e w'⟨rfl,rfl⟩)
     go_roundw
     case rel=>
      refine⟨k+1,by omega,by go_num,?_,hbx⟩;intro c hcm;rw[List.take_succ_eq_append_getElem hlt]at hcm;rcases List.mem_append.1 hcm with h|h
      ·exact hall c h
      ·simp at h;subst h;simp[okC,f1,f2]
     case measure=>simp[intOf];omega
  ·go_wp2;go_ret;exact⟨.inr ⟨fun c hcm=>hall c (by rw[List.take_of_length_le (by omega)];exact hcm),rfl⟩,hb⟩
theorem z3p(a b:Int × Int)(B:Nat)(w:World)(hB:B<w.heap.size)(ha:okC a=true)(hb:okC b=true)
  (h0:w.cell? B=some ↑a.1) (h1:w.cell? (B,1)=some ↑a.2) (h2:w.cell? (B,2)=some ↑b.1) (h3:w.cell? (B,3)=some ↑b.2):
  Calls prog 239 #[.slice B 2 2] w fun e w'=>e=.returned .nilIface/\Below w w w':=by
 refine(k0l [a,b] B w hB (by simp) ?_).mono ?_
 ·intro j hj
  match j,hj with
  | 0,_=>exact⟨h0,h1⟩
  | 1,_=>exact⟨h2,h3⟩
 ·rintro e w'⟨⟨⟨c,hc,hf⟩,he⟩|⟨_,he⟩,hB⟩
  ·simp at hc;rcases hc with rfl|rfl
   ·rw[ha]at hf;cases hf
   ·rw[hb]at hf;cases hf
  ·exact⟨he,hB⟩
theorem j2q(a:Int × Int)(B:Nat)(w:World)(hB:B<w.heap.size)(ha:okC a=true)
  (h0:w.cell? B=some ↑a.1) (h1:w.cell? (B,1)=some ↑a.2):
  Calls prog 239 #[.slice B 1 1] w fun e w'=>e=.returned .nilIface/\Below w w w':=by
 refine(k0l [a] B w hB (by simp) ?_).mono ?_
 ·intro j hj
  match j,hj with
  | 0,_=>exact⟨h0,h1⟩
 ·rintro e w'⟨⟨⟨c,hc,hf⟩,he⟩|⟨_,he⟩,hB⟩
  ·simp at hc;subst hc;rw[ha]at hf;cases hf
  ·exact⟨he,hB⟩
abbrev v1r(a:Int × Int):Value:=.agg #[.int .i64 a.1,.int .i64 a.2]
def z8q(a b:Int × Int):Bool:=if a.1=b.1 then decide (a.2<b.2)else decide (a.1<b.1)
theorem v6k{w w1:World}{A B C:Obj}(hb:Below (((w.alloc A).alloc B).alloc C).heap.size (((w.alloc A).alloc B).alloc C) w1):Below w w w1:=
 (((Zb.alloc Zl _).alloc (by simp) _).alloc (by simp;omega) _).trans (hb.mono (by simp;omega))
theorem y0m(a b:Int × Int)(w:World)(ha:okC a=true)(hb:okC b=true):
  Calls prog 219 #[v1r a,v1r b] w fun e w'=>e=.returned (.tuple #[.bool (z8q a b),.nilIface])/\Below w w w':=by
 have HA:Hid (okC a=true):=ha;have HB:Hid (okC b=true):=hb;clear ha hb;by_cases h:a.1=b.1
 ·have hl:z8q a b=decide (a.2<b.2):=by simp[z8q,h]
  rw[hl];have h':(a.1 != b.1)=false:=by simp[h]
  clear h hl;go_in;go_wp2_with fail;refine(z3p a b (w.heap.size+1+1) _ (by simp) HA.o HB.o (by simp[go_sem]) (by simp[go_sem]) (by simp[go_sem]) (by simp[go_sem])).mono ?_;rintro e w1⟨rfl,hb1⟩;have hbw:=v6k hb1;obtain⟨hc,_⟩:=q1v hb1;clear hb1;go_wp2;go_ret2;exact⟨rfl,hbw⟩
 ·have hl:z8q a b=decide (a.1<b.1):=by simp[z8q,h]
  rw[hl];have h':(a.1 != b.1)=true:=by simp[h]
  clear h hl;go_in;go_wp2_with fail;refine(z3p a b (w.heap.size+1+1) _ (by simp) HA.o HB.o (by simp[go_sem]) (by simp[go_sem]) (by simp[go_sem]) (by simp[go_sem])).mono ?_;rintro e w1⟨rfl,hb1⟩;have hbw:=v6k hb1;obtain⟨hc,_⟩:=q1v hb1;clear hb1;go_wp2;go_ret2;exact⟨rfl,hbw⟩
end Go.Proofs.YthjapabokcajhaaGreatDoor
