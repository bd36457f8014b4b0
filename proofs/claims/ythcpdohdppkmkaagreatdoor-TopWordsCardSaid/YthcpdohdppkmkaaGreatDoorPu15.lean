import Derived.Test.YthcpdohdppkmkaaGreatDoorPu14
import Derived.Test.YthcpdohdppkmkaaGreatDoorPu06
import Derived.Deep.RegionHeld3
import Derived.BigQuiet
import Derived.BigRegion
open Go.Proofs.Tryz
namespace Go.Proofs.YthcpdohdppkmkaaGreatDoor
structure Pl where
 nd:Nd
 en:Nat
 nx:Nat
 dp:Nat
 lg:Int
 t:Tr
 ks:List (Nat × Tr)
def Tr.root:Tr->Nd
 | .leaf x=>x
 | .one x _=>x
 | .two x _ _=>x
def lgF:Option (List UInt8)->Int
 | none=>-1
 | some s=>(s.length:Int)
def Tr.lg:Tr->Int
 | .one x a=>if x.op=8 then lgF a.flat else 0
 | _=>0
def Tr.sz(t:Tr):Nat:=t.N.length
theorem v2s(x:Nd):(Tr.leaf x).sz=1:=rfl
theorem k4h(x:Nd)(a:Tr):(Tr.one x a).sz=1+a.sz:=by simp[Tr.sz,Tr.N];omega
theorem z5u(x:Nd)(a b:Tr):(Tr.two x a b).sz=1+a.sz+b.sz:=by simp[Tr.sz,Tr.N];omega
theorem j1s(t:Tr):0<t.sz:=t.pos
def z7z(t:Tr)(i nx dp:Nat)(ks:List (Nat × Tr)):Pl:=⟨t.root,i+t.sz,nx,dp,t.lg,t,ks⟩
def k3x:Tr->Nat->Nat->Nat->List (Nat × Tr)->List Pl
 | .leaf x,i,nx,dp,ks=>[z7z (.leaf x) i nx dp ks]
 | .one x a,i,nx,dp,ks=>z7z (.one x a) i nx dp ks::k3x a (i+1) nx (dp+x.n.toNat) ks
 | .two x a b,i,nx,dp,ks=>z7z (.two x a b) i nx dp ks::((if x.op=6 then k3x a (i+1) (i+1+a.sz) dp ((dp,b)::ks)else k3x a (i+1) nx dp ks)++k3x b (i+1+a.sz) nx dp ks)
theorem z0z:∀(t:Tr)(i nx dp:Nat)(ks:List (Nat × Tr)),(k3x t i nx dp ks).length=t.sz
 | .leaf x,i,nx,dp,ks=>rfl
 | .one x a,i,nx,dp,ks=>by rw[k3x,List.length_cons,z0z a,k4h];omega
 | .two x a b,i,nx,dp,ks=>by
  rw[k3x,List.length_cons,List.length_append,z0z b,z5u]
  split<;>rw[z0z a]<;>omega
theorem v1r(t:Tr)(i nx dp:Nat)(ks:List (Nat × Tr)):∃r,k3x t i nx dp ks=z7z t i nx dp ks::r:=by
 cases t<;>exact⟨_,rfl⟩
theorem z2t:∀(t:Tr)(i nx dp:Nat)(ks:List (Nat × Tr)),(k3x t i nx dp ks).map (·.nd)=t.N
 | .leaf x,i,nx,dp,ks=>rfl
 | .one x a,i,nx,dp,ks=>by rw[k3x,List.map_cons,z2t a];rfl
 | .two x a b,i,nx,dp,ks=>by
  rw[k3x,List.map_cons,List.map_append,z2t b]
  split<;>rw[z2t a]<;>rfl
def kont(R:List Pl)(i:Nat):List (Nat × Tr):=match R[i]? with|some r=>(r.dp,r.t)::r.ks|none=>[]
theorem j0c{R:List Pl}{i:Nat}(h:R.length<=i):kont R i=[]:=by rw[kont,List.getElem?_eq_none h]
structure Sp(R:List Pl)(L M:Nat)(i:Nat)(t:Tr)(nx dp:Nat)(ks:List (Nat × Tr)):Prop where
 pl:∃post,R.drop i=k3x t i nx dp ks++post
 kx:kont R nx=ks
 lo:i+t.sz<=nx
 hi:nx<=R.length
 wf:t.Wf
 bl:t.lf+lfK ks<=L
 bd:dp+t.dsum<=M
 bk:KB M ks
section
variable {R:List Pl} {L M i nx dp:Nat} {ks:List (Nat × Tr)} {t a b:Tr} {x:Nd}
theorem z0i{l:List Pl}{i:Nat}{r:Pl}{q:List Pl}(h:l.drop i=r::q):l[i]?=some r/\l.drop (i+1)=q:=by
 have hi:i<l.length:=by
  rcases Nat.lt_or_ge i l.length with h'|h'
  ·exact h'
  ·rw[List.drop_eq_nil_of_le h']at h;cases h
 rw[List.drop_eq_getElem_cons hi,List.cons.injEq]at h;exact⟨by rw[List.getElem?_eq_getElem hi,h.1],h.2⟩
theorem y4z{l p q:List Pl}{i:Nat}(h:l.drop i=p++q):l.drop (i+p.length)=q:=by rw[<-List.drop_drop,h,List.drop_left]
theorem Sp.get(h:Sp R L M i t nx dp ks):R[i]?=some (z7z t i nx dp ks):=by
 obtain⟨post,h⟩:=h.pl;obtain⟨r,e⟩:=v1r t i nx dp ks;rw[e]at h;exact(z0i h).1
theorem Sp.kont(h:Sp R L M i t nx dp ks):kont R i=(dp,t)::ks:=by rw[Proofs.YthcpdohdppkmkaaGreatDoor.kont,h.get];rfl
theorem Sp.lt(h:Sp R L M i t nx dp ks):i<R.length:=by have:=j1s t;have:=h.lo;have:=h.hi;omega
theorem Sp.one(h:Sp R L M i (.one x a) nx dp ks):Sp R L M (i+1) a nx (dp+x.n.toNat) ks where
 pl:=by
  obtain⟨post,e⟩:=h.pl;rw[k3x]at e;exact⟨post,(z0i e).2⟩
 kx:=h.kx
 lo:=by have:=h.lo;rw[k4h]at this;omega
 hi:=h.hi
 wf:=h.wf.2.2
 bl:=h.bl
 bd:=by
  have:=h.bd
  have h0:=q2b h.wf.1;simp only[Tr.dsum]at this;omega
 bk:=h.bk
theorem Sp.two2(h:Sp R L M i (.two x a b) nx dp ks):Sp R L M (i+1+a.sz) b nx dp ks where
 pl:=by
  obtain⟨post,e⟩:=h.pl;rw[k3x]at e;have e2:=(z0i (q:=_++post) e).2;rw[List.append_assoc]at e2;have e3:=y4z e2;refine⟨post,?_⟩;rw[<-e3]
  congr 1
  split<;>rw[z0z]
 kx:=h.kx
 lo:=by have:=h.lo;rw[z5u]at this;omega
 hi:=h.hi
 wf:=h.wf.2.2.2
 bl:=by have:=h.bl;simp only[Tr.lf]at this;omega
 bd:=by have:=h.bd;simp only[Tr.dsum]at this;omega
 bk:=h.bk
theorem Sp.both1(h:Sp R L M i (.two x a b) nx dp ks)(h6:x.op=6):Sp R L M (i+1) a (i+1+a.sz) dp ((dp,b)::ks) where
 pl:=by
  obtain⟨post,e⟩:=h.pl;rw[k3x,if_pos h6,List.cons_append,List.append_assoc]at e;exact⟨_,(z0i e).2⟩
 kx:=h.two2.kont
 lo:=Nat.le_refl _
 hi:=by have:=h.lo;have:=h.hi;rw[z5u]at *;omega
 wf:=h.wf.2.2.1
 bl:=by have:=h.bl;simp only[Tr.lf,lfK]at this⊢;omega
 bd:=by have:=h.bd;simp only[Tr.dsum]at this;omega
 bk:=by
  intro p hp;rcases List.mem_cons.1 hp with rfl|hp
  ·exact⟨by have:=h.bd;simp only[Tr.dsum]at this;dsimp only;omega,h.wf.2.2.2⟩
  ·exact h.bk p hp
theorem Sp.either1(h:Sp R L M i (.two x a b) nx dp ks)(h6:x.op≠6):Sp R L M (i+1) a nx dp ks where
 pl:=by
  obtain⟨post,e⟩:=h.pl;rw[k3x,if_neg h6,List.cons_append,List.append_assoc]at e;exact⟨_,(z0i e).2⟩
 kx:=h.kx
 lo:=by have:=h.lo;rw[z5u]at this;omega
 hi:=h.hi
 wf:=h.wf.2.2.1
 bl:=by have:=h.bl;simp only[Tr.lf]at this⊢;omega
 bd:=by have:=h.bd;simp only[Tr.dsum]at this;omega
 bk:=h.bk
theorem Sp.two1(h:Sp R L M i (.two x a b) nx dp ks):∃nx' ks',Sp R L M (i+1) a nx' dp ks':=by
 by_cases h6:x.op=6
 ·exact⟨_,_,h.both1 h6⟩
 ·exact⟨_,_,h.either1 h6⟩
end
theorem j1m{R:List Pl}{L M:Nat}:∀(t:Tr)(i nx dp:Nat)(ks:List (Nat × Tr)),Sp R L M i t nx dp ks->∀j,i<=j->j<i+t.sz->∃t' nx' dp' ks',Sp R L M j t' nx' dp' ks'
 | .leaf x,i,nx,dp,ks,h,j,h1,h2=>by
  rw[v2s]at h2;obtain rfl:j=i:=by omega
  exact⟨_,_,_,_,h⟩
 | .one x a,i,nx,dp,ks,h,j,h1,h2=>by
  rw[k4h]at h2;by_cases e:j=i
  ·subst e;exact⟨_,_,_,_,h⟩
  ·exact j1m a _ _ _ _ h.one j (by omega) (by omega)
 | .two x a b,i,nx,dp,ks,h,j,h1,h2=>by
  rw[z5u]at h2;by_cases e:j=i
  ·subst e;exact⟨_,_,_,_,h⟩
  ·by_cases e2:j<i+1+a.sz
   ·obtain⟨_,_,h'⟩:=h.two1;exact j1m a _ _ _ _ h' j (by omega) (by omega)
   ·exact j1m b _ _ _ _ h.two2 j (by omega) (by omega)
def j4z(R:List Pl)(L M:Nat)(p j:Nat):Prop:=(∃x a nx dp ks,Sp R L M p (.one x a) nx dp ks/\j=p+1)\/∃x a b nx dp ks,Sp R L M p (.two x a b) nx dp ks/\(j=p+1\/j=p+1+a.sz)
theorem j1b{R:List Pl}{L M:Nat}:∀(t:Tr)(i nx dp:Nat)(ks:List (Nat × Tr)),Sp R L M i t nx dp ks->∀j,i<j->j<i+t.sz->∃p,p<j/\j4z R L M p j
 | .leaf x,i,nx,dp,ks,h,j,h1,h2=>by rw[v2s]at h2;omega
 | .one x a,i,nx,dp,ks,h,j,h1,h2=>by
  rw[k4h]at h2;by_cases e:j=i+1
  ·exact⟨i,h1,.inl ⟨_,_,_,_,_,h,e⟩⟩
  ·exact j1b a _ _ _ _ h.one j (by omega) (by omega)
 | .two x a b,i,nx,dp,ks,h,j,h1,h2=>by
  rw[z5u]at h2;by_cases e:j=i+1
  ·exact⟨i,h1,.inr ⟨_,_,_,_,_,_,h,.inl e⟩⟩
  ·by_cases e3:j=i+1+a.sz
   ·exact⟨i,h1,.inr ⟨_,_,_,_,_,_,h,.inr e3⟩⟩
   ·by_cases e2:j<i+1+a.sz
    ·obtain⟨_,_,h'⟩:=h.two1;exact j1b a _ _ _ _ h' j (by omega) (by omega)
    ·exact j1b b _ _ _ _ h.two2 j (by omega) (by omega)
def q0a(t:Tr):List Pl:=k3x t 0 t.sz 0 []
theorem q2u(t:Tr):(q0a t).length=t.sz:=z0z t _ _ _ _
theorem k0l{t:Tr}(h:t.Wf):Sp (q0a t) t.lf t.dsum 0 t t.sz 0 [] where
 pl:=⟨[],by simp[q0a]⟩
 kx:=j0c (Nat.le_of_eq (q2u t))
 lo:=by omega
 hi:=Nat.le_of_eq (q2u t).symm
 wf:=h
 bl:=by simp[lfK]
 bd:=by simp
 bk:=by intro p hp;simp at hp
theorem v2k{t:Tr}(h:t.Wf){j:Nat}(hj:j<(q0a t).length):∃t' nx dp ks,Sp (q0a t) t.lf t.dsum j t' nx dp ks:=
 j1m t 0 _ _ _ (k0l h) j (Nat.zero_le _) (by rw[q2u]at hj;omega)
theorem k3v{t:Tr}(h:t.Wf){j:Nat}(h0:0<j)(hj:j<(q0a t).length):∃p,p<j/\j4z (q0a t) t.lf t.dsum p j:=
 j1b t 0 _ _ _ (k0l h) j h0 (by rw[q2u]at hj;omega)
/-! ### Moves and courses -/
def vv(R:List Pl)(wd i c:Nat):Crs:=bs wd c (kont R i)
theorem y3f{R:List Pl}{wd i c:Nat}(h:R.length<=i):vv R wd i c=((0,0),[]):=by rw[vv,j0c h,y9r]
theorem g6a{R:List Pl}{wd L M i c nx dp:Nat}{ks:List (Nat × Tr)}{t:Tr}(h:Sp R L M i t nx dp ks)(hm:L*(21+M)<=400000):(vv R wd i c).1.1<=400000/\(vv R wd i c).1.2<=400000:=by
 have h1:=y9q wd c M (kont R i) (by rw[h.kont];intro p hp;rcases List.mem_cons.1 hp with rfl|hp;exact⟨h.bd,h.wf⟩;exact h.bk p hp);have h2:lfK (kont R i)*(21+M)<=L*(21+M):=Nat.mul_le_mul_right _ (by rw[h.kont];exact h.bl);rw[vv];omega
structure Mv where
 np:Nat
 nc:Nat
 o:Nat
 l:Nat
def mvP(wd:Nat)(op:Int)(k nx dp lg e i c ch:Nat):Mv:=
 if op=1 then⟨nx,min (c+k) wd,c+k-wd,0⟩
 else if op=2\/op=3\/op=4 then⟨nx,min dp wd,dp-wd,1⟩
 else if op=5 then⟨nx,c,0,0⟩
 else if op=8/\ch=0 then⟨nx,min (c+lg) wd,c+lg-wd,0⟩
 else if op=9/\ch=1 then⟨e,c,0,0⟩
 else⟨i+1,c,0,0⟩
section
variable {wd k nx dp lg e i c ch:Nat} {op:Int}
theorem z9x(h:op=1):mvP wd op k nx dp lg e i c ch=⟨nx,min (c+k) wd,c+k-wd,0⟩:=by rw[mvP,if_pos h]
theorem z0v(h:op=2\/op=3\/op=4):mvP wd op k nx dp lg e i c ch=⟨nx,min dp wd,dp-wd,1⟩:=by rw[mvP,if_neg (by omega),if_pos h]
theorem z9y(h:op=5):mvP wd op k nx dp lg e i c ch=⟨nx,c,0,0⟩:=by rw[mvP,if_neg (by omega),if_neg (by omega),if_pos h]
theorem z9w(h:op=8)(h0:ch=0):mvP wd op k nx dp lg e i c ch=⟨nx,min (c+lg) wd,c+lg-wd,0⟩:=by rw[mvP,if_neg (by omega),if_neg (by omega),if_neg (by omega),if_pos ⟨h,h0⟩]
theorem z2n(h:op=9)(h0:ch=1):mvP wd op k nx dp lg e i c ch=⟨e,c,0,0⟩:=by rw[mvP,if_neg (by omega),if_neg (by omega),if_neg (by omega),if_neg (by omega),if_pos ⟨h,h0⟩]
theorem z0u(h:op=6\/op=7\/(op=8/\ch≠0)\/(op=9/\ch≠1)):mvP wd op k nx dp lg e i c ch=⟨i+1,c,0,0⟩:=by rw[mvP,if_neg (by omega),if_neg (by omega),if_neg (by omega),if_neg (by omega),if_neg (by omega)]
end
def mv(wd:Nat)(r:Pl)(e i c ch:Nat):Mv:=mvP wd r.nd.op r.nd.tx.size r.nx r.dp r.lg.toNat e i c ch
def z2j(op:Int):Bool:=decide (op=8)||decide (op=9)
structure Cv where
 o:Nat
 l:Nat
 ch:Nat
 np:Nat
 nc:Nat
def j7f(R:List Pl)(wd ch:Nat)(m:Mv):Cv:=⟨m.o+(vv R wd m.np m.nc).1.1,m.l+(vv R wd m.np m.nc).1.2,ch,m.np,m.nc⟩
def q1g(R:List Pl)(i:Nat):Pl:=R.getD i ⟨⟨0,⟨#[]⟩,0⟩,0,0,0,0,.leaf ⟨0,⟨#[]⟩,0⟩,[]⟩
theorem Sp.at{R:List Pl}{L M i nx dp:Nat}{ks:List (Nat × Tr)}{t:Tr}(h:Sp R L M i t nx dp ks):q1g R i=z7z t i nx dp ks:=by rw[q1g,List.getD,h.get];rfl
def q3h(R:List Pl)(wd i c ch:Nat):Mv:=mv wd (q1g R i) (q1g R (i+1)).en i c ch
def tkC(R:List Pl)(wd i c ch:Nat):Cv:=j7f R wd ch (q3h R wd i c ch)
def crs(R:List Pl)(wd i c:Nat):Cv:=
 if(q1g R i).lg=-1 then tkC R wd i c 1
 else if z2j (q1g R i).nd.op=false then tkC R wd i c 0
 else if q1q ((tkC R wd i c 1).o,(tkC R wd i c 1).l) ((tkC R wd i c 0).o,(tkC R wd i c 0).l)then tkC R wd i c 1 else tkC R wd i c 0
structure g6e(R:List Pl)(wd i:Nat)(m:Mv):Prop where
 lo:i<m.np
 hi:m.np<=R.length
 cl:m.nc<=wd
 bo:m.o<=20000
 bl:m.l<=1
section
variable {R:List Pl} {L M i nx dp wd c ch:Nat} {ks:List (Nat × Tr)} {t:Tr}
theorem g1b{a:Tr}(h:a.Wf)(hn:a.lf<=400):(lgF a.flat).toNat<=8000:=by
 cases hf:a.flat with
 | none=>simp[lgF]
 | some s=>have:=q9h a s h hf;simp[lgF];omega
theorem q4y{x:Nd}(h:Sp R L M i (.leaf x) nx dp ks):q3h R wd i c ch=mvP wd x.op x.tx.size nx dp 0 (q1g R (i+1)).en i c ch:=by rw[q3h,h.at];rfl
theorem q6s{x:Nd}{a:Tr}(h:Sp R L M i (.one x a) nx dp ks):q3h R wd i c ch=mvP wd x.op x.tx.size nx dp (Tr.lg (.one x a)).toNat (q1g R (i+1)).en i c ch:=by rw[q3h,h.at];rfl
theorem q8o{x:Nd}{a b:Tr}(h:Sp R L M i (.two x a b) nx dp ks):q3h R wd i c ch=mvP wd x.op x.tx.size nx dp 0 (i+1+a.sz) i c ch:=by
 obtain⟨nx',ks',hs⟩:=h.two1;rw[q3h,h.at,hs.at];rfl
theorem v0j(h:Sp R L M i t nx dp ks)(hc:c<=wd)(hw:wd<=100)(hL:L<=400)(hM:M<=3200):g6e R wd i (q3h R wd i c ch):=by
 have h1:=h.lo;have h2:=h.hi;have h3:=j1s t;have hbd:=h.bd;have hbl:=h.bl;cases t with
 | leaf x=>
  have hn:=q2b h.wf.1;rw[q4y h];rcases q5o h.wf.1 h.wf.2 with e|e|e|e|e
  ·rw[z9x e]
   have:=q4q (hn.2.2.2.2.1 e)
   exact⟨by dsimp only;omega,h2,Nat.min_le_right _ _,by dsimp only;omega,by simp⟩
  all_goals first
   | (rw[z0v (by omega)];exact⟨by dsimp only;omega,h2,Nat.min_le_right _ _,by dsimp only;omega,by simp⟩)
   | (rw[z9y (by omega)];exact⟨by dsimp only;omega,h2,hc,by simp,by simp⟩)
 | one x a=>
  have hs:=h.one;have hlt:=hs.lt;have h78:=z3e h.wf.2.1;rw[q6s h];by_cases h8:x.op=8/\ch=0
  ·rw[z9w h8.1 h8.2];have hlg:(Tr.lg (.one x a)).toNat<=8000:=by rw[Tr.lg,if_pos h8.1];exact g1b h.wf.2.2 (by simp only[Tr.lf]at hbl;omega)
   exact⟨by dsimp only;omega,h2,Nat.min_le_right _ _,by dsimp only;omega,by simp⟩
  ·rw[z0u (by omega)];exact⟨by simp,by dsimp only;omega,hc,by simp,by simp⟩
 | two x a b=>
  obtain⟨nx',ks',hs⟩:=h.two1;have hlt:=hs.lt;have hlt2:=h.two2.lt;have h69:=z1m h.wf.2.1;rw[q8o h];by_cases h9:x.op=9/\ch=1
  ·rw[z2n h9.1 h9.2];exact⟨by dsimp only;omega,by dsimp only;omega,hc,by simp,by simp⟩
  ·rw[z0u (by omega)];exact⟨by simp,by dsimp only;omega,hc,by simp,by simp⟩
theorem g2m(o l:Nat)(u:List Int)(a:Crs):q5q o l u a=((o+a.1.1,l+a.1.2),u++a.2):=rfl
theorem j7d(h:Sp R L M i t nx dp ks)(hc:c<=wd):
  vv R wd i c=(((crs R wd i c).o,(crs R wd i c).l),(if z2j t.root.op=true then [((crs R wd i c).ch:Int)]else [])++(vv R wd (crs R wd i c).np (crs R wd i c).nc).2)/\∃ch,(ch=0\/ch=1)/\crs R wd i c=tkC R wd i c ch:=by
 have hp:=h.at;have hk:=h.kont;have hx:=h.kx;refine⟨?_,?_⟩
 ·cases t with
  | leaf x=>
   have hlg:(q1g R i).lg≠-1:=by rw[hp];simp[z7z,Tr.lg]
   have hop:(q1g R i).nd.op=x.op:=by rw[hp];rfl
   have hch:z2j x.op=false:=by rcases q5o h.wf.1 h.wf.2 with e|e|e|e|e<;>simp[z2j,e]
   rw[crs,if_neg hlg,hop,if_pos hch,tkC,j7f,Tr.root,hch];dsimp only
   have hv:vv R wd i c=q5q (q3h R wd i c 0).o (q3h R wd i c 0).l [] (vv R wd (q3h R wd i c 0).np (q3h R wd i c 0).nc):=by
    rw[q4y h,vv,hk];rcases q5o h.wf.1 h.wf.2 with e|e|e|e|e
    ·rw[z9x e,y4e h.wf.1 e hc];dsimp only;rw[vv,hx]
    all_goals first
     | (rw[z0v (by omega),y4d (by omega)];dsimp only;rw[vv,hx])
     | (rw[z9y (by omega),y4f e];dsimp only;rw[vv,hx])
   rw[hv];rfl
  | one x a=>
   have h78:=z3e h.wf.2.1;have hop:(q1g R i).nd.op=x.op:=by rw[hp];rfl
   have hs:=h.one;have m1:q3h R wd i c 1=⟨i+1,c,0,0⟩:=by rw[q6s h,z0u (by omega)]
   rcases h78 with e|e
   ·have hlg:(q1g R i).lg≠-1:=by rw[hp];simp[z7z,Tr.lg,e]
    have hch:z2j x.op=false:=by simp[z2j,e]
    have m0:q3h R wd i c 0=⟨i+1,c,0,0⟩:=by rw[q6s h,z0u (by omega)]
    rw[crs,if_neg hlg,hop,if_pos hch,tkC,j7f,Tr.root,hch,m0];dsimp only;rw[vv,hk,y4a e,vv,hs.kont];simp
   ·have hch:z2j x.op=true:=by simp[z2j,e]
    have hlg:(q1g R i).lg=lgF a.flat:=by rw[hp];simp[z7z,Tr.lg,e]
    have hn0:x.n.toNat=0:=by have:=q2b h.wf.1;omega
    have ek:kont R (i+1)=(dp,a)::ks:=by rw[hs.kont,hn0];rfl
    cases hf:a.flat with
    | none=>
     rw[hf]at hlg;rw[crs,if_pos (show(q1g R i).lg=-1 from hlg),tkC,j7f,Tr.root,hch,m1];dsimp only;rw[vv,hk,y4c (by omega) hf,g2m,vv,ek];simp
    | some s=>
     rw[hf]at hlg;have hlg':(q1g R i).lg≠-1:=by rw[hlg,lgF];omega
     have m0:q3h R wd i c 0=⟨nx,min (c+s.length) wd,c+s.length-wd,0⟩:=by
      rw[q6s h,z9w e rfl,Tr.lg,if_pos e,hf];rfl
     rw[crs,if_neg hlg',hop,if_neg (by rw[hch];simp),Tr.root,hch];rw[vv,hk,v5k (by omega) h.wf.2.2 hf hc]
     have e0:tkC R wd i c 0=⟨(q5q (c+s.length-wd) 0 [0] (bs wd (min (c+s.length) wd) ks)).1.1,(q5q (c+s.length-wd) 0 [0] (bs wd (min (c+s.length) wd) ks)).1.2,0,nx,min (c+s.length) wd⟩:=by
      rw[tkC,j7f,m0];simp only[vv,hx,q5q]
     have e1:tkC R wd i c 1=⟨(q5q 0 0 [1] (bs wd c ((dp,a)::ks))).1.1,(q5q 0 0 [1] (bs wd c ((dp,a)::ks))).1.2,1,i+1,c⟩:=by
      rw[tkC,j7f,m1];simp only[vv,ek,q5q]
     rw[e0,e1];unfold j1f;dsimp only
     split
     ·simp only[if_true,vv,ek,q5q];rfl
     ·simp only[if_true,vv,hx,q5q];rfl
  | two x a b=>
   have h69:=z1m h.wf.2.1;have hop:(q1g R i).nd.op=x.op:=by rw[hp];rfl
   have hlg:(q1g R i).lg≠-1:=by rw[hp];simp[z7z,Tr.lg]
   have m0:q3h R wd i c 0=⟨i+1,c,0,0⟩:=by rw[q8o h,z0u (by omega)]
   rcases h69 with e|e
   ·have hch:z2j x.op=false:=by simp[z2j,e]
    rw[crs,if_neg hlg,hop,if_pos hch,tkC,j7f,Tr.root,hch,m0];dsimp only;rw[vv,hk,y3z e,vv,(h.both1 e).kont];simp
   ·have hch:z2j x.op=true:=by simp[z2j,e]
    have hs:=h.either1 (by omega);have hs2:=h.two2;have m1:q3h R wd i c 1=⟨i+1+a.sz,c,0,0⟩:=by rw[q8o h,z2n e rfl]
    rw[crs,if_neg hlg,hop,if_neg (by rw[hch];simp),Tr.root,hch];rw[vv,hk,j6f (by omega)]
    have e0:tkC R wd i c 0=⟨(q5q 0 0 [0] (bs wd c ((dp,a)::ks))).1.1,(q5q 0 0 [0] (bs wd c ((dp,a)::ks))).1.2,0,i+1,c⟩:=by
     rw[tkC,j7f,m0];simp only[vv,hs.kont,q5q]
    have e1:tkC R wd i c 1=⟨(q5q 0 0 [1] (bs wd c ((dp,b)::ks))).1.1,(q5q 0 0 [1] (bs wd c ((dp,b)::ks))).1.2,1,i+1+a.sz,c⟩:=by
     rw[tkC,j7f,m1];simp only[vv,hs2.kont,q5q]
    rw[e0,e1];unfold j1f;dsimp only
    split
    ·simp only[if_true,vv,hs2.kont,q5q];rfl
    ·simp only[if_true,vv,hs.kont,q5q];rfl
 ·unfold crs
  split
  ·exact⟨1,.inr rfl,rfl⟩
  ·split
   ·exact⟨0,.inl rfl,rfl⟩
   ·split
    ·exact⟨1,.inr rfl,rfl⟩
    ·exact⟨0,.inl rfl,rfl⟩
end
end Go.Proofs.YthcpdohdppkmkaaGreatDoor
namespace Go.Proofs.YthcpdohdppkmkaaGreatDoor
open Go Go.RowKit
def q0x(s:Nat)(w:World)(a:Option Addr)(ds:List Nd):Prop:=
 ∀i(h:i<ds.length),∃o,a=some ⟨s,o,none⟩/\w.cell? ⟨s,o+i*3,none⟩=some (.int .i64 ds[i].op)/\w.cell? ⟨s,o+i*3+1,none⟩=some (.string ds[i].tx)/\w.cell? ⟨s,o+i*3+2,none⟩=some (.int .i64 ds[i].n)
theorem q3p.s{w:World}{a:Option Addr}{ds:List Nd}(h:q3p w a ds)(h0:ds≠[]):∃s,s<w.heap.size/\q0x s w a ds:=by
 obtain⟨s,o,rfl,hs,_⟩:=h 0 (List.length_pos_iff.2 h0);refine⟨s,hs,fun i hi=>?_⟩;obtain⟨b,o',e,_,c⟩:=h i hi;simp only[Option.some.injEq,Addr.mk.injEq,and_true]at e;obtain⟨rfl,rfl⟩:=e;exact⟨o,rfl,c⟩
theorem q0x.nods{s:Nat}{w:World}{a:Option Addr}{ds:List Nd}(h:q0x s w a ds)(hs:s<w.heap.size):q3p w a ds:=by
 intro i hi;obtain⟨o,e,c⟩:=h i hi;exact⟨s,o,e,hs,c⟩
theorem q0x.kept{s:Nat}{w w':World}{a:Option Addr}{ds:List Nd}(h:q0x s w a ds)(hb:w'.heap[s]?=w.heap[s]?):q0x s w' a ds:=by
 intro i hi;obtain⟨o,e,c1,c2,c3⟩:=h i hi;have hc:∀j,w'.cell? ⟨s,j,none⟩=w.cell? ⟨s,j,none⟩:=fun j=>World.cell?_of_block (w:=w) (a:=⟨s,j,none⟩) hb
 exact⟨o,e,(hc _).trans c1,(hc _).trans c2,(hc _).trans c3⟩
theorem q0x.rest{s:Nat}{w:World}{o:Nat}{x:Nd}{ds:List Nd}(h:q0x s w (some ⟨s,o,none⟩) (x::ds)):q0x s w (some ⟨s,o+3,none⟩) ds:=by
 intro i hi;obtain⟨o',e,c1,c2,c3⟩:=h (i+1) (by simp;omega);simp only[Option.some.injEq,Addr.mk.injEq,and_true,true_and]at e;obtain rfl:=e;refine⟨o+3,rfl,?_,?_,?_⟩
 ·rw[show o+3+i*3=o+(i+1)*3 by omega];exact c1
 ·rw[show o+3+i*3+1=o+(i+1)*3+1 by omega];exact c2
 ·rw[show o+3+i*3+2=o+(i+1)*3+2 by omega];exact c3
theorem q0x.slid{s:Nat}{w:World}{o cap:Nat}{x:Nd}{ds:List Nd}(h:q0x s w (some ⟨s,o,none⟩) (x::ds))(hc:ds.length+1<=cap):
  q0x s w (if cap=1 then some ⟨s,o,none⟩else some ⟨s,o+3,none⟩) ds:=by
 by_cases h1:cap=1
 ·have:ds=[]:=List.eq_nil_of_length_eq_zero (by omega)
  subst this;exact fun i hi=>by simp at hi
 ·rw[if_neg h1];exact h.rest
structure Q where
 op:Int
 tx:ByteArray
 n:Int
 en:Int
 nx:Int
 dp:Int
 lg:Int
def q0:Q:=⟨0,⟨#[]⟩,0,0,0,0,0⟩
def q1(r:Pl):Q:=⟨r.nd.op,r.nd.tx,r.nd.n,r.en,0,0,0⟩
def q2(r:Pl):Q:=⟨r.nd.op,r.nd.tx,r.nd.n,r.en,r.nx,r.dp,r.lg⟩
structure z4h(w:World)(g j:Nat)(q:Q):Prop where
 c0:w.cell? ⟨g,j*7,none⟩=some (.int .i64 q.op)
 c1:w.cell? ⟨g,j*7+1,none⟩=some (.string q.tx)
 c2:w.cell? ⟨g,j*7+2,none⟩=some (.int .i64 q.n)
 c3:w.cell? ⟨g,j*7+3,none⟩=some (.int .i64 q.en)
 c4:w.cell? ⟨g,j*7+4,none⟩=some (.int .i64 q.nx)
 c5:w.cell? ⟨g,j*7+5,none⟩=some (.int .i64 q.dp)
 c6:w.cell? ⟨g,j*7+6,none⟩=some (.int .i64 q.lg)
def z4i(w:World)(b:Nat):Prop:=∃cs T,w.heap[b]?=some (.cells cs T (0,0))
theorem z4i.frozen{w:World}{b i:Nat}(h:z4i w b):w.frozen? ⟨b,i,none⟩=false:=by
 obtain⟨cs,T,h⟩:=h;simp[World.frozen?,h]
theorem z4i.lt{w:World}{b:Nat}(h:z4i w b):b<w.heap.size:=by
 obtain⟨cs,T,h⟩:=h;rcases Nat.lt_or_ge b w.heap.size with h'|h'
 ·exact h'
 ·simp[Array.getElem?_eq_none h']at h
theorem z4i.kept{w w':World}{b:Nat}(h:z4i w b)(hb:w'.heap[b]?=w.heap[b]?):z4i w' b:=by
 obtain⟨cs,T,h⟩:=h;exact⟨cs,T,hb.trans h⟩
theorem z4i.set{w:World}{b c i:Nat}{v:Value}(h:z4i w b):z4i (w.setCell ⟨c,i,none⟩ v) b:=by
 by_cases e:c=b
 ·subst e;obtain⟨cs,T,h⟩:=h;exact⟨cs.setIfInBounds i v,T,by simp[World.setCell,Array.getElem?_modify,h]⟩
 ·exact h.kept (Below.heap_setCell _ _ _ _ (Ne.symm e))
structure PwR(w:World)(g n:Nat)(F:Nat->Q):Prop where
 get:∀j,j<n->z4h w g j (F j)
 row:z4i w g
theorem z4h.kept{w w':World}{g j:Nat}{q:Q}(h:z4h w g j q)(hb:w'.heap[g]?=w.heap[g]?):z4h w' g j q:=by
 have hc:∀k,w'.cell? ⟨g,k,none⟩=w.cell? ⟨g,k,none⟩:=fun k=>World.cell?_of_block (w:=w) (a:=⟨g,k,none⟩) hb
 exact⟨(hc _).trans h.c0,(hc _).trans h.c1,(hc _).trans h.c2,(hc _).trans h.c3,(hc _).trans h.c4,(hc _).trans h.c5,(hc _).trans h.c6⟩
theorem PwR.kept{w w':World}{g n:Nat}{F:Nat->Q}(h:PwR w g n F)(hb:w'.heap[g]?=w.heap[g]?):PwR w' g n F:=⟨fun j hj=>(h.get j hj).kept hb,h.row.kept hb⟩
theorem PwR.congr{w:World}{g n:Nat}{F G:Nat->Q}(h:PwR w g n F)(e:∀j,j<n->F j=G j):PwR w g n G:=⟨fun j hj=>e j hj ▸ h.get j hj,h.row⟩
theorem z4h.other{w:World}{g j k f:Nat}{q:Q}{v:Value}(h:z4h w g k q)(hf:f<7)(hk:k≠j):z4h (w.setCell ⟨g,j*7+f,none⟩ v) g k q:=
 ⟨(cso (by omega)).trans h.c0,(cso (by omega)).trans h.c1,(cso (by omega)).trans h.c2,(cso (by omega)).trans h.c3,(cso (by omega)).trans h.c4,(cso (by omega)).trans h.c5,(cso (by omega)).trans h.c6⟩
def upd(F:Nat->Q)(j:Nat)(q:Q):Nat->Q:=fun k=>if k=j then q else F k
theorem q0o(F:Nat->Q)(j:Nat)(q:Q):upd F j q j=q:=by simp[upd]
theorem q1b{F:Nat->Q}{j k:Nat}{q:Q}(h:k≠j):upd F j q k=F k:=by simp[upd,h]
theorem PwR.put{w:World}{g n j f:Nat}{F:Nat->Q}{v:Value}{q:Q}(h:PwR w g n F)(hf:f<7)(hq:z4h (w.setCell ⟨g,j*7+f,none⟩ v) g j q):PwR (w.setCell ⟨g,j*7+f,none⟩ v) g n (upd F j q) where
 get k hk:=by
  by_cases e:k=j
  ·subst e;rw[q0o];exact hq
  ·rw[q1b e];exact(h.get k hk).other hf e
 row:=h.row.set
section
variable {w:World} {g n j:Nat} {F:Nat→Q}
theorem PwR.putOp(h:PwR w g n F)(hj:j<n)(x:Int):PwR (w.setCell ⟨g,j*7,none⟩ (.int .i64 x)) g n (upd F j {F j with op:=x}):=by
 have k:=h.get j hj;exact h.put (f:=0) (by omega) ⟨css k.c0,(cso (by omega)).trans k.c1,(cso (by omega)).trans k.c2,(cso (by omega)).trans k.c3,(cso (by omega)).trans k.c4,(cso (by omega)).trans k.c5,(cso (by omega)).trans k.c6⟩
theorem PwR.putTx(h:PwR w g n F)(hj:j<n)(x:ByteArray):PwR (w.setCell ⟨g,j*7+1,none⟩ (.string x)) g n (upd F j {F j with tx:=x}):=by
 have k:=h.get j hj;exact h.put (f:=1) (by omega) ⟨(cso (by omega)).trans k.c0,css k.c1,(cso (by omega)).trans k.c2,(cso (by omega)).trans k.c3,(cso (by omega)).trans k.c4,(cso (by omega)).trans k.c5,(cso (by omega)).trans k.c6⟩
theorem PwR.putN(h:PwR w g n F)(hj:j<n)(x:Int):PwR (w.setCell ⟨g,j*7+2,none⟩ (.int .i64 x)) g n (upd F j {F j with n:=x}):=by
 have k:=h.get j hj;exact h.put (f:=2) (by omega) ⟨(cso (by omega)).trans k.c0,(cso (by omega)).trans k.c1,css k.c2,(cso (by omega)).trans k.c3,(cso (by omega)).trans k.c4,(cso (by omega)).trans k.c5,(cso (by omega)).trans k.c6⟩
theorem PwR.putEn(h:PwR w g n F)(hj:j<n)(x:Int):PwR (w.setCell ⟨g,j*7+3,none⟩ (.int .i64 x)) g n (upd F j {F j with en:=x}):=by
 have k:=h.get j hj;exact h.put (f:=3) (by omega) ⟨(cso (by omega)).trans k.c0,(cso (by omega)).trans k.c1,(cso (by omega)).trans k.c2,css k.c3,(cso (by omega)).trans k.c4,(cso (by omega)).trans k.c5,(cso (by omega)).trans k.c6⟩
theorem PwR.putNx(h:PwR w g n F)(hj:j<n)(x:Int):PwR (w.setCell ⟨g,j*7+4,none⟩ (.int .i64 x)) g n (upd F j {F j with nx:=x}):=by
 have k:=h.get j hj;exact h.put (f:=4) (by omega) ⟨(cso (by omega)).trans k.c0,(cso (by omega)).trans k.c1,(cso (by omega)).trans k.c2,(cso (by omega)).trans k.c3,css k.c4,(cso (by omega)).trans k.c5,(cso (by omega)).trans k.c6⟩
theorem PwR.putDp(h:PwR w g n F)(hj:j<n)(x:Int):PwR (w.setCell ⟨g,j*7+5,none⟩ (.int .i64 x)) g n (upd F j {F j with dp:=x}):=by
 have k:=h.get j hj;exact h.put (f:=5) (by omega) ⟨(cso (by omega)).trans k.c0,(cso (by omega)).trans k.c1,(cso (by omega)).trans k.c2,(cso (by omega)).trans k.c3,(cso (by omega)).trans k.c4,css k.c5,(cso (by omega)).trans k.c6⟩
theorem PwR.putLg(h:PwR w g n F)(hj:j<n)(x:Int):PwR (w.setCell ⟨g,j*7+6,none⟩ (.int .i64 x)) g n (upd F j {F j with lg:=x}):=by
 have k:=h.get j hj;exact h.put (f:=6) (by omega) ⟨(cso (by omega)).trans k.c0,(cso (by omega)).trans k.c1,(cso (by omega)).trans k.c2,(cso (by omega)).trans k.c3,(cso (by omega)).trans k.c4,(cso (by omega)).trans k.c5,css k.c6⟩
end
theorem k1g(F:Nat->Q)(j:Nat)(p q:Q):upd (upd F j p) j q=upd F j q:=by
 funext k
 simp only[upd]
 split<;>rfl
theorem ka{w:World}{b o:Nat}{v:Value}(h:w.cell? ⟨b,o,none⟩=some v)(O:Obj):(w.alloc O).cell? ⟨b,o,none⟩=some v:=
 (((Below.refl _ w).alloc Zl O).cell (p:=⟨b,o,none⟩) (World.block_lt_of_cell? w _ h)).trans h
theorem kaf{w:World}{b o:Nat}(hb:b<w.heap.size)(h:w.frozen? ⟨b,o,none⟩=false)(O:Obj):(w.alloc O).frozen? ⟨b,o,none⟩=false:=
 (((Below.refl _ w).alloc Zl O).frozen (p:=⟨b,o,none⟩) hb).trans h
theorem z6y{i n:Nat}(hn:n<=400)(hi:(i:Int)<n):IntKind.i64.wrap ((i:Int)+1)=(i:Int)+1:=by
 rw[IntKind.wrap_i64];omega
set_option maxRecDepth 100000
set_option maxHeartbeats 4000000
theorem j5u(bp g n i:Nat)(op:Int)(w:World)(hn:n<=400)(hi:(i:Int)<n)
  (c0:w.cell? ⟨bp,0,none⟩=some (.slice (some ⟨g,0,none⟩) n n)) (d1:w.cell? ⟨g,i*7,none⟩=some (.int .i64 op)) (h6:(op==6)=false) (h9:(op==9)=false) (h7:(op==7)=false) (h8:(op==8)=false):
  Calls prog 107 #[.pointer (some ⟨bp,0,none⟩),.int .i64 i] w fun e w'=>e=.returned (.int .i64 ((i:Int)+1))/\∃q,w'=w.drewN q:=by
 have hw1:=z6y hn hi;have hp0:(0:Int)<=(i:Int):=by omega
 go_in;go_wp2;go_ret;exact⟨rfl,0,rfl⟩
theorem v5f(bp g n i:Nat)(op x:Int)(w:World)(hn:n<=400)(hi:(i:Int)<n)(hi1:(i:Int)+1<n)
  (c0:w.cell? ⟨bp,0,none⟩=some (.slice (some ⟨g,0,none⟩) n n)) (d1:w.cell? ⟨g,i*7,none⟩=some (.int .i64 op)) (d2:w.cell? ⟨g,(i+1)*7+3,none⟩=some (.int .i64 x)) (hop:op=7\/op=8):
  Calls prog 107 #[.pointer (some ⟨bp,0,none⟩),.int .i64 i] w fun e w'=>e=.returned (.int .i64 x)/\∃q,w'=w.drewN q:=by
 have hw1:=z6y hn hi;have hp0:(0:Int)<=(i:Int):=by omega
 have hp1:(0:Int)<=(i:Int)+1:=by omega
 have htn:((i:Int)+1).toNat=i+1:=by omega
 rcases hop with rfl|rfl
 all_goals
  go_in;go_wp2;go_ret;exact⟨rfl,0,rfl⟩
theorem v5g(bp g n i j:Nat)(op x:Int)(w:World)(hn:n<=400)(hi:(i:Int)<n)(hi1:(i:Int)+1<n)(hj:(j:Int)<n)
  (c0:w.cell? ⟨bp,0,none⟩=some (.slice (some ⟨g,0,none⟩) n n)) (d1:w.cell? ⟨g,i*7,none⟩=some (.int .i64 op)) (d2:w.cell? ⟨g,(i+1)*7+3,none⟩=some (.int .i64 (j:Int))) (d3:w.cell? ⟨g,j*7+3,none⟩=some (.int .i64 x)) (hop:op=6\/op=9):
  Calls prog 107 #[.pointer (some ⟨bp,0,none⟩),.int .i64 i] w fun e w'=>e=.returned (.int .i64 x)/\∃q,w'=w.drewN q:=by
 have hw1:=z6y hn hi;have hp0:(0:Int)<=(i:Int):=by omega
 have hp1:(0:Int)<=(i:Int)+1:=by omega
 have htn:((i:Int)+1).toNat=i+1:=by omega
 have hpj:(0:Int)<=(j:Int):=by omega
 rcases hop with rfl|rfl
 all_goals
  go_in;go_wp2_with fail
  go_quiet (fail)
  go_wp2;go_ret;exact⟨rfl,_,rfl⟩
def y9f(g a b:Nat)(e f:Value)(w w':World):Prop:=
 w'.os=w.os/\w'.tape=w.tape/\w'.output=w.output/\w'.heap=((w.setCell ⟨g,a,none⟩ e).setCell ⟨g,b,none⟩ f).heap
theorem j6k(bp g n i:Nat)(x y:Int)(w:World)(hi:(i:Int)<n)
  (c0:w.cell? ⟨bp,0,none⟩=some (.slice (some ⟨g,0,none⟩) n n)) (y1 y2:Value) (e5:w.cell? ⟨g,i*7+4,none⟩=some y1) (e6:w.cell? ⟨g,i*7+5,none⟩=some y2) (z1:w.frozen? ⟨g,i*7+4,none⟩=false) (z2:w.frozen? ⟨g,i*7+5,none⟩=false):
  Calls prog 178 #[.pointer (some ⟨bp,0,none⟩),.int .i64 i,.int .i64 x,.int .i64 y] w fun e w'=>e=.returned (.tuple #[])/\y9f g (i*7+4) (i*7+5) (.int .i64 x) (.int .i64 y) w w':=by
 have hp0:(0:Int)<=(i:Int):=by omega
 go_in
 go_region_held3 (fun w'=>w'.cell? ⟨bp,0,none⟩=some (.slice (some ⟨g,0,none⟩) n n))
  (first|exact c0|exact(cso (by omega)).trans c0|exact(cso (by omega)).trans ((cso (by omega)).trans c0)) (fail)
 all_goals
  go_wp2
  go_end0
  exact⟨rfl,rfl,rfl,rfl,rfl⟩
end Go.Proofs.YthcpdohdppkmkaaGreatDoor
