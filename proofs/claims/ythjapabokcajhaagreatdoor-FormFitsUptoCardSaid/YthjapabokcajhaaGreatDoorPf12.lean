/- Texts as one: BstT, NodS, Pm0. -/
import Derived.Test.YthjapabokcajhaaGreatDoorPf04
import Derived.Test.YthjapabokcajhaaGreatDoorPf03
import Derived.Test.YthjapabokcajhaaGreatDoorPf05
import Derived.Test.YthjapabokcajhaaGreatDoorPf08
import Derived.Deep.RegionHeld3
import Derived.Deep.OwnRows
import Derived.Deep.DeepCutAuto
import Derived.BigQuiet
import Derived.BigRegion
namespace Go.Proofs.YthjapabokcajhaaGreatDoor
structure Pl where
 nd:Nd
 en:Nat
 nx:Nat
 dp:Nat
 lg:Int
 t:Tr
 ks:List (Nat × Tr)
def Tr.root:Tr->Nd
 | .leaf x=>x
 | .one x _=>x
 | .two x _ _=>x
def lgF:Option (List UInt8)->Int
 | none=>-1
 | some s=>(s.length:Int)
def Tr.lg:Tr->Int
 | .one x a=>if x.op=8 then lgF a.flat else 0
 | _=>0
def Tr.sz(t:Tr):Nat:=t.nodes.length
theorem k7j(x:Nd):(Tr.leaf x).sz=1:=rfl
theorem z5i(x:Nd)(a:Tr):(Tr.one x a).sz=1+a.sz:=by simp[Tr.sz,Tr.nodes];omega
theorem q9x(x:Nd)(a b:Tr):(Tr.two x a b).sz=1+a.sz+b.sz:=by simp[Tr.sz,Tr.nodes];omega
theorem z9l(t:Tr):0<t.sz:=t.pos
def z1g(t:Tr)(i nx dp:Nat)(ks:List (Nat × Tr)):Pl:=⟨t.root,i+t.sz,nx,dp,t.lg,t,ks⟩
def z5e:Tr->Nat->Nat->Nat->List (Nat × Tr)->List Pl
 | .leaf x,i,nx,dp,ks=>[z1g (.leaf x) i nx dp ks]
 | .one x a,i,nx,dp,ks=>z1g (.one x a) i nx dp ks::z5e a (i+1) nx (dp+x.n.toNat) ks
 | .two x a b,i,nx,dp,ks=>z1g (.two x a b) i nx dp ks::((if x.op=6 then z5e a (i+1) (i+1+a.sz) dp ((dp,b)::ks)else z5e a (i+1) nx dp ks)++z5e b (i+1+a.sz) nx dp ks)
theorem q7c:∀(t:Tr)(i nx dp:Nat)(ks:List (Nat × Tr)),(z5e t i nx dp ks).length=t.sz
 | .leaf x,i,nx,dp,ks=>rfl
 | .one x a,i,nx,dp,ks=>by rw[z5e,List.length_cons,q7c a,z5i];omega
 | .two x a b,i,nx,dp,ks=>by
  rw[z5e,List.length_cons,List.length_append,q7c b,q9x]
  split<;>rw[q7c a]<;>omega
theorem k6q(t:Tr)(i nx dp:Nat)(ks:List (Nat × Tr)):∃r,z5e t i nx dp ks=z1g t i nx dp ks::r:=by
 cases t<;>exact⟨_,rfl⟩
theorem q8d:∀(t:Tr)(i nx dp:Nat)(ks:List (Nat × Tr)),(z5e t i nx dp ks).map (·.nd)=t.nodes
 | .leaf x,i,nx,dp,ks=>rfl
 | .one x a,i,nx,dp,ks=>by rw[z5e,List.map_cons,q8d a];rfl
 | .two x a b,i,nx,dp,ks=>by
  rw[z5e,List.map_cons,List.map_append,q8d b]
  split<;>rw[q8d a]<;>rfl
def kont(R:List Pl)(i:Nat):List (Nat × Tr):=match R[i]? with|some r=>(r.dp,r.t)::r.ks|none=>[]
theorem z8k{R:List Pl}{i:Nat}(h:R.length<=i):kont R i=[]:=by rw[kont,List.getElem?_eq_none h]
structure Sp(R:List Pl)(L M:Nat)(i:Nat)(t:Tr)(nx dp:Nat)(ks:List (Nat × Tr)):Prop where
 pl:∃post,R.drop i=z5e t i nx dp ks++post
 kx:kont R nx=ks
 lo:i+t.sz<=nx
 hi:nx<=R.length
 wf:t.Wf
 bl:t.lf+lfK ks<=L
 bd:dp+t.dsum<=M
 bk:KB M ks
section
variable {R:List Pl} {L M i nx dp:Nat} {ks:List (Nat × Tr)} {t a b:Tr} {x:Nd}
theorem q6s{l:List Pl}{i:Nat}{r:Pl}{q:List Pl}(h:l.drop i=r::q):l[i]?=some r/\l.drop (i+1)=q:=by
 have hi:i<l.length:=by
  rcases Nat.lt_or_ge i l.length with h'|h'
  ·exact h'
  ·rw[List.drop_eq_nil_of_le h']at h;cases h
 rw[List.drop_eq_getElem_cons hi,List.cons.injEq]at h;exact⟨by rw[List.getElem?_eq_getElem hi,h.1],h.2⟩
theorem j5p{l p q:List Pl}{i:Nat}(h:l.drop i=p++q):l.drop (i+p.length)=q:=by rw[<-List.drop_drop,h,List.drop_left]
theorem Sp.get(h:Sp R L M i t nx dp ks):R[i]?=some (z1g t i nx dp ks):=by
 obtain⟨post,h⟩:=h.pl;obtain⟨r,e⟩:=k6q t i nx dp ks;rw[e]at h;exact(q6s h).1
theorem Sp.kont(h:Sp R L M i t nx dp ks):kont R i=(dp,t)::ks:=by rw[Proofs.YthjapabokcajhaaGreatDoor.kont,h.get];rfl
theorem Sp.lt(h:Sp R L M i t nx dp ks):i<R.length:=by have:=z9l t;have:=h.lo;have:=h.hi;omega
theorem Sp.one(h:Sp R L M i (.one x a) nx dp ks):Sp R L M (i+1) a nx (dp+x.n.toNat) ks where
 pl:=by
  obtain⟨post,e⟩:=h.pl;rw[z5e]at e;exact⟨post,(q6s e).2⟩
 kx:=h.kx
 lo:=by have:=h.lo;rw[z5i]at this;omega
 hi:=h.hi
 wf:=h.wf.2.2
 bl:=h.bl
 bd:=by
  have:=h.bd
  have h0:=q1l h.wf.1;simp only[Tr.dsum]at this;omega
 bk:=h.bk
theorem Sp.two2(h:Sp R L M i (.two x a b) nx dp ks):Sp R L M (i+1+a.sz) b nx dp ks where
 pl:=by
  obtain⟨post,e⟩:=h.pl;rw[z5e]at e;have e2:=(q6s (q:=_++post) e).2;rw[List.append_assoc]at e2;have e3:=j5p e2;refine⟨post,?_⟩;rw[<-e3]
  congr 1
  split<;>rw[q7c]
 kx:=h.kx
 lo:=by have:=h.lo;rw[q9x]at this;omega
 hi:=h.hi
 wf:=h.wf.2.2.2
 bl:=by have:=h.bl;simp only[Tr.lf]at this;omega
 bd:=by have:=h.bd;simp only[Tr.dsum]at this;omega
 bk:=h.bk
theorem Sp.both1(h:Sp R L M i (.two x a b) nx dp ks)(h6:x.op=6):Sp R L M (i+1) a (i+1+a.sz) dp ((dp,b)::ks) where
 pl:=by
  obtain⟨post,e⟩:=h.pl;rw[z5e,if_pos h6,List.cons_append,List.append_assoc]at e;exact⟨_,(q6s e).2⟩
 kx:=h.two2.kont
 lo:=Nat.le_refl _
 hi:=by have:=h.lo;have:=h.hi;rw[q9x]at *;omega
 wf:=h.wf.2.2.1
 bl:=by have:=h.bl;simp only[Tr.lf,lfK]at this⊢;omega
 bd:=by have:=h.bd;simp only[Tr.dsum]at this;omega
 bk:=by
  intro p hp;rcases List.mem_cons.1 hp with rfl|hp
  ·exact⟨by have:=h.bd;simp only[Tr.dsum]at this;dsimp only;omega,h.wf.2.2.2⟩
  ·exact h.bk p hp
theorem Sp.either1(h:Sp R L M i (.two x a b) nx dp ks)(h6:x.op≠6):Sp R L M (i+1) a nx dp ks where
 pl:=by
  obtain⟨post,e⟩:=h.pl;rw[z5e,if_neg h6,List.cons_append,List.append_assoc]at e;exact⟨_,(q6s e).2⟩
 kx:=h.kx
 lo:=by have:=h.lo;rw[q9x]at this;omega
 hi:=h.hi
 wf:=h.wf.2.2.1
 bl:=by have:=h.bl;simp only[Tr.lf]at this⊢;omega
 bd:=by have:=h.bd;simp only[Tr.dsum]at this;omega
 bk:=h.bk
theorem Sp.two1(h:Sp R L M i (.two x a b) nx dp ks):∃nx' ks',Sp R L M (i+1) a nx' dp ks':=by
 by_cases h6:x.op=6
 ·exact⟨_,_,h.both1 h6⟩
 ·exact⟨_,_,h.either1 h6⟩
end
theorem z9e{R:List Pl}{L M:Nat}:∀(t:Tr)(i nx dp:Nat)(ks:List (Nat × Tr)),Sp R L M i t nx dp ks->∀j,i<=j->j<i+t.sz->∃t' nx' dp' ks',Sp R L M j t' nx' dp' ks'
 | .leaf x,i,nx,dp,ks,h,j,h1,h2=>by
  rw[k7j]at h2;obtain rfl:j=i:=by omega
  exact⟨_,_,_,_,h⟩
 | .one x a,i,nx,dp,ks,h,j,h1,h2=>by
  rw[z5i]at h2;by_cases e:j=i
  ·subst e;exact⟨_,_,_,_,h⟩
  ·exact z9e a _ _ _ _ h.one j (by omega) (by omega)
 | .two x a b,i,nx,dp,ks,h,j,h1,h2=>by
  rw[q9x]at h2;by_cases e:j=i
  ·subst e;exact⟨_,_,_,_,h⟩
  ·by_cases e2:j<i+1+a.sz
   ·obtain⟨_,_,h'⟩:=h.two1;exact z9e a _ _ _ _ h' j (by omega) (by omega)
   ·exact z9e b _ _ _ _ h.two2 j (by omega) (by omega)
def k1m(R:List Pl)(L M:Nat)(p j:Nat):Prop:=(∃x a nx dp ks,Sp R L M p (.one x a) nx dp ks/\j=p+1)\/∃x a b nx dp ks,Sp R L M p (.two x a b) nx dp ks/\(j=p+1\/j=p+1+a.sz)
theorem z9a{R:List Pl}{L M:Nat}:∀(t:Tr)(i nx dp:Nat)(ks:List (Nat × Tr)),Sp R L M i t nx dp ks->∀j,i<j->j<i+t.sz->∃p,p<j/\k1m R L M p j
 | .leaf x,i,nx,dp,ks,h,j,h1,h2=>by rw[k7j]at h2;omega
 | .one x a,i,nx,dp,ks,h,j,h1,h2=>by
  rw[z5i]at h2;by_cases e:j=i+1
  ·exact⟨i,h1,.inl ⟨_,_,_,_,_,h,e⟩⟩
  ·exact z9a a _ _ _ _ h.one j (by omega) (by omega)
 | .two x a b,i,nx,dp,ks,h,j,h1,h2=>by
  rw[q9x]at h2;by_cases e:j=i+1
  ·exact⟨i,h1,.inr ⟨_,_,_,_,_,_,h,.inl e⟩⟩
  ·by_cases e3:j=i+1+a.sz
   ·exact⟨i,h1,.inr ⟨_,_,_,_,_,_,h,.inr e3⟩⟩
   ·by_cases e2:j<i+1+a.sz
    ·obtain⟨_,_,h'⟩:=h.two1;exact z9a a _ _ _ _ h' j (by omega) (by omega)
    ·exact z9a b _ _ _ _ h.two2 j (by omega) (by omega)
def q0a(t:Tr):List Pl:=z5e t 0 t.sz 0 []
theorem q1t(t:Tr):(q0a t).length=t.sz:=q7c t _ _ _ _
theorem z3e{t:Tr}(h:t.Wf):Sp (q0a t) t.lf t.dsum 0 t t.sz 0 [] where
 pl:=⟨[],by simp[q0a]⟩
 kx:=z8k (Nat.le_of_eq (q1t t))
 lo:=by omega
 hi:=Nat.le_of_eq (q1t t).symm
 wf:=h
 bl:=by simp[lfK]
 bd:=by simp
 bk:=by intro p hp;simp at hp
theorem k7e{t:Tr}(h:t.Wf){j:Nat}(hj:j<(q0a t).length):∃t' nx dp ks,Sp (q0a t) t.lf t.dsum j t' nx dp ks:=
 z9e t 0 _ _ _ (z3e h) j (Nat.zero_le _) (by rw[q1t]at hj;omega)
theorem z5d{t:Tr}(h:t.Wf){j:Nat}(h0:0<j)(hj:j<(q0a t).length):∃p,p<j/\k1m (q0a t) t.lf t.dsum p j:=
 z9a t 0 _ _ _ (z3e h) j h0 (by rw[q1t]at hj;omega)
/-! ### Moves and courses -/
def vv(R:List Pl)(wd i c:Nat):Crs:=bs wd c (kont R i)
theorem j4a{R:List Pl}{wd i c:Nat}(h:R.length<=i):vv R wd i c=((0,0),[]):=by rw[vv,z8k h,j8l]
theorem v2r{R:List Pl}{wd L M i c nx dp:Nat}{ks:List (Nat × Tr)}{t:Tr}(h:Sp R L M i t nx dp ks)(hm:L*(21+M)<=400000):(vv R wd i c).1.1<=400000/\(vv R wd i c).1.2<=400000:=by
 have h1:=v1q wd c M (kont R i) (by rw[h.kont];intro p hp;rcases List.mem_cons.1 hp with rfl|hp;exact⟨h.bd,h.wf⟩;exact h.bk p hp);have h2:lfK (kont R i)*(21+M)<=L*(21+M):=Nat.mul_le_mul_right _ (by rw[h.kont];exact h.bl);rw[vv];omega
structure Mv where
 np:Nat
 nc:Nat
 o:Nat
 l:Nat
def mvP(wd:Nat)(op:Int)(k nx dp lg e i c ch:Nat):Mv:=
 if op=1 then⟨nx,min (c+k) wd,c+k-wd,0⟩
 else if op=2\/op=3\/op=4 then⟨nx,min dp wd,dp-wd,1⟩
 else if op=5 then⟨nx,c,0,0⟩
 else if op=8/\ch=0 then⟨nx,min (c+lg) wd,c+lg-wd,0⟩
 else if op=9/\ch=1 then⟨e,c,0,0⟩
 else⟨i+1,c,0,0⟩
section
variable {wd k nx dp lg e i c ch:Nat} {op:Int}
theorem z2v(h:op=1):mvP wd op k nx dp lg e i c ch=⟨nx,min (c+k) wd,c+k-wd,0⟩:=by rw[mvP,if_pos h]
theorem q6z(h:op=2\/op=3\/op=4):mvP wd op k nx dp lg e i c ch=⟨nx,min dp wd,dp-wd,1⟩:=by rw[mvP,if_neg (by omega),if_pos h]
theorem z2w(h:op=5):mvP wd op k nx dp lg e i c ch=⟨nx,c,0,0⟩:=by rw[mvP,if_neg (by omega),if_neg (by omega),if_pos h]
theorem z2u(h:op=8)(h0:ch=0):mvP wd op k nx dp lg e i c ch=⟨nx,min (c+lg) wd,c+lg-wd,0⟩:=by rw[mvP,if_neg (by omega),if_neg (by omega),if_neg (by omega),if_pos ⟨h,h0⟩]
theorem q8b(h:op=9)(h0:ch=1):mvP wd op k nx dp lg e i c ch=⟨e,c,0,0⟩:=by rw[mvP,if_neg (by omega),if_neg (by omega),if_neg (by omega),if_neg (by omega),if_pos ⟨h,h0⟩]
theorem q6y(h:op=6\/op=7\/(op=8/\ch≠0)\/(op=9/\ch≠1)):mvP wd op k nx dp lg e i c ch=⟨i+1,c,0,0⟩:=by rw[mvP,if_neg (by omega),if_neg (by omega),if_neg (by omega),if_neg (by omega),if_neg (by omega)]
end
def mv(wd:Nat)(r:Pl)(e i c ch:Nat):Mv:=mvP wd r.nd.op r.nd.tx.size r.nx r.dp r.lg.toNat e i c ch
def q7m(op:Int):Bool:=decide (op=8)||decide (op=9)
structure Cv where
 o:Nat
 l:Nat
 ch:Nat
 np:Nat
 nc:Nat
def k2z(R:List Pl)(wd ch:Nat)(m:Mv):Cv:=⟨m.o+(vv R wd m.np m.nc).1.1,m.l+(vv R wd m.np m.nc).1.2,ch,m.np,m.nc⟩
def q0y(R:List Pl)(i:Nat):Pl:=R.getD i ⟨⟨0,⟨#[]⟩,0⟩,0,0,0,0,.leaf ⟨0,⟨#[]⟩,0⟩,[]⟩
theorem Sp.at{R:List Pl}{L M i nx dp:Nat}{ks:List (Nat × Tr)}{t:Tr}(h:Sp R L M i t nx dp ks):q0y R i=z1g t i nx dp ks:=by rw[q0y,List.getD,h.get];rfl
def q2c(R:List Pl)(wd i c ch:Nat):Mv:=mv wd (q0y R i) (q0y R (i+1)).en i c ch
def tkC(R:List Pl)(wd i c ch:Nat):Cv:=k2z R wd ch (q2c R wd i c ch)
def crs(R:List Pl)(wd i c:Nat):Cv:=
 if(q0y R i).lg=-1 then tkC R wd i c 1
 else if q7m (q0y R i).nd.op=false then tkC R wd i c 0
 else if q2f ((tkC R wd i c 1).o,(tkC R wd i c 1).l) ((tkC R wd i c 0).o,(tkC R wd i c 0).l)then tkC R wd i c 1 else tkC R wd i c 0
structure v2u(R:List Pl)(wd i:Nat)(m:Mv):Prop where
 lo:i<m.np
 hi:m.np<=R.length
 cl:m.nc<=wd
 bo:m.o<=20000
 bl:m.l<=1
section
variable {R:List Pl} {L M i nx dp wd c ch:Nat} {ks:List (Nat × Tr)} {t:Tr}
theorem j9l{a:Tr}(h:a.Wf)(hn:a.lf<=400):(lgF a.flat).toNat<=8000:=by
 cases hf:a.flat with
 | none=>simp[lgF]
 | some s=>have:=q5y a s h hf;simp[lgF];omega
theorem q2y{x:Nd}(h:Sp R L M i (.leaf x) nx dp ks):q2c R wd i c ch=mvP wd x.op x.tx.size nx dp 0 (q0y R (i+1)).en i c ch:=by rw[q2c,h.at];rfl
theorem q4d{x:Nd}{a:Tr}(h:Sp R L M i (.one x a) nx dp ks):q2c R wd i c ch=mvP wd x.op x.tx.size nx dp (Tr.lg (.one x a)).toNat (q0y R (i+1)).en i c ch:=by rw[q2c,h.at];rfl
theorem q5j{x:Nd}{a b:Tr}(h:Sp R L M i (.two x a b) nx dp ks):q2c R wd i c ch=mvP wd x.op x.tx.size nx dp 0 (i+1+a.sz) i c ch:=by
 obtain⟨nx',ks',hs⟩:=h.two1;rw[q2c,h.at,hs.at];rfl
theorem k4z(h:Sp R L M i t nx dp ks)(hc:c<=wd)(hw:wd<=100)(hL:L<=400)(hM:M<=3200):v2u R wd i (q2c R wd i c ch):=by
 have h1:=h.lo;have h2:=h.hi;have h3:=z9l t;have hbd:=h.bd;have hbl:=h.bl;cases t with
 | leaf x=>
  have hn:=q1l h.wf.1;rw[q2y h];rcases q3j h.wf.1 h.wf.2 with e|e|e|e|e
  ·rw[z2v e]
   have:=q2q (hn.2.2.2.2.1 e)
   exact⟨by dsimp only;omega,h2,Nat.min_le_right _ _,by dsimp only;omega,by simp⟩
  all_goals first
   | (rw[q6z (by omega)];exact⟨by dsimp only;omega,h2,Nat.min_le_right _ _,by dsimp only;omega,by simp⟩)
   | (rw[z2w (by omega)];exact⟨by dsimp only;omega,h2,hc,by simp,by simp⟩)
 | one x a=>
  have hs:=h.one;have hlt:=hs.lt;have h78:=q8h h.wf.2.1;rw[q4d h];by_cases h8:x.op=8/\ch=0
  ·rw[z2u h8.1 h8.2];have hlg:(Tr.lg (.one x a)).toNat<=8000:=by rw[Tr.lg,if_pos h8.1];exact j9l h.wf.2.2 (by simp only[Tr.lf]at hbl;omega)
   exact⟨by dsimp only;omega,h2,Nat.min_le_right _ _,by dsimp only;omega,by simp⟩
  ·rw[q6y (by omega)];exact⟨by simp,by dsimp only;omega,hc,by simp,by simp⟩
 | two x a b=>
  obtain⟨nx',ks',hs⟩:=h.two1;have hlt:=hs.lt;have hlt2:=h.two2.lt;have h69:=q7j h.wf.2.1;rw[q5j h];by_cases h9:x.op=9/\ch=1
  ·rw[q8b h9.1 h9.2];exact⟨by dsimp only;omega,by dsimp only;omega,hc,by simp,by simp⟩
  ·rw[q6y (by omega)];exact⟨by simp,by dsimp only;omega,hc,by simp,by simp⟩
theorem j9z(o l:Nat)(u:List Int)(a:Crs):q3k o l u a=((o+a.1.1,l+a.1.2),u++a.2):=rfl
theorem k2x(h:Sp R L M i t nx dp ks)(hc:c<=wd):
  vv R wd i c=(((crs R wd i c).o,(crs R wd i c).l),(if q7m t.root.op=true then [((crs R wd i c).ch:Int)]else [])++(vv R wd (crs R wd i c).np (crs R wd i c).nc).2)/\∃ch,(ch=0\/ch=1)/\crs R wd i c=tkC R wd i c ch:=by
 have hp:=h.at;have hk:=h.kont;have hx:=h.kx;refine⟨?_,?_⟩
 ·cases t with
  | leaf x=>
   have hlg:(q0y R i).lg≠-1:=by rw[hp];simp[z1g,Tr.lg]
   have hop:(q0y R i).nd.op=x.op:=by rw[hp];rfl
   have hch:q7m x.op=false:=by rcases q3j h.wf.1 h.wf.2 with e|e|e|e|e<;>simp[q7m,e]
   rw[crs,if_neg hlg,hop,if_pos hch,tkC,k2z,Tr.root,hch];dsimp only
   have hv:vv R wd i c=q3k (q2c R wd i c 0).o (q2c R wd i c 0).l [] (vv R wd (q2c R wd i c 0).np (q2c R wd i c 0).nc):=by
    rw[q2y h,vv,hk];rcases q3j h.wf.1 h.wf.2 with e|e|e|e|e
    ·rw[z2v e,j4u h.wf.1 e hc];dsimp only;rw[vv,hx]
    all_goals first
     | (rw[q6z (by omega),j4t (by omega)];dsimp only;rw[vv,hx])
     | (rw[z2w (by omega),j4v e];dsimp only;rw[vv,hx])
   rw[hv];rfl
  | one x a=>
   have h78:=q8h h.wf.2.1;have hop:(q0y R i).nd.op=x.op:=by rw[hp];rfl
   have hs:=h.one;have m1:q2c R wd i c 1=⟨i+1,c,0,0⟩:=by rw[q4d h,q6y (by omega)]
   rcases h78 with e|e
   ·have hlg:(q0y R i).lg≠-1:=by rw[hp];simp[z1g,Tr.lg,e]
    have hch:q7m x.op=false:=by simp[q7m,e]
    have m0:q2c R wd i c 0=⟨i+1,c,0,0⟩:=by rw[q4d h,q6y (by omega)]
    rw[crs,if_neg hlg,hop,if_pos hch,tkC,k2z,Tr.root,hch,m0];dsimp only;rw[vv,hk,j4r e,vv,hs.kont];simp
   ·have hch:q7m x.op=true:=by simp[q7m,e]
    have hlg:(q0y R i).lg=lgF a.flat:=by rw[hp];simp[z1g,Tr.lg,e]
    have hn0:x.n.toNat=0:=by have:=q1l h.wf.1;omega
    have ek:kont R (i+1)=(dp,a)::ks:=by rw[hs.kont,hn0];rfl
    cases hf:a.flat with
    | none=>
     rw[hf]at hlg;rw[crs,if_pos (show(q0y R i).lg=-1 from hlg),tkC,k2z,Tr.root,hch,m1];dsimp only;rw[vv,hk,j4s (by omega) hf,j9z,vv,ek];simp
    | some s=>
     rw[hf]at hlg;have hlg':(q0y R i).lg≠-1:=by rw[hlg,lgF];omega
     have m0:q2c R wd i c 0=⟨nx,min (c+s.length) wd,c+s.length-wd,0⟩:=by
      rw[q4d h,z2u e rfl,Tr.lg,if_pos e,hf];rfl
     rw[crs,if_neg hlg',hop,if_neg (by rw[hch];simp),Tr.root,hch];rw[vv,hk,k9b (by omega) h.wf.2.2 hf hc]
     have e0:tkC R wd i c 0=⟨(q3k (c+s.length-wd) 0 [0] (bs wd (min (c+s.length) wd) ks)).1.1,(q3k (c+s.length-wd) 0 [0] (bs wd (min (c+s.length) wd) ks)).1.2,0,nx,min (c+s.length) wd⟩:=by
      rw[tkC,k2z,m0];simp only[vv,hx,q3k]
     have e1:tkC R wd i c 1=⟨(q3k 0 0 [1] (bs wd c ((dp,a)::ks))).1.1,(q3k 0 0 [1] (bs wd c ((dp,a)::ks))).1.2,1,i+1,c⟩:=by
      rw[tkC,k2z,m1];simp only[vv,ek,q3k]
     rw[e0,e1];unfold z9b;dsimp only
     split
     ·simp only[if_true,vv,ek,q3k];rfl
     ·simp only[if_true,vv,hx,q3k];rfl
  | two x a b=>
   have h69:=q7j h.wf.2.1;have hop:(q0y R i).nd.op=x.op:=by rw[hp];rfl
   have hlg:(q0y R i).lg≠-1:=by rw[hp];simp[z1g,Tr.lg]
   have m0:q2c R wd i c 0=⟨i+1,c,0,0⟩:=by rw[q5j h,q6y (by omega)]
   rcases h69 with e|e
   ·have hch:q7m x.op=false:=by simp[q7m,e]
    rw[crs,if_neg hlg,hop,if_pos hch,tkC,k2z,Tr.root,hch,m0];dsimp only;rw[vv,hk,j4q e,vv,(h.both1 e).kont];simp
   ·have hch:q7m x.op=true:=by simp[q7m,e]
    have hs:=h.either1 (by omega);have hs2:=h.two2;have m1:q2c R wd i c 1=⟨i+1+a.sz,c,0,0⟩:=by rw[q5j h,q8b e rfl]
    rw[crs,if_neg hlg,hop,if_neg (by rw[hch];simp),Tr.root,hch];rw[vv,hk,k2j (by omega)]
    have e0:tkC R wd i c 0=⟨(q3k 0 0 [0] (bs wd c ((dp,a)::ks))).1.1,(q3k 0 0 [0] (bs wd c ((dp,a)::ks))).1.2,0,i+1,c⟩:=by
     rw[tkC,k2z,m0];simp only[vv,hs.kont,q3k]
    have e1:tkC R wd i c 1=⟨(q3k 0 0 [1] (bs wd c ((dp,b)::ks))).1.1,(q3k 0 0 [1] (bs wd c ((dp,b)::ks))).1.2,1,i+1+a.sz,c⟩:=by
     rw[tkC,k2z,m1];simp only[vv,hs2.kont,q3k]
    rw[e0,e1];unfold z9b;dsimp only
    split
    ·simp only[if_true,vv,hs2.kont,q3k];rfl
    ·simp only[if_true,vv,hs.kont,q3k];rfl
 ·unfold crs
  split
  ·exact⟨1,.inr rfl,rfl⟩
  ·split
   ·exact⟨0,.inl rfl,rfl⟩
   ·split
    ·exact⟨1,.inr rfl,rfl⟩
    ·exact⟨0,.inl rfl,rfl⟩
end
end Go.Proofs.YthjapabokcajhaaGreatDoor
namespace Go.Proofs.YthjapabokcajhaaGreatDoor
open Go Go.RowKit
def q0p(s:Nat)(w:World)(a:Option Addr)(ds:List Nd):Prop:=
 ∀i(h:i<ds.length),∃o,a=some ⟨s,o,none⟩/\w.cell? ⟨s,o+i*3,none⟩=some (.int .i64 ds[i].op)/\w.cell? ⟨s,o+i*3+1,none⟩=some (.string ds[i].tx)/\w.cell? ⟨s,o+i*3+2,none⟩=some (.int .i64 ds[i].n)
theorem q1u.s{w:World}{a:Option Addr}{ds:List Nd}(h:q1u w a ds)(h0:ds≠[]):∃s,s<w.heap.size/\q0p s w a ds:=by
 obtain⟨s,o,rfl,hs,_⟩:=h 0 (List.length_pos_iff.2 h0);refine⟨s,hs,fun i hi=>?_⟩;obtain⟨b,o',e,_,c⟩:=h i hi;simp only[Option.some.injEq,Addr.mk.injEq,and_true]at e;obtain⟨rfl,rfl⟩:=e;exact⟨o,rfl,c⟩
theorem q0p.nods{s:Nat}{w:World}{a:Option Addr}{ds:List Nd}(h:q0p s w a ds)(hs:s<w.heap.size):q1u w a ds:=by
 intro i hi;obtain⟨o,e,c⟩:=h i hi;exact⟨s,o,e,hs,c⟩
theorem q0p.kept{s:Nat}{w w':World}{a:Option Addr}{ds:List Nd}(h:q0p s w a ds)(hb:w'.heap[s]?=w.heap[s]?):q0p s w' a ds:=by
 intro i hi;obtain⟨o,e,c1,c2,c3⟩:=h i hi;have hc:∀j,w'.cell? ⟨s,j,none⟩=w.cell? ⟨s,j,none⟩:=fun j=>World.cell?_of_block (w:=w) (a:=⟨s,j,none⟩) hb
 exact⟨o,e,(hc _).trans c1,(hc _).trans c2,(hc _).trans c3⟩
theorem q0p.rest{s:Nat}{w:World}{o:Nat}{x:Nd}{ds:List Nd}(h:q0p s w (some ⟨s,o,none⟩) (x::ds)):q0p s w (some ⟨s,o+3,none⟩) ds:=by
 intro i hi;obtain⟨o',e,c1,c2,c3⟩:=h (i+1) (by simp;omega);simp only[Option.some.injEq,Addr.mk.injEq,and_true,true_and]at e;obtain rfl:=e;refine⟨o+3,rfl,?_,?_,?_⟩
 ·rw[show o+3+i*3=o+(i+1)*3 by omega];exact c1
 ·rw[show o+3+i*3+1=o+(i+1)*3+1 by omega];exact c2
 ·rw[show o+3+i*3+2=o+(i+1)*3+2 by omega];exact c3
theorem q0p.slid{s:Nat}{w:World}{o cap:Nat}{x:Nd}{ds:List Nd}(h:q0p s w (some ⟨s,o,none⟩) (x::ds))(hc:ds.length+1<=cap):
  q0p s w (if cap=1 then some ⟨s,o,none⟩else some ⟨s,o+3,none⟩) ds:=by
 by_cases h1:cap=1
 ·have:ds=[]:=List.eq_nil_of_length_eq_zero (by omega)
  subst this;exact fun i hi=>by simp at hi
 ·rw[if_neg h1];exact h.rest
end Go.Proofs.YthjapabokcajhaaGreatDoor
namespace Go.Proofs.YthjapabokcajhaaGreatDoor
open Go Go.RowKit
structure Q where
 op:Int
 tx:ByteArray
 n:Int
 en:Int
 nx:Int
 dp:Int
 lg:Int
def q0:Q:=⟨0,⟨#[]⟩,0,0,0,0,0⟩
def q1(r:Pl):Q:=⟨r.nd.op,r.nd.tx,r.nd.n,r.en,0,0,0⟩
def q2(r:Pl):Q:=⟨r.nd.op,r.nd.tx,r.nd.n,r.en,r.nx,r.dp,r.lg⟩
structure q8k(w:World)(g j:Nat)(q:Q):Prop where
 c0:w.cell? ⟨g,j*7,none⟩=some (.int .i64 q.op)
 c1:w.cell? ⟨g,j*7+1,none⟩=some (.string q.tx)
 c2:w.cell? ⟨g,j*7+2,none⟩=some (.int .i64 q.n)
 c3:w.cell? ⟨g,j*7+3,none⟩=some (.int .i64 q.en)
 c4:w.cell? ⟨g,j*7+4,none⟩=some (.int .i64 q.nx)
 c5:w.cell? ⟨g,j*7+5,none⟩=some (.int .i64 q.dp)
 c6:w.cell? ⟨g,j*7+6,none⟩=some (.int .i64 q.lg)
def q8w(w:World)(b:Nat):Prop:=∃cs T,w.heap[b]?=some (.cells cs T (0,0))
theorem q8w.frozen{w:World}{b i:Nat}(h:q8w w b):w.frozen? ⟨b,i,none⟩=false:=by
 obtain⟨cs,T,h⟩:=h;simp[World.frozen?,h]
theorem q8w.lt{w:World}{b:Nat}(h:q8w w b):b<w.heap.size:=by
 obtain⟨cs,T,h⟩:=h;rcases Nat.lt_or_ge b w.heap.size with h'|h'
 ·exact h'
 ·simp[Array.getElem?_eq_none h']at h
theorem q8w.kept{w w':World}{b:Nat}(h:q8w w b)(hb:w'.heap[b]?=w.heap[b]?):q8w w' b:=by
 obtain⟨cs,T,h⟩:=h;exact⟨cs,T,hb.trans h⟩
theorem q8w.set{w:World}{b c i:Nat}{v:Value}(h:q8w w b):q8w (w.setCell ⟨c,i,none⟩ v) b:=by
 by_cases e:c=b
 ·subst e;obtain⟨cs,T,h⟩:=h;exact⟨cs.setIfInBounds i v,T,by simp[World.setCell,Array.getElem?_modify,h]⟩
 ·exact h.kept (Below.heap_setCell _ _ _ _ (Ne.symm e))
structure PwR(w:World)(g n:Nat)(F:Nat->Q):Prop where
 get:∀j,j<n->q8k w g j (F j)
 row:q8w w g
theorem q8k.kept{w w':World}{g j:Nat}{q:Q}(h:q8k w g j q)(hb:w'.heap[g]?=w.heap[g]?):q8k w' g j q:=by
 have hc:∀k,w'.cell? ⟨g,k,none⟩=w.cell? ⟨g,k,none⟩:=fun k=>World.cell?_of_block (w:=w) (a:=⟨g,k,none⟩) hb
 exact⟨(hc _).trans h.c0,(hc _).trans h.c1,(hc _).trans h.c2,(hc _).trans h.c3,(hc _).trans h.c4,(hc _).trans h.c5,(hc _).trans h.c6⟩
theorem PwR.kept{w w':World}{g n:Nat}{F:Nat->Q}(h:PwR w g n F)(hb:w'.heap[g]?=w.heap[g]?):PwR w' g n F:=⟨fun j hj=>(h.get j hj).kept hb,h.row.kept hb⟩
theorem PwR.congr{w:World}{g n:Nat}{F G:Nat->Q}(h:PwR w g n F)(e:∀j,j<n->F j=G j):PwR w g n G:=⟨fun j hj=>e j hj ▸ h.get j hj,h.row⟩
theorem q8k.other{w:World}{g j k f:Nat}{q:Q}{v:Value}(h:q8k w g k q)(hf:f<7)(hk:k≠j):q8k (w.setCell ⟨g,j*7+f,none⟩ v) g k q:=
 ⟨(cso (by omega)).trans h.c0,(cso (by omega)).trans h.c1,(cso (by omega)).trans h.c2,(cso (by omega)).trans h.c3,(cso (by omega)).trans h.c4,(cso (by omega)).trans h.c5,(cso (by omega)).trans h.c6⟩
def upd(F:Nat->Q)(j:Nat)(q:Q):Nat->Q:=fun k=>if k=j then q else F k
theorem q0k(F:Nat->Q)(j:Nat)(q:Q):upd F j q j=q:=by simp[upd]
theorem q0x{F:Nat->Q}{j k:Nat}{q:Q}(h:k≠j):upd F j q k=F k:=by simp[upd,h]
theorem PwR.put{w:World}{g n j f:Nat}{F:Nat->Q}{v:Value}{q:Q}(h:PwR w g n F)(hf:f<7)(hq:q8k (w.setCell ⟨g,j*7+f,none⟩ v) g j q):PwR (w.setCell ⟨g,j*7+f,none⟩ v) g n (upd F j q) where
 get k hk:=by
  by_cases e:k=j
  ·subst e;rw[q0k];exact hq
  ·rw[q0x e];exact(h.get k hk).other hf e
 row:=h.row.set
section
variable {w:World} {g n j:Nat} {F:Nat→Q}
theorem PwR.putOp(h:PwR w g n F)(hj:j<n)(x:Int):PwR (w.setCell ⟨g,j*7,none⟩ (.int .i64 x)) g n (upd F j {F j with op:=x}):=by
 have k:=h.get j hj;exact h.put (f:=0) (by omega) ⟨css k.c0,(cso (by omega)).trans k.c1,(cso (by omega)).trans k.c2,(cso (by omega)).trans k.c3,(cso (by omega)).trans k.c4,(cso (by omega)).trans k.c5,(cso (by omega)).trans k.c6⟩
theorem PwR.putTx(h:PwR w g n F)(hj:j<n)(x:ByteArray):PwR (w.setCell ⟨g,j*7+1,none⟩ (.string x)) g n (upd F j {F j with tx:=x}):=by
 have k:=h.get j hj;exact h.put (f:=1) (by omega) ⟨(cso (by omega)).trans k.c0,css k.c1,(cso (by omega)).trans k.c2,(cso (by omega)).trans k.c3,(cso (by omega)).trans k.c4,(cso (by omega)).trans k.c5,(cso (by omega)).trans k.c6⟩
theorem PwR.putN(h:PwR w g n F)(hj:j<n)(x:Int):PwR (w.setCell ⟨g,j*7+2,none⟩ (.int .i64 x)) g n (upd F j {F j with n:=x}):=by
 have k:=h.get j hj;exact h.put (f:=2) (by omega) ⟨(cso (by omega)).trans k.c0,(cso (by omega)).trans k.c1,css k.c2,(cso (by omega)).trans k.c3,(cso (by omega)).trans k.c4,(cso (by omega)).trans k.c5,(cso (by omega)).trans k.c6⟩
theorem PwR.putEn(h:PwR w g n F)(hj:j<n)(x:Int):PwR (w.setCell ⟨g,j*7+3,none⟩ (.int .i64 x)) g n (upd F j {F j with en:=x}):=by
 have k:=h.get j hj;exact h.put (f:=3) (by omega) ⟨(cso (by omega)).trans k.c0,(cso (by omega)).trans k.c1,(cso (by omega)).trans k.c2,css k.c3,(cso (by omega)).trans k.c4,(cso (by omega)).trans k.c5,(cso (by omega)).trans k.c6⟩
theorem PwR.putNx(h:PwR w g n F)(hj:j<n)(x:Int):PwR (w.setCell ⟨g,j*7+4,none⟩ (.int .i64 x)) g n (upd F j {F j with nx:=x}):=by
 have k:=h.get j hj;exact h.put (f:=4) (by omega) ⟨(cso (by omega)).trans k.c0,(cso (by omega)).trans k.c1,(cso (by omega)).trans k.c2,(cso (by omega)).trans k.c3,css k.c4,(cso (by omega)).trans k.c5,(cso (by omega)).trans k.c6⟩
theorem PwR.putDp(h:PwR w g n F)(hj:j<n)(x:Int):PwR (w.setCell ⟨g,j*7+5,none⟩ (.int .i64 x)) g n (upd F j {F j with dp:=x}):=by
 have k:=h.get j hj;exact h.put (f:=5) (by omega) ⟨(cso (by omega)).trans k.c0,(cso (by omega)).trans k.c1,(cso (by omega)).trans k.c2,(cso (by omega)).trans k.c3,(cso (by omega)).trans k.c4,css k.c5,(cso (by omega)).trans k.c6⟩
theorem PwR.putLg(h:PwR w g n F)(hj:j<n)(x:Int):PwR (w.setCell ⟨g,j*7+6,none⟩ (.int .i64 x)) g n (upd F j {F j with lg:=x}):=by
 have k:=h.get j hj;exact h.put (f:=6) (by omega) ⟨(cso (by omega)).trans k.c0,(cso (by omega)).trans k.c1,(cso (by omega)).trans k.c2,(cso (by omega)).trans k.c3,(cso (by omega)).trans k.c4,(cso (by omega)).trans k.c5,css k.c6⟩
end
theorem z3h(F:Nat->Q)(j:Nat)(p q:Q):upd (upd F j p) j q=upd F j q:=by
 funext k
 simp only[upd]
 split<;>rfl
theorem ka{w:World}{b o:Nat}{v:Value}(h:w.cell? ⟨b,o,none⟩=some v)(O:Obj):(w.alloc O).cell? ⟨b,o,none⟩=some v:=
 (((Below.refl _ w).alloc (Nat.le_refl _) O).cell (p:=⟨b,o,none⟩) (World.block_lt_of_cell? w _ h)).trans h
theorem kaf{w:World}{b o:Nat}(hb:b<w.heap.size)(h:w.frozen? ⟨b,o,none⟩=false)(O:Obj):(w.alloc O).frozen? ⟨b,o,none⟩=false:=
 (((Below.refl _ w).alloc (Nat.le_refl _) O).frozen (p:=⟨b,o,none⟩) hb).trans h
theorem z0d{i n:Nat}(hn:n<=400)(hi:(i:Int)<n):IntKind.i64.wrap ((i:Int)+1)=(i:Int)+1:=by
 rw[IntKind.wrap_i64];omega
end Go.Proofs.YthjapabokcajhaaGreatDoor
