import Derived.Maps.OwnSet
import Derived.DeepKeys4
import Derived.Test.YtchdplceopegoaaGreatDoorPi05
import Derived.Deep.RegionHeld3
import Derived.Deep.DeepCutAuto
import Derived.BigRegion
open Go.Proofs.Tryz
namespace Go.Proofs.YtchdplceopegoaaGreatDoor
structure Pl where
 nd:Nd
 en:Nat
 nx:Nat
 dp:Nat
 lg:Int
 t:Tr
 ks:List (Nat × Tr)
def Tr.root:Tr->Nd
 | .leaf x=>x
 | .one x _=>x
 | .two x _ _=>x
def lgF:Option (List UInt8)->Int
 | none=>-1
 | some s=>(s.length:Int)
def Tr.lg:Tr->Int
 | .one x a=>if x.op=8 then lgF a.flat else 0
 | _=>0
def Tr.sz(t:Tr):Nat:=t.N.length
theorem v2e(x:Nd):(Tr.leaf x).sz=1:=rfl
theorem k4i(x:Nd)(a:Tr):(Tr.one x a).sz=1+a.sz:=by simp[Tr.sz,Tr.N];omega
theorem z5t(x:Nd)(a b:Tr):(Tr.two x a b).sz=1+a.sz+b.sz:=by simp[Tr.sz,Tr.N];omega
theorem j0g(t:Tr):0<t.sz:=t.pos
def z7q(t:Tr)(i nx dp:Nat)(ks:List (Nat × Tr)):Pl:=⟨t.root,i+t.sz,nx,dp,t.lg,t,ks⟩
def k3u:Tr->Nat->Nat->Nat->List (Nat × Tr)->List Pl
 | .leaf x,i,nx,dp,ks=>[z7q (.leaf x) i nx dp ks]
 | .one x a,i,nx,dp,ks=>z7q (.one x a) i nx dp ks::k3u a (i+1) nx (dp+x.n.toNat) ks
 | .two x a b,i,nx,dp,ks=>z7q (.two x a b) i nx dp ks::((if x.op=6 then k3u a (i+1) (i+1+a.sz) dp ((dp,b)::ks)else k3u a (i+1) nx dp ks)++k3u b (i+1+a.sz) nx dp ks)
theorem z1d:∀(t:Tr)(i nx dp:Nat)(ks:List (Nat × Tr)),(k3u t i nx dp ks).length=t.sz
 | .leaf x,i,nx,dp,ks=>rfl
 | .one x a,i,nx,dp,ks=>by rw[k3u,List.length_cons,z1d a,k4i];omega
 | .two x a b,i,nx,dp,ks=>by
  rw[k3u,List.length_cons,List.length_append,z1d b,z5t]
  split<;>rw[z1d a]<;>omega
theorem v1d(t:Tr)(i nx dp:Nat)(ks:List (Nat × Tr)):∃r,k3u t i nx dp ks=z7q t i nx dp ks::r:=by
 cases t<;>exact⟨_,rfl⟩
theorem z2t:∀(t:Tr)(i nx dp:Nat)(ks:List (Nat × Tr)),(k3u t i nx dp ks).map (·.nd)=t.N
 | .leaf x,i,nx,dp,ks=>rfl
 | .one x a,i,nx,dp,ks=>by rw[k3u,List.map_cons,z2t a];rfl
 | .two x a b,i,nx,dp,ks=>by
  rw[k3u,List.map_cons,List.map_append,z2t b]
  split<;>rw[z2t a]<;>rfl
def kont(R:List Pl)(i:Nat):List (Nat × Tr):=match R[i]? with|some r=>(r.dp,r.t)::r.ks|none=>[]
theorem k8v{R:List Pl}{i:Nat}(h:R.length<=i):kont R i=[]:=by rw[kont,List.getElem?_eq_none h]
structure Sp(R:List Pl)(L M:Nat)(i:Nat)(t:Tr)(nx dp:Nat)(ks:List (Nat × Tr)):Prop where
 pl:∃post,R.drop i=k3u t i nx dp ks++post
 kx:kont R nx=ks
 lo:i+t.sz<=nx
 hi:nx<=R.length
 wf:t.Wf
 bl:t.lf+lfK ks<=L
 bd:dp+t.dsum<=M
 bk:KB M ks
section
variable {R:List Pl} {L M i nx dp:Nat} {ks:List (Nat × Tr)} {t a b:Tr} {x:Nd}
theorem z0t{l:List Pl}{i:Nat}{r:Pl}{q:List Pl}(h:l.drop i=r::q):l[i]?=some r/\l.drop (i+1)=q:=by
 have B:i<l.length:=by
  rcases Nat.lt_or_ge i l.length with A|A
  ·exact A
  ·rw[List.drop_eq_nil_of_le A]at h;cases h
 rw[List.drop_eq_getElem_cons B,List.cons.injEq]at h;exact⟨by rw[List.getElem?_eq_getElem B,h.1],h.2⟩
theorem y3m{l p q:List Pl}{i:Nat}(h:l.drop i=p++q):l.drop (i+p.length)=q:=by rw[<-List.drop_drop,h,List.drop_left]
theorem Sp.get(h:Sp R L M i t nx dp ks):R[i]?=some (z7q t i nx dp ks):=by
 obtain⟨A,h⟩:=h.pl;obtain⟨r,e⟩:=v1d t i nx dp ks;rw[e]at h;exact(z0t h).1
theorem Sp.kont(h:Sp R L M i t nx dp ks):kont R i=(dp,t)::ks:=by rw[Proofs.YtchdplceopegoaaGreatDoor.kont,h.get];rfl
theorem Sp.lt(h:Sp R L M i t nx dp ks):i<R.length:=by have:=j0g t;have:=h.lo;have:=h.hi;omega
theorem Sp.one(h:Sp R L M i (.one x a) nx dp ks):Sp R L M (i+1) a nx (dp+x.n.toNat) ks where
 pl:=by
  obtain⟨A,e⟩:=h.pl;rw[k3u]at e;exact⟨A,(z0t e).2⟩
 kx:=h.kx
 lo:=by have:=h.lo;rw[k4i]at this;omega
 hi:=h.hi
 wf:=h.wf.2.2
 bl:=h.bl
 bd:=by
  have:=h.bd
  have B:=q2d h.wf.1;simp only[Tr.dsum]at this;omega
 bk:=h.bk
theorem Sp.two2(h:Sp R L M i (.two x a b) nx dp ks):Sp R L M (i+1+a.sz) b nx dp ks where
 pl:=by
  obtain⟨A,e⟩:=h.pl;rw[k3u]at e;have B:=(z0t (q:=_++A) e).2;rw[List.append_assoc]at B;have C:=y3m B;refine⟨A,?_⟩;rw[<-C]
  congr 1
  split<;>rw[z1d]
 kx:=h.kx
 lo:=by have:=h.lo;rw[z5t]at this;omega
 hi:=h.hi
 wf:=h.wf.2.2.2
 bl:=by have:=h.bl;simp only[Tr.lf]at this;omega
 bd:=by have:=h.bd;simp only[Tr.dsum]at this;omega
 bk:=h.bk
theorem Sp.both1(h:Sp R L M i (.two x a b) nx dp ks)(h6:x.op=6):Sp R L M (i+1) a (i+1+a.sz) dp ((dp,b)::ks) where
 pl:=by
  obtain⟨B,e⟩:=h.pl;rw[k3u,if_pos h6,List.cons_append,List.append_assoc]at e;exact⟨_,(z0t e).2⟩
 kx:=h.two2.kont
 lo:=Nat.le_refl _
 hi:=by have:=h.lo;have:=h.hi;rw[z5t]at *;omega
 wf:=h.wf.2.2.1
 bl:=by have:=h.bl;simp only[Tr.lf,lfK]at this⊢;omega
 bd:=by have:=h.bd;simp only[Tr.dsum]at this;omega
 bk:=by
  intro p A;rcases List.mem_cons.1 A with rfl|A
  ·exact⟨by have:=h.bd;simp only[Tr.dsum]at this;dsimp only;omega,h.wf.2.2.2⟩
  ·exact h.bk p A
theorem Sp.either1(h:Sp R L M i (.two x a b) nx dp ks)(h6:x.op≠6):Sp R L M (i+1) a nx dp ks where
 pl:=by
  obtain⟨A,e⟩:=h.pl;rw[k3u,if_neg h6,List.cons_append,List.append_assoc]at e;exact⟨_,(z0t e).2⟩
 kx:=h.kx
 lo:=by have:=h.lo;rw[z5t]at this;omega
 hi:=h.hi
 wf:=h.wf.2.2.1
 bl:=by have:=h.bl;simp only[Tr.lf]at this⊢;omega
 bd:=by have:=h.bd;simp only[Tr.dsum]at this;omega
 bk:=h.bk
theorem Sp.two1(h:Sp R L M i (.two x a b) nx dp ks):∃nx' ks',Sp R L M (i+1) a nx' dp ks':=by
 by_cases A:x.op=6
 ·exact⟨_,_,h.both1 A⟩
 ·exact⟨_,_,h.either1 A⟩
end
theorem j0b{R:List Pl}{L M:Nat}:∀(t:Tr)(i nx dp:Nat)(ks:List (Nat × Tr)),Sp R L M i t nx dp ks->∀j,i<=j->j<i+t.sz->∃t' nx' dp' ks',Sp R L M j t' nx' dp' ks'
 | .leaf x,i,nx,dp,ks,h,j,h1,h2=>by
  rw[v2e]at h2;obtain rfl:j=i:=by omega
  exact⟨_,_,_,_,h⟩
 | .one x a,i,nx,dp,ks,h,j,h1,h2=>by
  rw[k4i]at h2;by_cases e:j=i
  ·subst e;exact⟨_,_,_,_,h⟩
  ·exact j0b a _ _ _ _ h.one j (by omega) (by omega)
 | .two x a b,i,nx,dp,ks,h,j,h1,h2=>by
  rw[z5t]at h2;by_cases e:j=i
  ·subst e;exact⟨_,_,_,_,h⟩
  ·by_cases B:j<i+1+a.sz
   ·obtain⟨_,_,A⟩:=h.two1;exact j0b a _ _ _ _ A j (by omega) (by omega)
   ·exact j0b b _ _ _ _ h.two2 j (by omega) (by omega)
def j3z(R:List Pl)(L M:Nat)(p j:Nat):Prop:=(∃x a nx dp ks,Sp R L M p (.one x a) nx dp ks/\j=p+1)\/∃x a b nx dp ks,Sp R L M p (.two x a b) nx dp ks/\(j=p+1\/j=p+1+a.sz)
theorem k9v{R:List Pl}{L M:Nat}:∀(t:Tr)(i nx dp:Nat)(ks:List (Nat × Tr)),Sp R L M i t nx dp ks->∀j,i<j->j<i+t.sz->∃p,p<j/\j3z R L M p j
 | .leaf x,i,nx,dp,ks,h,j,h1,h2=>by rw[v2e]at h2;omega
 | .one x a,i,nx,dp,ks,h,j,h1,h2=>by
  rw[k4i]at h2;by_cases e:j=i+1
  ·exact⟨i,h1,.inl ⟨_,_,_,_,_,h,e⟩⟩
  ·exact k9v a _ _ _ _ h.one j (by omega) (by omega)
 | .two x a b,i,nx,dp,ks,h,j,h1,h2=>by
  rw[z5t]at h2;by_cases e:j=i+1
  ·exact⟨i,h1,.inr ⟨_,_,_,_,_,_,h,.inl e⟩⟩
  ·by_cases e3:j=i+1+a.sz
   ·exact⟨i,h1,.inr ⟨_,_,_,_,_,_,h,.inr e3⟩⟩
   ·by_cases e2:j<i+1+a.sz
    ·obtain⟨_,_,h'⟩:=h.two1;exact k9v a _ _ _ _ h' j (by omega) (by omega)
    ·exact k9v b _ _ _ _ h.two2 j (by omega) (by omega)
def q0a(t:Tr):List Pl:=k3u t 0 t.sz 0 []
theorem q2y(t:Tr):(q0a t).length=t.sz:=z1d t _ _ _ _
theorem k0l{t:Tr}(h:t.Wf):Sp (q0a t) t.lf t.dsum 0 t t.sz 0 [] where
 pl:=⟨[],by simp[q0a]⟩
 kx:=k8v (Nat.le_of_eq (q2y t))
 lo:=by omega
 hi:=Nat.le_of_eq (q2y t).symm
 wf:=h
 bl:=by simp[lfK]
 bd:=by simp
 bk:=by intro p A;simp at A
theorem v1y{t:Tr}(h:t.Wf){j:Nat}(hj:j<(q0a t).length):∃t' nx dp ks,Sp (q0a t) t.lf t.dsum j t' nx dp ks:=
 j0b t 0 _ _ _ (k0l h) j (Nat.zero_le _) (by rw[q2y]at hj;omega)
theorem k3s{t:Tr}(h:t.Wf){j:Nat}(h0:0<j)(hj:j<(q0a t).length):∃p,p<j/\j3z (q0a t) t.lf t.dsum p j:=
 k9v t 0 _ _ _ (k0l h) j h0 (by rw[q2y]at hj;omega)
/-! ### Moves and courses -/
def vv(R:List Pl)(wd i c:Nat):Crs:=bs wd c (kont R i)
theorem y1z{R:List Pl}{wd i c:Nat}(h:R.length<=i):vv R wd i c=((0,0),[]):=by rw[vv,k8v h,y7k]
theorem g2x{R:List Pl}{wd L M i c nx dp:Nat}{ks:List (Nat × Tr)}{t:Tr}(h:Sp R L M i t nx dp ks)(hm:L*(21+M)<=400000):(vv R wd i c).1.1<=400000/\(vv R wd i c).1.2<=400000:=by
 have B:=g1q wd c M (kont R i) (by rw[h.kont];intro p A;rcases List.mem_cons.1 A with rfl|A;exact⟨h.bd,h.wf⟩;exact h.bk p A);have C:lfK (kont R i)*(21+M)<=L*(21+M):=Nat.mul_le_mul_right _ (by rw[h.kont];exact h.bl);rw[vv];omega
structure Mv where
 np:Nat
 nc:Nat
 o:Nat
 l:Nat
def mvP(wd:Nat)(op:Int)(k nx dp lg e i c ch:Nat):Mv:=
 if op=1 then⟨nx,min (c+k) wd,c+k-wd,0⟩
 else if op=2\/op=3\/op=4 then⟨nx,min dp wd,dp-wd,1⟩
 else if op=5 then⟨nx,c,0,0⟩
 else if op=8/\ch=0 then⟨nx,min (c+lg) wd,c+lg-wd,0⟩
 else if op=9/\ch=1 then⟨e,c,0,0⟩
 else⟨i+1,c,0,0⟩
section
variable {wd k nx dp lg e i c ch:Nat} {op:Int}
theorem z9w(h:op=1):mvP wd op k nx dp lg e i c ch=⟨nx,min (c+k) wd,c+k-wd,0⟩:=by rw[mvP,if_pos h]
theorem z1a(h:op=2\/op=3\/op=4):mvP wd op k nx dp lg e i c ch=⟨nx,min dp wd,dp-wd,1⟩:=by rw[mvP,if_neg (by omega),if_pos h]
theorem z9x(h:op=5):mvP wd op k nx dp lg e i c ch=⟨nx,c,0,0⟩:=by rw[mvP,if_neg (by omega),if_neg (by omega),if_pos h]
theorem z9v(h:op=8)(h0:ch=0):mvP wd op k nx dp lg e i c ch=⟨nx,min (c+lg) wd,c+lg-wd,0⟩:=by rw[mvP,if_neg (by omega),if_neg (by omega),if_neg (by omega),if_pos ⟨h,h0⟩]
theorem z2q(h:op=9)(h0:ch=1):mvP wd op k nx dp lg e i c ch=⟨e,c,0,0⟩:=by rw[mvP,if_neg (by omega),if_neg (by omega),if_neg (by omega),if_neg (by omega),if_pos ⟨h,h0⟩]
theorem z0z(h:op=6\/op=7\/(op=8/\ch≠0)\/(op=9/\ch≠1)):mvP wd op k nx dp lg e i c ch=⟨i+1,c,0,0⟩:=by rw[mvP,if_neg (by omega),if_neg (by omega),if_neg (by omega),if_neg (by omega),if_neg (by omega)]
end
def mv(wd:Nat)(r:Pl)(e i c ch:Nat):Mv:=mvP wd r.nd.op r.nd.tx.size r.nx r.dp r.lg.toNat e i c ch
def z2n(op:Int):Bool:=decide (op=8)||decide (op=9)
structure Cv where
 o:Nat
 l:Nat
 ch:Nat
 np:Nat
 nc:Nat
def j6e(R:List Pl)(wd ch:Nat)(m:Mv):Cv:=⟨m.o+(vv R wd m.np m.nc).1.1,m.l+(vv R wd m.np m.nc).1.2,ch,m.np,m.nc⟩
def q1r(R:List Pl)(i:Nat):Pl:=R.getD i ⟨⟨0,⟨#[]⟩,0⟩,0,0,0,0,.leaf ⟨0,⟨#[]⟩,0⟩,[]⟩
theorem Sp.at{R:List Pl}{L M i nx dp:Nat}{ks:List (Nat × Tr)}{t:Tr}(h:Sp R L M i t nx dp ks):q1r R i=z7q t i nx dp ks:=by rw[q1r,List.getD,h.get];rfl
def q3p(R:List Pl)(wd i c ch:Nat):Mv:=mv wd (q1r R i) (q1r R (i+1)).en i c ch
def tkC(R:List Pl)(wd i c ch:Nat):Cv:=j6e R wd ch (q3p R wd i c ch)
def crs(R:List Pl)(wd i c:Nat):Cv:=
 if(q1r R i).lg=-1 then tkC R wd i c 1
 else if z2n (q1r R i).nd.op=false then tkC R wd i c 0
 else if q2x ((tkC R wd i c 1).o,(tkC R wd i c 1).l) ((tkC R wd i c 0).o,(tkC R wd i c 0).l)then tkC R wd i c 1 else tkC R wd i c 0
structure g3a(R:List Pl)(wd i:Nat)(m:Mv):Prop where
 lo:i<m.np
 hi:m.np<=R.length
 cl:m.nc<=wd
 bo:m.o<=20000
 bl:m.l<=1
section
variable {R:List Pl} {L M i nx dp wd c ch:Nat} {ks:List (Nat × Tr)} {t:Tr}
theorem y8g{a:Tr}(h:a.Wf)(hn:a.lf<=400):(lgF a.flat).toNat<=8000:=by
 cases A:a.flat with
 | none=>simp[lgF]
 | some s=>have:=q9w a s h A;simp[lgF];omega
theorem q5n{x:Nd}(h:Sp R L M i (.leaf x) nx dp ks):q3p R wd i c ch=mvP wd x.op x.tx.size nx dp 0 (q1r R (i+1)).en i c ch:=by rw[q3p,h.at];rfl
theorem q7b{x:Nd}{a:Tr}(h:Sp R L M i (.one x a) nx dp ks):q3p R wd i c ch=mvP wd x.op x.tx.size nx dp (Tr.lg (.one x a)).toNat (q1r R (i+1)).en i c ch:=by rw[q3p,h.at];rfl
theorem q8z{x:Nd}{a b:Tr}(h:Sp R L M i (.two x a b) nx dp ks):q3p R wd i c ch=mvP wd x.op x.tx.size nx dp 0 (i+1+a.sz) i c ch:=by
 obtain⟨C,B,A⟩:=h.two1;rw[q3p,h.at,A.at];rfl
theorem j8y(h:Sp R L M i t nx dp ks)(hc:c<=wd)(hw:wd<=100)(hL:L<=400)(hM:M<=3200):g3a R wd i (q3p R wd i c ch):=by
 have S:=h.lo;have A:=h.hi;have U:=j0g t;have K:=h.bd;have C:=h.bl;cases t with
 | leaf x=>
  have O:=q2d h.wf.1;rw[q5n h];rcases q4a h.wf.1 h.wf.2 with e|e|e|e|e
  ·rw[z9w e]
   have:=q4c (O.2.2.2.2.1 e)
   exact⟨by dsimp only;omega,A,Nat.min_le_right _ _,by dsimp only;omega,by simp⟩
  all_goals first
   | (rw[z1a (by omega)];exact⟨by dsimp only;omega,A,Nat.min_le_right _ _,by dsimp only;omega,by simp⟩)
   | (rw[z9x (by omega)];exact⟨by dsimp only;omega,A,hc,by simp,by simp⟩)
 | one x a=>
  have E:=h.one;have D:=E.lt;have J:=q8h h.wf.2.1;rw[q7b h];by_cases B:x.op=8/\ch=0
  ·rw[z9v B.1 B.2];have N:(Tr.lg (.one x a)).toNat<=8000:=by rw[Tr.lg,if_pos B.1];exact y8g h.wf.2.2 (by simp only[Tr.lf]at C;omega)
   exact⟨by dsimp only;omega,A,Nat.min_le_right _ _,by dsimp only;omega,by simp⟩
  ·rw[z0z (by omega)];exact⟨by simp,by dsimp only;omega,hc,by simp,by simp⟩
 | two x a b=>
  obtain⟨Q,P,E⟩:=h.two1;have D:=E.lt;have H:=h.two2.lt;have I:=q7t h.wf.2.1;rw[q8z h];by_cases G:x.op=9/\ch=1
  ·rw[z2q G.1 G.2];exact⟨by dsimp only;omega,by dsimp only;omega,hc,by simp,by simp⟩
  ·rw[z0z (by omega)];exact⟨by simp,by dsimp only;omega,hc,by simp,by simp⟩
theorem y8z(o l:Nat)(u:List Int)(a:Crs):q6e o l u a=((o+a.1.1,l+a.1.2),u++a.2):=rfl
theorem j6b(h:Sp R L M i t nx dp ks)(hc:c<=wd):
  vv R wd i c=(((crs R wd i c).o,(crs R wd i c).l),(if z2n t.root.op=true then [((crs R wd i c).ch:Int)]else [])++(vv R wd (crs R wd i c).np (crs R wd i c).nc).2)/\∃ch,(ch=0\/ch=1)/\crs R wd i c=tkC R wd i c ch:=by
 have D:=h.at;have E:=h.kont;have N:=h.kx;refine⟨?_,?_⟩
 ·cases t with
  | leaf x=>
   have B:(q1r R i).lg≠-1:=by rw[D];simp[z7q,Tr.lg]
   have C:(q1r R i).nd.op=x.op:=by rw[D];rfl
   have A:z2n x.op=false:=by rcases q4a h.wf.1 h.wf.2 with e|e|e|e|e<;>simp[z2n,e]
   rw[crs,if_neg B,C,if_pos A,tkC,j6e,Tr.root,A];dsimp only
   have X:vv R wd i c=q6e (q3p R wd i c 0).o (q3p R wd i c 0).l [] (vv R wd (q3p R wd i c 0).np (q3p R wd i c 0).nc):=by
    rw[q5n h,vv,E];rcases q4a h.wf.1 h.wf.2 with e|e|e|e|e
    ·rw[z9w e,y2p h.wf.1 e hc];dsimp only;rw[vv,N]
    all_goals first
     | (rw[z1a (by omega),y2o (by omega)];dsimp only;rw[vv,N])
     | (rw[z9x (by omega),y2q e];dsimp only;rw[vv,N])
   rw[X];rfl
  | one x a=>
   have V:=q8h h.wf.2.1;have C:(q1r R i).nd.op=x.op:=by rw[D];rfl
   have J:=h.one;have O:q3p R wd i c 1=⟨i+1,c,0,0⟩:=by rw[q7b h,z0z (by omega)]
   rcases V with e|e
   ·have B:(q1r R i).lg≠-1:=by rw[D];simp[z7q,Tr.lg,e]
    have A:z2n x.op=false:=by simp[z2n,e]
    have G:q3p R wd i c 0=⟨i+1,c,0,0⟩:=by rw[q7b h,z0z (by omega)]
    rw[crs,if_neg B,C,if_pos A,tkC,j6e,Tr.root,A,G];dsimp only;rw[vv,E,y2m e,vv,J.kont];simp
   ·have A:z2n x.op=true:=by simp[z2n,e]
    have B:(q1r R i).lg=lgF a.flat:=by rw[D];simp[z7q,Tr.lg,e]
    have W:x.n.toNat=0:=by have:=q2d h.wf.1;omega
    have S:kont R (i+1)=(dp,a)::ks:=by rw[J.kont,W];rfl
    cases H:a.flat with
    | none=>
     rw[H]at B;rw[crs,if_pos (show(q1r R i).lg=-1 from B),tkC,j6e,Tr.root,A,O];dsimp only;rw[vv,E,y2n (by omega) H,y8z,vv,S];simp
    | some s=>
     rw[H]at B;have I:(q1r R i).lg≠-1:=by rw[B,lgF];omega
     have G:q3p R wd i c 0=⟨nx,min (c+s.length) wd,c+s.length-wd,0⟩:=by
      rw[q7b h,z9v e rfl,Tr.lg,if_pos e,H];rfl
     rw[crs,if_neg I,C,if_neg (by rw[A];simp),Tr.root,A];rw[vv,E,v4r (by omega) h.wf.2.2 H hc]
     have P:tkC R wd i c 0=⟨(q6e (c+s.length-wd) 0 [0] (bs wd (min (c+s.length) wd) ks)).1.1,(q6e (c+s.length-wd) 0 [0] (bs wd (min (c+s.length) wd) ks)).1.2,0,nx,min (c+s.length) wd⟩:=by
      rw[tkC,j6e,G];simp only[vv,N,q6e]
     have Q:tkC R wd i c 1=⟨(q6e 0 0 [1] (bs wd c ((dp,a)::ks))).1.1,(q6e 0 0 [1] (bs wd c ((dp,a)::ks))).1.2,1,i+1,c⟩:=by
      rw[tkC,j6e,O];simp only[vv,S,q6e]
     rw[P,Q];unfold k1k;dsimp only
     split
     ·simp only[if_true,vv,S,q6e];rfl
     ·simp only[if_true,vv,N,q6e];rfl
  | two x a b=>
   have U:=q7t h.wf.2.1;have C:(q1r R i).nd.op=x.op:=by rw[D];rfl
   have B:(q1r R i).lg≠-1:=by rw[D];simp[z7q,Tr.lg]
   have G:q3p R wd i c 0=⟨i+1,c,0,0⟩:=by rw[q8z h,z0z (by omega)]
   rcases U with e|e
   ·have A:z2n x.op=false:=by simp[z2n,e]
    rw[crs,if_neg B,C,if_pos A,tkC,j6e,Tr.root,A,G];dsimp only;rw[vv,E,y2l e,vv,(h.both1 e).kont];simp
   ·have A:z2n x.op=true:=by simp[z2n,e]
    have J:=h.either1 (by omega);have K:=h.two2;have O:q3p R wd i c 1=⟨i+1+a.sz,c,0,0⟩:=by rw[q8z h,z2q e rfl]
    rw[crs,if_neg B,C,if_neg (by rw[A];simp),Tr.root,A];rw[vv,E,j5n (by omega)]
    have P:tkC R wd i c 0=⟨(q6e 0 0 [0] (bs wd c ((dp,a)::ks))).1.1,(q6e 0 0 [0] (bs wd c ((dp,a)::ks))).1.2,0,i+1,c⟩:=by
     rw[tkC,j6e,G];simp only[vv,J.kont,q6e]
    have Q:tkC R wd i c 1=⟨(q6e 0 0 [1] (bs wd c ((dp,b)::ks))).1.1,(q6e 0 0 [1] (bs wd c ((dp,b)::ks))).1.2,1,i+1+a.sz,c⟩:=by
     rw[tkC,j6e,O];simp only[vv,K.kont,q6e]
    rw[P,Q];unfold k1k;dsimp only
    split
    ·simp only[if_true,vv,K.kont,q6e];rfl
    ·simp only[if_true,vv,J.kont,q6e];rfl
 ·unfold crs
  split
  ·exact⟨1,.inr rfl,rfl⟩
  ·split
   ·exact⟨0,.inl rfl,rfl⟩
   ·split
    ·exact⟨1,.inr rfl,rfl⟩
    ·exact⟨0,.inl rfl,rfl⟩
end
end Go.Proofs.YtchdplceopegoaaGreatDoor
namespace Go.Proofs.YtchdplceopegoaaGreatDoor
open Go Go.RowKit Go.Maps
theorem v6v:laidOutB prog=true:=by kernel_rfl
theorem g3k:(216:TypeId)<prog.types.size:=of_decide_eq_true (by kernel_rfl)
theorem mkt:prog.keyTypeAt 3 216=true:=by kernel_rfl
theorem y6o:Keyed prog 216:=Keyed.of_law (deep_law_laid v6v (m:=3) (by omega) g3k mkt (by rw[Tryz.underlying216]))
theorem g2j:prog.keyType 216=true:=by kernel_rfl
theorem y0q:prog.cellsOf 216=2:=by kernel_rfl
theorem y4t:prog.cellsOf 3=1:=by kernel_rfl
theorem g2i:∃d,prog.types.size=d+1:=⟨396-1,by kernel_rfl⟩
theorem y8m(w:World):(zeroValue 218).run prog w=.ok (.agg #[.int .i64 0,.int .i64 0,.int .i64 0,.int .i64 0,.int .i64 0]) w:=by kernel_rfl
theorem g3f{n:Nat}(h:n<=1000000):(Lit.int .i64 (n:Int)).wf=true:=WalkArith.wf_i64 (by omega)
theorem g2h{p c:Nat}(hp:p<=1000000)(hc:c<=1000000):∃kl,keyOf prog 216 (.agg #[.int .i64 (p:Int),.int .i64 (c:Int)])=some kl:=by
 obtain⟨d,C⟩:=g2i;have A:=g3f hp;have B:=g3f hc
 have D:(Value.agg #[(p:Int),(c:Int)]).formed prog 216=true:=by
  simp[Value.formed,Tryz.underlying216,y0q]
 refine⟨.string (keyBytes [.int .i64 p,.int .i64 c]),?_⟩;unfold keyOf;rw[Tryz.underlying216];simp only[g2j,D,Bool.and_self,if_true,C];simp[Program.keyLits,Tryz.underlying216,Tryz.underlying3,y0q,y4t,Value.cells,A,B]
def cvV(k:Cv):Value:=.agg #[.int .i64 k.o,.int .i64 k.l,.int .i64 k.ch,.int .i64 k.np,.int .i64 k.nc]
def zCv:Cv:=⟨0,0,0,0,0⟩
def cvR(v:Value):Option (DataW Value × List MemPlace):=some (.held v,[])
def g0y(S:Nat->Nat->Bool):Nat:=(List.range 40501).countP fun k=>S (k / 101) (k % 101)
theorem y3a(S:Nat->Nat->Bool):g0y S<=40501:=by
 have:=List.countP_le_length (p:=fun k=>S (k / 101) (k % 101)) (l:=List.range 40501)
 rw[List.length_range]at this;exact this
def k1i(S:Nat->Nat->Bool)(p c:Nat):Nat->Nat->Bool:=fun p' c'=>S p' c'||(decide (p'=p)&&decide (c'=c))
theorem z6u{f g:Nat->Bool}(k:Nat):∀(l:List Nat),k∈l->(∀x,f x=true->g x=true)->f k=false->g k=true->l.countP f+1<=l.countP g
 | [],h,_,_,_=>by simp at h
 | a::l,h,h1,h2,h3=>by
  have hm:l.countP f<=l.countP g:=List.countP_mono_left fun x _=>h1 x
  rw[List.countP_cons,List.countP_cons];by_cases e:a=k
  ·subst e;rw[h2,h3];simp;omega
  ·have h4:=z6u k l (by rcases List.mem_cons.1 h with h|h;exact absurd h.symm e;exact h) h1 h2 h3;cases hf:f a with
   | true=>rw[h1 a hf];omega
   | false=>simp only[Bool.false_eq_true,if_false,Nat.add_zero];exact Nat.le_trans h4 (Nat.le_add_right _ _)
theorem v5a{S:Nat->Nat->Bool}{p c:Nat}(hp:p<=400)(hc:c<=100)(h:S p c=false):g0y S+1<=g0y (k1i S p c):=by
 have A:(p*101+c) / 101=p:=by omega
 have B:(p*101+c) % 101=c:=by omega
 refine z6u (p*101+c) _ (List.mem_range.2 (by omega)) (fun x hx=>?_) ?_ ?_
 ·simp only[k1i,hx,Bool.true_or]
 ·rw[A,B];exact h
 ·simp[k1i,A,B]
def Mem(w:World)(b:Nat)(C:Nat->Nat->Cv)(S:Nat->Nat->Bool):Prop:=
 ∃D n,w.ownsMap prog 216 cvR b n D/\n<=g0y S/\∀p c:Nat,p<=400->c<=100->∀kl,keyOf prog 216 (.agg #[.int .i64 (p:Int),.int .i64 (c:Int)])=some kl->
  Maps.has D kl=S p c/\D.atKey kl (.held (cvV zCv))=.held (cvV (if S p c=true then C p c else zCv))
section
variable {w w':World} {b:Nat} {C:Nat→Nat→Cv} {S:Nat→Nat→Bool} {p c:Nat}
theorem Mem.lt(h:Mem w b C S):b<w.heap.size:=by
 obtain⟨D,n,h,_⟩:=h;exact h.lt
theorem Mem.kept(h:Mem w b C S)(hb:w'.heap[b]?=w.heap[b]?):Mem w' b C S:=by
 obtain⟨D,n,⟨B,A,E,G⟩,H⟩:=h;exact⟨D,n,⟨B,A,hb.trans E,G⟩,H⟩
theorem Mem.look(h:Mem w b C S)(hp:p<=400)(hc:c<=100):(Instr.lookup 212 (.map (some b)) (.agg #[(p:Int),(c:Int)]) false).run prog w=.ok (cvV (if S p c=true then C p c else zCv)) w:=by
 obtain⟨D,n,h,_,G⟩:=h;obtain⟨H,E⟩:=g2h (p:=p) (c:=c) (by omega) (by omega);obtain⟨v,I,A,B⟩:=h.lookup y6o Tryz.underlying212 (y8m w) (zd:=.held (cvV zCv)) (zp:=[]) rfl E;rw[(G p c hp hc H E).2]at B;simp only[cvR,Option.some.injEq,Prod.mk.injEq,DataW.held.injEq]at B;rw[A,B.1]
theorem Mem.look_ok(h:Mem w b C S)(hp:p<=400)(hc:c<=100):(Instr.lookup 212 (.map (some b)) (.agg #[(p:Int),(c:Int)]) true).run prog w=.ok (.tuple #[cvV (if S p c=true then C p c else zCv),.bool (S p c)]) w:=by
 obtain⟨D,n,h,_,G⟩:=h;obtain⟨H,B⟩:=g2h (p:=p) (c:=c) (by omega) (by omega);obtain⟨v,I,A,E⟩:=h.look_ok y6o Tryz.underlying212 (y8m w) (zd:=.held (cvV zCv)) (zp:=[]) rfl B;rw[(G p c hp hc H B).2]at E;simp only[cvR,Option.some.injEq,Prod.mk.injEq,DataW.held.injEq]at E;rw[A,E.1,(G p c hp hc H B).1]
theorem Mem.store(h:Mem w b C S)(hp:p<=400)(hc:c<=100)(hs:S p c=false):
  ∃w',(Instr.mapUpdate 212 (.map (some b)) (.agg #[(p:Int),(c:Int)]) (cvV (C p c))).run prog w=.ok () w'/\Mem w' b C (k1i S p c)/\w.grownBy w' (some b):=by
 obtain⟨D,n,h,N,L⟩:=h;obtain⟨K,A⟩:=g2h (p:=p) (c:=c) (by omega) (by omega);obtain⟨O,E,B,M⟩:=h.update y6o Tryz.underlying212 (by have:=y3a S;unfold maxLen;omega) A (d:=.held (cvV (C p c))) (ps:=[]) (val:=cvV (C p c)) rfl;refine⟨O,E,⟨_,_,B,Nat.le_trans (Nat.add_le_add_right N 1) (v5a hp hc hs),fun p' c' hp' hc' kl' hk'=>?_⟩,M⟩;by_cases e:p'=p/\c'=c
 ·obtain⟨rfl,rfl⟩:=e;have I:kl'=K:=by rw[A]at hk';exact(Option.some.inj hk').symm
  subst I;have H:k1i S p' c' p' c'=true:=by simp[k1i]
  rw[H,if_pos rfl];exact⟨has_put_same h.isMap (y6o.key A) _,atKey_put_same h.isMap (y6o.key A) _ _⟩
 ·have ne:kl'≠K:=by
   intro I;subst I
   have:=y6o.inj hk' A
   simp at this;omega
  have H:k1i S p c p' c'=S p' c':=by
   simp only[k1i];by_cases J:p'=p
   ·have G:¬c'=c:=fun G=>e ⟨J,G⟩
    simp[G]
   ·simp[J]
  rw[H,has_put_other ne,atKey_put_other ne];exact L p' c' hp' hc' kl' hk'
end
theorem Mem.made(w:World)(C:Nat->Nat->Cv):Mem (w.alloc (.map #[] 0)) w.heap.size C (fun _ _=>false):=
 ⟨.map [],0,World.ownsMap_made _ _ _ _,Nat.zero_le _,fun _ _ _ _ _ _=>⟨rfl,rfl⟩⟩
end Go.Proofs.YtchdplceopegoaaGreatDoor
namespace Go.Proofs.YtchdplceopegoaaGreatDoor
open Go Go.RowKit
def q1j(s:Nat)(w:World)(a:Option Addr)(ds:List Nd):Prop:=
 ∀i(h:i<ds.length),∃o,a=some ⟨s,o,none⟩/\w.cell? ⟨s,o+i*3,none⟩=some (.int .i64 ds[i].op)/\w.cell? ⟨s,o+i*3+1,none⟩=some (.string ds[i].tx)/\w.cell? ⟨s,o+i*3+2,none⟩=some (.int .i64 ds[i].n)
theorem q2b.s{w:World}{a:Option Addr}{ds:List Nd}(h:q2b w a ds)(h0:ds≠[]):∃s,s<w.heap.size/\q1j s w a ds:=by
 obtain⟨s,o,rfl,A,_⟩:=h 0 (List.length_pos_iff.2 h0);refine⟨s,A,fun i hi=>?_⟩;obtain⟨b,B,e,_,c⟩:=h i hi;simp only[Option.some.injEq,Addr.mk.injEq,and_true]at e;obtain⟨rfl,rfl⟩:=e;exact⟨o,rfl,c⟩
theorem q1j.nods{s:Nat}{w:World}{a:Option Addr}{ds:List Nd}(h:q1j s w a ds)(hs:s<w.heap.size):q2b w a ds:=by
 intro i A;obtain⟨o,e,c⟩:=h i A;exact⟨s,o,e,hs,c⟩
theorem q1j.kept{s:Nat}{w w':World}{a:Option Addr}{ds:List Nd}(h:q1j s w a ds)(hb:w'.heap[s]?=w.heap[s]?):q1j s w' a ds:=by
 intro i E;obtain⟨o,e,B,C,D⟩:=h i E;have A:∀j,w'.cell? ⟨s,j,none⟩=w.cell? ⟨s,j,none⟩:=fun j=>World.cell?_of_block (w:=w) (a:=⟨s,j,none⟩) hb
 exact⟨o,e,(A _).trans B,(A _).trans C,(A _).trans D⟩
theorem q1j.rest{s:Nat}{w:World}{o:Nat}{x:Nd}{ds:List Nd}(h:q1j s w (some ⟨s,o,none⟩) (x::ds)):q1j s w (some ⟨s,o+3,none⟩) ds:=by
 intro i D;obtain⟨E,e,A,B,C⟩:=h (i+1) (by simp;omega);simp only[Option.some.injEq,Addr.mk.injEq,and_true,true_and]at e;obtain rfl:=e;refine⟨o+3,rfl,?_,?_,?_⟩
 ·rw[show o+3+i*3=o+(i+1)*3 by omega];exact A
 ·rw[show o+3+i*3+1=o+(i+1)*3+1 by omega];exact B
 ·rw[show o+3+i*3+2=o+(i+1)*3+2 by omega];exact C
theorem q1j.slid{s:Nat}{w:World}{o cap:Nat}{x:Nd}{ds:List Nd}(h:q1j s w (some ⟨s,o,none⟩) (x::ds))(hc:ds.length+1<=cap):
  q1j s w (if cap=1 then some ⟨s,o,none⟩else some ⟨s,o+3,none⟩) ds:=by
 by_cases A:cap=1
 ·have:ds=[]:=List.eq_nil_of_length_eq_zero (by omega)
  subst this;exact fun i hi=>by simp at hi
 ·rw[if_neg A];exact h.rest
structure Q where
 op:Int
 tx:ByteArray
 n:Int
 en:Int
 nx:Int
 dp:Int
 lg:Int
def q0:Q:=⟨0,⟨#[]⟩,0,0,0,0,0⟩
def q1(r:Pl):Q:=⟨r.nd.op,r.nd.tx,r.nd.n,r.en,0,0,0⟩
def q2(r:Pl):Q:=⟨r.nd.op,r.nd.tx,r.nd.n,r.en,r.nx,r.dp,r.lg⟩
structure z4h(w:World)(g j:Nat)(q:Q):Prop where
 c0:w.cell? ⟨g,j*7,none⟩=some (.int .i64 q.op)
 c1:w.cell? ⟨g,j*7+1,none⟩=some (.string q.tx)
 c2:w.cell? ⟨g,j*7+2,none⟩=some (.int .i64 q.n)
 c3:w.cell? ⟨g,j*7+3,none⟩=some (.int .i64 q.en)
 c4:w.cell? ⟨g,j*7+4,none⟩=some (.int .i64 q.nx)
 c5:w.cell? ⟨g,j*7+5,none⟩=some (.int .i64 q.dp)
 c6:w.cell? ⟨g,j*7+6,none⟩=some (.int .i64 q.lg)
def q7w(w:World)(b:Nat):Prop:=∃cs T,w.heap[b]?=some (.cells cs T (0,0))
theorem q7w.frozen{w:World}{b i:Nat}(h:q7w w b):w.frozen? (b,i)=false:=by
 obtain⟨A,T,h⟩:=h;simp[World.frozen?,h]
theorem q7w.lt{w:World}{b:Nat}(h:q7w w b):b<w.heap.size:=by
 obtain⟨B,T,h⟩:=h;rcases Nat.lt_or_ge b w.heap.size with A|A
 ·exact A
 ·simp[Array.getElem?_eq_none A]at h
theorem q7w.kept{w w':World}{b:Nat}(h:q7w w b)(hb:w'.heap[b]?=w.heap[b]?):q7w w' b:=by
 obtain⟨A,T,h⟩:=h;exact⟨A,T,hb.trans h⟩
theorem q7w.set{w:World}{b c i:Nat}{v:Value}(h:q7w w b):q7w (w.setCell (c,i) v) b:=by
 by_cases e:c=b
 ·subst e;obtain⟨A,T,h⟩:=h;exact⟨A.setIfInBounds i v,T,by simp[World.setCell,Array.getElem?_modify,h]⟩
 ·exact h.kept (Below.heap_setCell _ _ _ _ (Ne.symm e))
structure PwR(w:World)(g n:Nat)(F:Nat->Q):Prop where
 get:∀j,j<n->z4h w g j (F j)
 row:q7w w g
theorem z4h.kept{w w':World}{g j:Nat}{q:Q}(h:z4h w g j q)(hb:w'.heap[g]?=w.heap[g]?):z4h w' g j q:=by
 have A:∀k,w'.cell? ⟨g,k,none⟩=w.cell? ⟨g,k,none⟩:=fun k=>World.cell?_of_block (w:=w) (a:=⟨g,k,none⟩) hb
 exact⟨(A _).trans h.c0,(A _).trans h.c1,(A _).trans h.c2,(A _).trans h.c3,(A _).trans h.c4,(A _).trans h.c5,(A _).trans h.c6⟩
theorem PwR.kept{w w':World}{g n:Nat}{F:Nat->Q}(h:PwR w g n F)(hb:w'.heap[g]?=w.heap[g]?):PwR w' g n F:=⟨fun j hj=>(h.get j hj).kept hb,h.row.kept hb⟩
theorem PwR.congr{w:World}{g n:Nat}{F G:Nat->Q}(h:PwR w g n F)(e:∀j,j<n->F j=G j):PwR w g n G:=⟨fun j hj=>e j hj ▸ h.get j hj,h.row⟩
theorem z4h.other{w:World}{g j k f:Nat}{q:Q}{v:Value}(h:z4h w g k q)(hf:f<7)(hk:k≠j):z4h (w.setCell ⟨g,j*7+f,none⟩ v) g k q:=
 ⟨(cso (by omega)).trans h.c0,(cso (by omega)).trans h.c1,(cso (by omega)).trans h.c2,(cso (by omega)).trans h.c3,(cso (by omega)).trans h.c4,(cso (by omega)).trans h.c5,(cso (by omega)).trans h.c6⟩
def upd(F:Nat->Q)(j:Nat)(q:Q):Nat->Q:=fun k=>if k=j then q else F k
theorem q0p(F:Nat->Q)(j:Nat)(q:Q):upd F j q j=q:=by simp[upd]
theorem q1l{F:Nat->Q}{j k:Nat}{q:Q}(h:k≠j):upd F j q k=F k:=by simp[upd,h]
theorem PwR.put{w:World}{g n j f:Nat}{F:Nat->Q}{v:Value}{q:Q}(h:PwR w g n F)(hf:f<7)(hq:z4h (w.setCell ⟨g,j*7+f,none⟩ v) g j q):PwR (w.setCell ⟨g,j*7+f,none⟩ v) g n (upd F j q) where
 get k hk:=by
  by_cases e:k=j
  ·subst e;rw[q0p];exact hq
  ·rw[q1l e];exact(h.get k hk).other hf e
 row:=h.row.set
section
variable {w:World} {g n j:Nat} {F:Nat→Q}
theorem PwR.putOp(h:PwR w g n F)(hj:j<n)(x:Int):PwR (w.setCell (g,j*7) x) g n (upd F j {F j with op:=x}):=by
 have k:=h.get j hj;exact h.put (f:=0) (by omega) ⟨css k.c0,(cso (by omega)).trans k.c1,(cso (by omega)).trans k.c2,(cso (by omega)).trans k.c3,(cso (by omega)).trans k.c4,(cso (by omega)).trans k.c5,(cso (by omega)).trans k.c6⟩
theorem PwR.putTx(h:PwR w g n F)(hj:j<n)(x:ByteArray):PwR (w.setCell (g,j*7+1) (.string x)) g n (upd F j {F j with tx:=x}):=by
 have k:=h.get j hj;exact h.put (f:=1) (by omega) ⟨(cso (by omega)).trans k.c0,css k.c1,(cso (by omega)).trans k.c2,(cso (by omega)).trans k.c3,(cso (by omega)).trans k.c4,(cso (by omega)).trans k.c5,(cso (by omega)).trans k.c6⟩
theorem PwR.putN(h:PwR w g n F)(hj:j<n)(x:Int):PwR (w.setCell (g,j*7+2) x) g n (upd F j {F j with n:=x}):=by
 have k:=h.get j hj;exact h.put (f:=2) (by omega) ⟨(cso (by omega)).trans k.c0,(cso (by omega)).trans k.c1,css k.c2,(cso (by omega)).trans k.c3,(cso (by omega)).trans k.c4,(cso (by omega)).trans k.c5,(cso (by omega)).trans k.c6⟩
theorem PwR.putEn(h:PwR w g n F)(hj:j<n)(x:Int):PwR (w.setCell (g,j*7+3) x) g n (upd F j {F j with en:=x}):=by
 have k:=h.get j hj;exact h.put (f:=3) (by omega) ⟨(cso (by omega)).trans k.c0,(cso (by omega)).trans k.c1,(cso (by omega)).trans k.c2,css k.c3,(cso (by omega)).trans k.c4,(cso (by omega)).trans k.c5,(cso (by omega)).trans k.c6⟩
theorem PwR.putNx(h:PwR w g n F)(hj:j<n)(x:Int):PwR (w.setCell (g,j*7+4) x) g n (upd F j {F j with nx:=x}):=by
 have k:=h.get j hj;exact h.put (f:=4) (by omega) ⟨(cso (by omega)).trans k.c0,(cso (by omega)).trans k.c1,(cso (by omega)).trans k.c2,(cso (by omega)).trans k.c3,css k.c4,(cso (by omega)).trans k.c5,(cso (by omega)).trans k.c6⟩
theorem PwR.putDp(h:PwR w g n F)(hj:j<n)(x:Int):PwR (w.setCell (g,j*7+5) x) g n (upd F j {F j with dp:=x}):=by
 have k:=h.get j hj;exact h.put (f:=5) (by omega) ⟨(cso (by omega)).trans k.c0,(cso (by omega)).trans k.c1,(cso (by omega)).trans k.c2,(cso (by omega)).trans k.c3,(cso (by omega)).trans k.c4,css k.c5,(cso (by omega)).trans k.c6⟩
theorem PwR.putLg(h:PwR w g n F)(hj:j<n)(x:Int):PwR (w.setCell (g,j*7+6) x) g n (upd F j {F j with lg:=x}):=by
 have k:=h.get j hj;exact h.put (f:=6) (by omega) ⟨(cso (by omega)).trans k.c0,(cso (by omega)).trans k.c1,(cso (by omega)).trans k.c2,(cso (by omega)).trans k.c3,(cso (by omega)).trans k.c4,(cso (by omega)).trans k.c5,css k.c6⟩
end
theorem k1b(F:Nat->Q)(j:Nat)(p q:Q):upd (upd F j p) j q=upd F j q:=by
 funext k
 simp only[upd]
 split<;>rfl
theorem ka{w:World}{b o:Nat}{v:Value}(h:w.cell? ⟨b,o,none⟩=some v)(O:Obj):(w.alloc O).cell? ⟨b,o,none⟩=some v:=
 (((Below.refl _ w).alloc Zl O).cell (p:=⟨b,o,none⟩) (World.block_lt_of_cell? w _ h)).trans h
theorem kaf{w:World}{b o:Nat}(hb:b<w.heap.size)(h:w.frozen? ⟨b,o,none⟩=false)(O:Obj):(w.alloc O).frozen? ⟨b,o,none⟩=false:=
 (((Below.refl _ w).alloc Zl O).frozen (p:=⟨b,o,none⟩) hb).trans h
theorem z6n{i n:Nat}(hn:n<=400)(hi:(i:Int)<n):IntKind.i64.wrap ((i:Int)+1)=(i:Int)+1:=by
 rw[IntKind.wrap_i64];omega
set_option maxRecDepth 100000
set_option maxHeartbeats 4000000
theorem j5c(bp g n i:Nat)(op:Int)(w:World)(hn:n<=400)(hi:(i:Int)<n)
  (c0:w.cell? ↑bp=some (.slice ↑g n n)) (d1:w.cell? ↑(g,i*7)=some ↑op) (h6:(op==6)=false) (h9:(op==9)=false) (h7:(op==7)=false) (h8:(op==8)=false):
  Calls prog 161 #[.pointer ↑bp,↑i] w fun e w'=>e=.returned ↑((i:Int)+1)/\∃q,w'=w.drewN q:=by
 have B:=z6n hn hi;have A:(0:Int)<=(i:Int):=by omega
 go_in;go_wp2;go_ret;exact⟨rfl,0,rfl⟩
theorem v4n(bp g n i:Nat)(op x:Int)(w:World)(hn:n<=400)(hi:(i:Int)<n)(B:(i:Int)+1<n)
  (c0:w.cell? bp=some (.slice g n n)) (d1:w.cell? (g,i*7)=some ↑op) (d2:w.cell? (g,(i+1)*7+3)=some ↑x) (A:op=7\/op=8):
  Calls prog 161 #[.pointer bp,i] w fun e w'=>e=.returned x/\∃q,w'=w.drewN q:=by
 have G:=z6n hn hi;have C:(0:Int)<=(i:Int):=by omega
 have D:(0:Int)<=(i:Int)+1:=by omega
 have E:((i:Int)+1).toNat=i+1:=by omega
 rcases A with rfl|rfl
 all_goals
  go_in;go_wp2;go_ret;exact⟨rfl,0,rfl⟩
theorem v4o(bp g n i j:Nat)(op x:Int)(w:World)(hn:n<=400)(hi:(i:Int)<n)(B:(i:Int)+1<n)(hj:(j:Int)<n)
  (c0:w.cell? bp=some (.slice g n n)) (d1:w.cell? (g,i*7)=some ↑op) (d2:w.cell? (g,(i+1)*7+3)=some ↑(j:Int)) (d3:w.cell? (g,j*7+3)=some ↑x) (A:op=6\/op=9):
  Calls prog 161 #[.pointer bp,i] w fun e w'=>e=.returned x/\∃q,w'=w.drewN q:=by
 have H:=z6n hn hi;have C:(0:Int)<=(i:Int):=by omega
 have D:(0:Int)<=(i:Int)+1:=by omega
 have G:((i:Int)+1).toNat=i+1:=by omega
 have E:(0:Int)<=(j:Int):=by omega
 rcases A with rfl|rfl
 all_goals
  go_in;go_wp2_with fail
  go_quiet (fail)
  go_wp2;go_ret;exact⟨rfl,_,rfl⟩
def y6z(g a b:Nat)(e f:Value)(w w':World):Prop:=
 w'.os=w.os/\w'.tape=w.tape/\w'.output=w.output/\w'.heap=((w.setCell ⟨g,a,none⟩ e).setCell ⟨g,b,none⟩ f).heap
theorem j5r(bp g n i:Nat)(x y:Int)(w:World)(hi:(i:Int)<n)
  (c0:w.cell? bp=some (.slice g n n)) (y1 y2:Value) (e5:w.cell? (g,i*7+4)=some y1) (e6:w.cell? (g,i*7+5)=some y2) (z1:w.frozen? (g,i*7+4)=false) (z2:w.frozen? (g,i*7+5)=false):
  Calls prog 192 #[.pointer bp,i,x,y] w fun e w'=>e=.returned (.tuple #[])/\y6z g (i*7+4) (i*7+5) x y w w':=by
 have A:(0:Int)<=(i:Int):=by omega
 go_in
 go_region_held3 (fun w'=>w'.cell? bp=some (.slice g n n))
  (first|exact c0|exact(cso (by omega)).trans c0|exact(cso (by omega)).trans ((cso (by omega)).trans c0)) (fail)
 all_goals
  go_wp2
  go_end0
  exact⟨rfl,rfl,rfl,rfl,rfl⟩
def j6x(n:Int):Bool:=decide (0<=n)&&decide (n<=1000000)
def okC(c:Int × Int):Bool:=j6x c.1&&j6x c.2
theorem z4w{n:Int}(h:j6x n=true):0<=n/\n<=1000000:=by simpa[j6x]using h
theorem j1t{n:Int}(h:j6x n=false):n<0\/(0<=n/\1000000<n):=by
 simp[j6x]at h;omega
theorem z9j(n:Int)(w:World):Cw 258 #[n] w (.bool (j6x n)):=by
 unfold Cw;cases h:j6x n with
 | true=>
  obtain⟨A,C⟩:=z4w h;clear h;go_in;go_wp2;go_ret;exact⟨rfl,rfl⟩
 | false=>
  rcases j1t h with A|⟨A,C⟩
  ·have B:¬0<=n:=by omega
   clear h;go_in;go_wp2;go_ret;exact⟨rfl,rfl⟩
  ·have D:¬n<=1000000:=by omega
   clear h;go_in;go_wp2;go_ret;exact⟨rfl,rfl⟩
theorem k1v(cs:List (Int × Int))(B:Nat)(w:World)(hB:B<w.heap.size)(K:cs.length<=2)
  (hc:∀j(h:j<cs.length),w.cell? ⟨B,j*2,none⟩=some (.int .i64 cs[j].1)/\w.cell? ⟨B,j*2+1,none⟩=some (.int .i64 cs[j].2)):
  Calls prog 245 #[.slice (some ⟨B,0,none⟩) cs.length cs.length] w fun e w'=>((∃c∈cs,okC c=false)/\e=.returned (.iface 24 (.int .i64 1))\/(∀c∈cs,okC c=true)/\e=.returned .nilIface)/\Below w w w':=by
 go_in;go_wp2
 go_loopw [7] (fun i wr=>∃k:Nat,k<=cs.length/\i=.int .i64 k/\(∀c∈cs.take k,okC c=true)/\Below w w wr) (fun i _=>cs.length-(intOf i).toNat)
 case atStart=>exact⟨0,Nat.zero_le _,rfl,by simp,Below.refl _ _⟩
 case round=>
  obtain⟨k,P,rfl,D,G⟩:=hrel;by_cases A:k<cs.length
  ·have L:=(hc k A).1;have M:=(hc k A).2;have N:wr.cell? ⟨B,k*2,none⟩=some (.int .i64 cs[k].1):=(G.cell (p:=⟨B,k*2,none⟩) hB).trans L;have O:wr.cell? ⟨B,k*2+1,none⟩=some (.int .i64 cs[k].2):=(G.cell (p:=⟨B,k*2+1,none⟩) hB).trans M;have H:w.heap.size<=wr.heap.size:=G.size;have E:Below w w (wr.alloc (.cells #[.int .i64 cs[k].1,.int .i64 cs[k].2] 94)):=G.alloc H _;cases I:j6x cs[k].1 with
   | false=>
    go_wp2_with(go_at_call 258;refine(z9j _ _).mono ?_;rintro e w'⟨rfl,rfl⟩);go_ret;exact⟨.inl ⟨⟨cs[k],List.getElem_mem A,by simp[okC,I]⟩,rfl⟩,E⟩
   | true=>
    cases J:j6x cs[k].2 with
    | false=>
     go_wp2_with(go_at_call 258;refine(z9j _ _).mono ?_;rintro e w'⟨rfl,rfl⟩);go_ret;exact⟨.inl ⟨⟨cs[k],List.getElem_mem A,by simp[okC,J]⟩,rfl⟩,E⟩
    | true=>
     go_wp2_with(go_at_call 258;refine(z9j _ _).mono ?_;rintro e w'⟨rfl,rfl⟩)
     go_roundw
     case rel=>
      refine⟨k+1,by omega,by go_num,?_,E⟩;intro c C;rw[List.take_succ_eq_append_getElem A]at C;rcases List.mem_append.1 C with h|h
      ·exact D c h
      ·simp at h;subst h;simp[okC,I,J]
     case measure=>simp[intOf];omega
  ·go_wp2;go_ret;exact⟨.inr ⟨fun c C=>D c (by rw[List.take_of_length_le (by omega)];exact C),rfl⟩,G⟩
theorem z4n(a b:Int × Int)(B:Nat)(w:World)(hB:B<w.heap.size)(ha:okC a=true)(hb:okC b=true)
  (h0:w.cell? B=some ↑a.1) (h1:w.cell? (B,1)=some ↑a.2) (h2:w.cell? (B,2)=some ↑b.1) (h3:w.cell? (B,3)=some ↑b.2):
  Cb 245 #[.slice B 2 2] w .nilIface:=by
 unfold Cb;refine(k1v [a,b] B w hB (by simp) ?_).mono ?_
 ·intro j E
  match j,E with
  | 0,_=>exact⟨h0,h1⟩
  | 1,_=>exact⟨h2,h3⟩
 ·rintro e w'⟨⟨⟨c,C,A⟩,D⟩|⟨_,D⟩,hB⟩
  ·simp at C;rcases C with rfl|rfl
   ·rw[ha]at A;cases A
   ·rw[hb]at A;cases A
  ·exact⟨D,hB⟩
theorem j5w(a:Int × Int)(B:Nat)(w:World)(hB:B<w.heap.size)(ha:okC a=true)
  (h0:w.cell? B=some ↑a.1) (h1:w.cell? (B,1)=some ↑a.2):
  Cb 245 #[.slice B 1 1] w .nilIface:=by
 unfold Cb;refine(k1v [a] B w hB (by simp) ?_).mono ?_
 ·intro j E
  match j,E with
  | 0,_=>exact⟨h0,h1⟩
 ·rintro e w'⟨⟨⟨c,A,D⟩,C⟩|⟨_,C⟩,hB⟩
  ·simp at A;subst A;rw[ha]at D;cases D
  ·exact⟨C,hB⟩
abbrev v5b(a:Int × Int):Value:=.agg #[.int .i64 a.1,.int .i64 a.2]
def z9q(a b:Int × Int):Bool:=if a.1=b.1 then decide (a.2<b.2)else decide (a.1<b.1)
theorem v9w{w w1:World}{A B C:Obj}(hb:Below (((w.alloc A).alloc B).alloc C).heap.size (((w.alloc A).alloc B).alloc C) w1):Below w w w1:=
 (((Zb.alloc Zl _).alloc (by simp) _).alloc (by simp;omega) _).trans (hb.mono (by simp;omega))
theorem y4e(a b:Int × Int)(w:World)(ha:okC a=true)(hb:okC b=true):
  Cb 224 #[v5b a,v5b b] w (.tuple #[.bool (z9q a b),.nilIface]):=by
 unfold Cb;have D:Hid (okC a=true):=ha;have E:Hid (okC b=true):=hb;clear ha hb;by_cases h:a.1=b.1
 ·have C:z9q a b=decide (a.2<b.2):=by simp[z9q,h]
  rw[C];have G:(a.1 != b.1)=false:=by simp[h]
  clear h C;go_in;go_wp2_with fail;refine(z4n a b (w.heap.size+1+1) _ (by simp) D.o E.o (by simp[go_sem]) (by simp[go_sem]) (by simp[go_sem]) (by simp[go_sem])).mono ?_;rintro e I⟨rfl,A⟩;have B:=v9w A;obtain⟨H,_⟩:=q0s A;clear A;go_wp2;go_ret2;exact⟨rfl,B⟩
 ·have C:z9q a b=decide (a.1<b.1):=by simp[z9q,h]
  rw[C];have G:(a.1 != b.1)=true:=by simp[h]
  clear h C;go_in;go_wp2_with fail;refine(z4n a b (w.heap.size+1+1) _ (by simp) D.o E.o (by simp[go_sem]) (by simp[go_sem]) (by simp[go_sem]) (by simp[go_sem])).mono ?_;rintro e I⟨rfl,A⟩;have B:=v9w A;obtain⟨H,_⟩:=q0s A;clear A;go_wp2;go_ret2;exact⟨rfl,B⟩
theorem y7h{w w1:World}{A B C D:Obj}(hb:Below ((((w.alloc A).alloc B).alloc C).alloc D).heap.size ((((w.alloc A).alloc B).alloc C).alloc D) w1):Below w w w1:=
 ((((Zb.alloc Zl _).alloc (by simp) _).alloc (by simp;omega) _).alloc (by simp;omega) _).trans (hb.mono (by simp;omega))
theorem v9v{n:Nat}{w w1 w2:World}{A B:Obj}(h1:Below n w w1)(hn:n<=w.heap.size)(hb:Below ((w1.alloc A).alloc B).heap.size ((w1.alloc A).alloc B) w2):Below n w w2:=
 have h2:=h1.size
 ((h1.alloc (by omega) _).alloc (by simp;omega) _).trans (hb.mono (by simp;omega))
theorem y1i{a:Int × Int}(h:okC a=true):(0<=a.1/\a.1<=1000000)/\(0<=a.2/\a.2<=1000000):=by
 simp only[okC,Bool.and_eq_true]at h;exact⟨z4w h.1,z4w h.2⟩
abbrev g1c(a b:Int × Int):Int × Int:=(a.1+b.1,a.2+b.2)
theorem y7d(a b:Int × Int)(w:World)(ha:okC a=true)(hb:okC b=true)(hn:okC (g1c a b)=true):
  Cb 244 #[v5b a,v5b b] w (.tuple #[.agg #[(a.1+b.1),(a.2+b.2)],.nilIface]):=by
 unfold Cb;obtain⟨⟨c,d⟩,⟨f,g⟩⟩:=y1i ha;obtain⟨⟨h,i⟩,⟨j,k⟩⟩:=y1i hb;have R:=hid ha;have S:=hid hb;have U:Hid (okC (g1c a b)=true):=hn;clear hn ha hb;go_in;go_wp2_with fail;refine(z4n a b (w.heap.size+1+1+1) _ (by simp) R.o S.o (by simp[go_sem]) (by simp[go_sem]) (by simp[go_sem]) (by simp[go_sem])).mono ?_;rintro e A⟨rfl,C⟩;have H:=y7h C;obtain⟨E,K⟩:=q0s C;have Z:w.heap.size+1+1+1<A.heap.size:=by have:=C.size;simp at this;omega
 clear C;have P:A.cell? ↑(w.heap.size+1+1)=some (.int .i64 0):=(E _ _ (by simp only[World.size_alloc];omega)).trans (by simp[go_sem]);have Q:A.cell? (w.heap.size+1+1,1)=some (.int .i64 0):=(E _ _ (by simp only[World.size_alloc];omega)).trans (by simp[go_sem]);have N:A.frozen? ↑(w.heap.size+1+1)=false:=(K _ _ (by simp only[World.size_alloc];omega)).trans (by simp[go_sem]);have O:A.frozen? (w.heap.size+1+1,1)=false:=(K _ _ (by simp only[World.size_alloc];omega)).trans (by simp[go_sem]);have u0:A.cell? w.heap.size=some ↑a.1:=(E _ _ (by simp only[World.size_alloc];omega)).trans (by simp[go_sem]);have u1:A.cell? (w.heap.size,1)=some ↑a.2:=(E _ _ (by simp only[World.size_alloc];omega)).trans (by simp[go_sem]);have X:A.cell? ↑(w.heap.size+1)=some ↑b.1:=(E _ _ (by simp only[World.size_alloc];omega)).trans (by simp[go_sem]);have Y:A.cell? (w.heap.size+1,1)=some ↑b.2:=(E _ _ (by simp only[World.size_alloc];omega)).trans (by simp[go_sem]);clear E K;go_wp2_with fail;refine(j5w (g1c a b) (A.heap.size+1) _ (by simp) U.o (by simp[go_sem]) (by simp[go_sem])).mono ?_;rintro e J⟨rfl,D⟩;have I:=v9v H Zl D;have B:=v9v (Below.refl A.heap.size A) Zl D;obtain⟨G,_⟩:=q0s D;clear D;have L:=(B.cell (p:=↑(w.heap.size+1+1)) (show w.heap.size+1+1<A.heap.size by omega)).trans P;have M:J.cell? (w.heap.size+1+1,1)=some (.int .i64 0):=(B.cell (p:=(w.heap.size+1+1,1)) (show w.heap.size+1+1<A.heap.size by omega)).trans Q;have V:J.frozen? ↑(w.heap.size+1+1)=false:=(B.frozen (p:=↑(w.heap.size+1+1)) (show w.heap.size+1+1<A.heap.size by omega)).trans N;have W:J.frozen? (w.heap.size+1+1,1)=false:=(B.frozen (p:=(w.heap.size+1+1,1)) (show w.heap.size+1+1<A.heap.size by omega)).trans O;have l:J.cell? A.heap.size=some ↑(a.1+b.1):=(G _ _ (by simp only[World.size_alloc];omega)).trans (by simp[go_sem]);have m:J.cell? (A.heap.size,1)=some ↑(a.2+b.2):=(G _ _ (by simp only[World.size_alloc];omega)).trans (by simp[go_sem]);clear G H B P Q N O u0 u1 X Y;go_wp2;exact bodyPost_ret (v:=.tuple #[.agg #[↑(a.1+b.1),↑(a.2+b.2)],.nilIface]) (by simp[results,Tryz.results244,go_sem,L,M]) rfl ⟨rfl,(I.setCell (p:=↑(w.heap.size+1+1)) (by simp;omega) _).setCell (p:=↑(w.heap.size+1+1,1)) (by simp;omega) _⟩
theorem g1p(w:World)(O1 O2 O3:Obj):Below w w (((w.alloc O1).alloc O2).alloc O3):=(((Below.refl _ w).alloc Zl _).alloc (by simp) _).alloc (by simp;omega) _
theorem z2g(bp wd p c k:Nat)(w:World)(hw:wd<=100)(hc:c<=100)(hk:k<=20000)
  (c1:w.cell? (bp,1)=some ↑wd):
  Cb 243 #[.pointer bp,.agg #[p,c],k] w (.tuple #[.agg #[p,((min (c+k) wd:Nat):Int)],.agg #[((c+k-wd:Nat):Int),.int .i64 0]]):=by
 unfold Cb;have H:IntKind.i64.wrap ((c:Int)+(k:Int))=(c:Int)+(k:Int):=by rw[IntKind.wrap_i64];omega
 have I:IntKind.i64.wrap ((c:Int)+(k:Int)-(wd:Int))=(c:Int)+(k:Int)-(wd:Int):=by rw[IntKind.wrap_i64];omega
 have D:=World.block_lt_of_cell? w (bp,1) c1;have A:=fun O1 O2 O3=>g1p w O1 O2 O3
 have C:∀O1 O2 O3,(((w.alloc O1).alloc O2).alloc O3).cell? (bp,1)=some ↑wd:=fun O1 O2 O3=>((A O1 O2 O3).cell (p:=(bp,1)) D).trans c1
 have B:∀O2 O3,(((w.alloc (.cells #[p,c] 216)).alloc O2).alloc O3).cell? w.heap.size=some ↑p:=fun O2 O3=>by simp[go_sem]
 have E:((min (c+k) wd:Nat):Int)=min ((c:Int)+k) wd:=by omega
 have G:((c+k-wd:Nat):Int)=max ((c:Int)+k-wd) 0:=by omega
 rw[E,G];clear E G;go_in;go_wp2_with fail
 go_region_held3 (fun w'=>w'.cell? (bp,1)=some ↑wd/\w'.cell? w.heap.size=some ↑p) (exact⟨C _ _ _,B _ _⟩) (fail)
 all_goals
  go_wp2;exact bodyPost_ret (v:=.tuple #[.agg #[↑p,↑(min ((c:Int)+k) wd)],.agg #[↑(max ((c:Int)+k-wd) 0),.int .i64 0]]) (by simp[results,Tryz.results243,go_sem]) rfl ⟨rfl,(A _ _ _).drew⟩
theorem k5h(bp wd p k:Nat)(w:World)(hw:wd<=100)(hk:k<=20000)(c1:w.cell? (bp,1)=some ↑wd):
  Cb 243 #[.pointer bp,.agg #[p,.int .i64 0],k] w (.tuple #[.agg #[p,((min k wd:Nat):Int)],.agg #[((k-wd:Nat):Int),.int .i64 0]]):=by
 unfold Cb;have h:=z2g bp wd p 0 k w hw (by omega) hk c1;rw[Nat.zero_add]at h;exact h
theorem z0n(op:Int)(tx:ByteArray)(a b c d e:Int)(w:World):
  Cb 165 #[.agg #[op,.string tx,a,b,c,d,e]] w (.bool (z2n op)):=by
 unfold Cb;cases B:(op==8)with
 | true=>
  have A:z2n op=true:=by simp[z2n,beq_iff_eq.1 B]
  rw[A];go_in;go_wp2;go_ret;exact⟨rfl,Zb.alloc Zl _⟩
 | false=>
  cases C:(op==9)with
  | true=>
   have A:z2n op=true:=by simp[z2n,beq_iff_eq.1 C]
   rw[A];go_in;go_wp2;go_ret;exact⟨rfl,Zb.alloc Zl _⟩
  | false=>
   have A:z2n op=false:=by simp[z2n,beq_eq_false_iff_ne.1 B,beq_eq_false_iff_ne.1 C]
   rw[A];go_in;go_wp2;go_ret;exact⟨rfl,Zb.alloc Zl _⟩
theorem k3p{a b:Nat}(ha:a<=1000000)(hb:b<=1000000):okC ((a:Int),(b:Int))=true:=by
 simp[okC,j6x];omega
theorem j5g(a b c d:Nat)(ha:a<=1000000)(hb:b<=1000000)(hc:c<=1000000)(hd:d<=1000000)(w:World):
  Cb 195 #[.agg #[a,b],.agg #[c,d]] w (.bool (decide (q2x (a,b) (c,d)))):=by
 unfold Cb;have B:decide (q2x (a,b) (c,d))=z9q ((a:Int),(b:Int)) ((c:Int),(d:Int)):=by
  rw[Bool.eq_iff_iff,decide_eq_true_eq];unfold z9q q2x;dsimp only
  split
  ·rw[decide_eq_true_eq];omega
  ·rw[decide_eq_true_eq];omega
 rw[B]
 have C:Hid (∀w,Cb 224 #[.agg #[a,b],.agg #[c,d]] w (.tuple #[.bool (z9q ((a:Int),(b:Int)) ((c:Int),(d:Int))),.nilIface])):=fun w=>
  y4e ((a:Int),(b:Int)) ((c:Int),(d:Int)) w (k3p ha hb) (k3p hc hd)
 clear B;generalize z9q ((a:Int),(b:Int)) ((c:Int),(d:Int))=v at *;go_in;go_wp2_with fail;refine(C.o _).mono ?_;rintro e D⟨rfl,A⟩;go_wp2;go_ret;exact⟨rfl,(((Below.refl _ w).alloc Zl _).alloc (by simp) _).trans (A.mono (by simp;omega))⟩
theorem v4u(a b c d:Nat)(ha:a<=400000)(hb:b<=400000)(hc:c<=400000)(hd:d<=400000)(w:World):
  Cb 223 #[.agg #[a,b],.agg #[c,d]] w (.agg #[((a+c:Nat):Int),((b+d:Nat):Int)]):=by
 unfold Cb;have E:((a+c:Nat):Int)=(a:Int)+c:=by omega
 have G:((b+d:Nat):Int)=(b:Int)+d:=by omega
 have H:okC (g1c ((a:Int),(b:Int)) ((c:Int),(d:Int)))=true:=by
  have:=k3p (a:=a+c) (b:=b+d) (by omega) (by omega)
  rw[E,G]at this;exact this
 rw[E,G]
 have I:Hid (∀w,Cb 244 #[.agg #[↑a,↑b],.agg #[↑c,↑d]] w (.tuple #[.agg #[↑((a:Int)+c),↑((b:Int)+d)],.nilIface])):=fun w=>
  y7d ((a:Int),(b:Int)) ((c:Int),(d:Int)) w (k3p (by omega) (by omega)) (k3p (by omega) (by omega)) H
 clear E G H
 generalize(a:Int)+c=v1 at *
 generalize(b:Int)+d=v2 at *
 go_in;go_wp2_with fail;refine(I.o _).mono ?_;rintro e A⟨rfl,B⟩;obtain⟨C,D⟩:=q0s B;have K:w.heap.size+1+1+1<=A.heap.size:=by have:=B.size;simpa using this
 have L:∀O,(A.alloc O).cell? ↑(w.heap.size+1+1)=some (.int .i64 0):=fun O=>(((Below.refl _ A).alloc Zl O).cell (p:=↑(w.heap.size+1+1)) (by simp;omega)).trans ((C _ _ (by simp)).trans (by simp[go_sem]))
 have M:∀O,(A.alloc O).cell? (w.heap.size+1+1,1)=some (.int .i64 0):=fun O=>(((Below.refl _ A).alloc Zl O).cell (p:=(w.heap.size+1+1,1)) (by simp;omega)).trans ((C _ _ (by simp)).trans (by simp[go_sem]))
 have N:∀O,(A.alloc O).frozen? ↑(w.heap.size+1+1)=false:=fun O=>(((Below.refl _ A).alloc Zl O).frozen (p:=↑(w.heap.size+1+1)) (by simp;omega)).trans ((D _ _ (by simp)).trans (by simp[go_sem]))
 have P:∀O,(A.alloc O).frozen? ↑(w.heap.size+1+1,1)=false:=fun O=>(((Below.refl _ A).alloc Zl O).frozen (p:=↑(w.heap.size+1+1,1)) (by simp;omega)).trans ((D _ _ (by simp)).trans (by simp[go_sem]))
 have J:Below w w A:=(g1p w _ _ _).trans (B.mono (by simp;omega));clear C D B;go_wp2;exact bodyPost_ret (v:=.agg #[↑v1,↑v2]) (by simp[results,Tryz.results223,go_sem,L,M]) rfl ⟨rfl,((J.alloc (by omega) _).setCell (p:=↑(w.heap.size+1+1)) (by simp;omega) _).setCell (p:=↑(w.heap.size+1+1,1)) (by simp;omega) _⟩
end Go.Proofs.YtchdplceopegoaaGreatDoor
