import Derived.Test.YthcpdohdppkmkaaGreatDoorPl03
import Derived.Lib.FrozenHead2
import Derived.Lib.OthersKept
import Derived.Lib.Slices
import Derived.Lib.Walk
import Derived.Laws.Externs
import Derived.Shelf.RegionOpenPlain
open Go.Proofs.Tryz
namespace Go.Proofs.YthcpdohdppkmkaaGreatDoor
structure Pl where
 nd:Nd
 en:Nat
 nx:Nat
 dp:Nat
 lg:Int
 t:Tr
 ks:List (Nat × Tr)
def Tr.root:Tr->Nd
 | .leaf x=>x
 | .one x _=>x
 | .two x _ _=>x
def lgF:Option (List UInt8)->Int
 | none=>-1
 | some s=>(s.length:Int)
def Tr.lg:Tr->Int
 | .one x a=>if x.op=8 then lgF a.flat else 0
 | _=>0
def Tr.sz(t:Tr):Nat:=t.N.length
theorem j9y(x:Nd):(Tr.leaf x).sz=1:=rfl
theorem k2n(x:Nd)(a:Tr):(Tr.one x a).sz=1+a.sz:=by simp[Tr.sz,Tr.N];omega
theorem z4v(x:Nd)(a b:Tr):(Tr.two x a b).sz=1+a.sz+b.sz:=by simp[Tr.sz,Tr.N];omega
theorem k8b(t:Tr):0<t.sz:=t.pos
def z6s(t:Tr)(i nx dp:Nat)(ks:List (Nat × Tr)):Pl:=⟨t.root,i+t.sz,nx,dp,t.lg,t,ks⟩
def k2e:Tr->Nat->Nat->Nat->List (Nat × Tr)->List Pl
 | .leaf x,i,nx,dp,ks=>[z6s (.leaf x) i nx dp ks]
 | .one x a,i,nx,dp,ks=>z6s (.one x a) i nx dp ks::k2e a (i+1) nx (dp+x.n.toNat) ks
 | .two x a b,i,nx,dp,ks=>z6s (.two x a b) i nx dp ks::((if x.op=6 then k2e a (i+1) (i+1+a.sz) dp ((dp,b)::ks)else k2e a (i+1) nx dp ks)++k2e b (i+1+a.sz) nx dp ks)
theorem z0k:∀(t:Tr)(i nx dp:Nat)(ks:List (Nat × Tr)),(k2e t i nx dp ks).length=t.sz
 | .leaf x,i,nx,dp,ks=>rfl
 | .one x a,i,nx,dp,ks=>by rw[k2e,List.length_cons,z0k a,k2n];omega
 | .two x a b,i,nx,dp,ks=>by
  rw[k2e,List.length_cons,List.length_append,z0k b,z4v]
  split<;>rw[z0k a]<;>omega
theorem j8z(t:Tr)(i nx dp:Nat)(ks:List (Nat × Tr)):∃r,k2e t i nx dp ks=z6s t i nx dp ks::r:=by
 cases t<;>exact⟨_,rfl⟩
theorem z2a:∀(t:Tr)(i nx dp:Nat)(ks:List (Nat × Tr)),(k2e t i nx dp ks).map (·.nd)=t.N
 | .leaf x,i,nx,dp,ks=>rfl
 | .one x a,i,nx,dp,ks=>by rw[k2e,List.map_cons,z2a a];rfl
 | .two x a b,i,nx,dp,ks=>by
  rw[k2e,List.map_cons,List.map_append,z2a b]
  split<;>rw[z2a a]<;>rfl
def kont(R:List Pl)(i:Nat):List (Nat × Tr):=match R[i]? with|some r=>(r.dp,r.t)::r.ks|none=>[]
theorem k6t{R:List Pl}{i:Nat}(h:R.length<=i):kont R i=[]:=by rw[kont,List.getElem?_eq_none h]
structure Sp(R:List Pl)(L M:Nat)(i:Nat)(t:Tr)(nx dp:Nat)(ks:List (Nat × Tr)):Prop where
 pl:∃post,R.drop i=k2e t i nx dp ks++post
 kx:kont R nx=ks
 lo:i+t.sz<=nx
 hi:nx<=R.length
 wf:t.Wf
 bl:t.lf+lfK ks<=L
 bd:dp+t.dsum<=M
 bk:KB M ks
section
variable {R:List Pl} {L M i nx dp:Nat} {ks:List (Nat × Tr)} {t a b:Tr} {x:Nd}
theorem z0a{l:List Pl}{i:Nat}{r:Pl}{q:List Pl}(h:l.drop i=r::q):l[i]?=some r/\l.drop (i+1)=q:=by
 have B:i<l.length:=by
  rcases Nat.lt_or_ge i l.length with A|A
  ·exact A
  ·rw[List.drop_eq_nil_of_le A]at h;cases h
 rw[List.drop_eq_getElem_cons B,List.cons.injEq]at h;exact⟨by rw[List.getElem?_eq_getElem B,h.1],h.2⟩
theorem y0y{l p q:List Pl}{i:Nat}(h:l.drop i=p++q):l.drop (i+p.length)=q:=by rw[<-List.drop_drop,h,List.drop_left]
theorem Sp.get(h:Sp R L M i t nx dp ks):R[i]?=some (z6s t i nx dp ks):=by
 obtain⟨A,h⟩:=h.pl;obtain⟨r,e⟩:=j8z t i nx dp ks;rw[e]at h;exact(z0a h).1
theorem Sp.kont(h:Sp R L M i t nx dp ks):kont R i=(dp,t)::ks:=by rw[Proofs.YthcpdohdppkmkaaGreatDoor.kont,h.get];rfl
theorem Sp.lt(h:Sp R L M i t nx dp ks):i<R.length:=by have:=k8b t;have:=h.lo;have:=h.hi;omega
theorem Sp.one(h:Sp R L M i (.one x a) nx dp ks):Sp R L M (i+1) a nx (dp+x.n.toNat) ks where
 pl:=by
  obtain⟨A,e⟩:=h.pl;rw[k2e]at e;exact⟨A,(z0a e).2⟩
 kx:=h.kx
 lo:=by have:=h.lo;rw[k2n]at this;omega
 hi:=h.hi
 wf:=h.wf.2.2
 bl:=h.bl
 bd:=by
  have:=h.bd
  have B:=q2c h.wf.1;simp only[Tr.dsum]at this;omega
 bk:=h.bk
theorem Sp.two2(h:Sp R L M i (.two x a b) nx dp ks):Sp R L M (i+1+a.sz) b nx dp ks where
 pl:=by
  obtain⟨A,e⟩:=h.pl;rw[k2e]at e;have B:=(z0a (q:=_++A) e).2;rw[List.append_assoc]at B;have C:=y0y B;refine⟨A,?_⟩;rw[<-C]
  congr 1
  split<;>rw[z0k]
 kx:=h.kx
 lo:=by have:=h.lo;rw[z4v]at this;omega
 hi:=h.hi
 wf:=h.wf.2.2.2
 bl:=by have:=h.bl;simp only[Tr.lf]at this;omega
 bd:=by have:=h.bd;simp only[Tr.dsum]at this;omega
 bk:=h.bk
theorem Sp.both1(h:Sp R L M i (.two x a b) nx dp ks)(h6:x.op=6):Sp R L M (i+1) a (i+1+a.sz) dp ((dp,b)::ks) where
 pl:=by
  obtain⟨B,e⟩:=h.pl;rw[k2e,if_pos h6,List.cons_append,List.append_assoc]at e;exact⟨_,(z0a e).2⟩
 kx:=h.two2.kont
 lo:=Nat.le_refl _
 hi:=by have:=h.lo;have:=h.hi;rw[z4v]at *;omega
 wf:=h.wf.2.2.1
 bl:=by have:=h.bl;simp only[Tr.lf,lfK]at this⊢;omega
 bd:=by have:=h.bd;simp only[Tr.dsum]at this;omega
 bk:=by
  intro p A;rcases List.mem_cons.1 A with rfl|A
  ·exact⟨by have:=h.bd;simp only[Tr.dsum]at this;dsimp only;omega,h.wf.2.2.2⟩
  ·exact h.bk p A
theorem Sp.either1(h:Sp R L M i (.two x a b) nx dp ks)(h6:x.op≠6):Sp R L M (i+1) a nx dp ks where
 pl:=by
  obtain⟨A,e⟩:=h.pl;rw[k2e,if_neg h6,List.cons_append,List.append_assoc]at e;exact⟨_,(z0a e).2⟩
 kx:=h.kx
 lo:=by have:=h.lo;rw[z4v]at this;omega
 hi:=h.hi
 wf:=h.wf.2.2.1
 bl:=by have:=h.bl;simp only[Tr.lf]at this⊢;omega
 bd:=by have:=h.bd;simp only[Tr.dsum]at this;omega
 bk:=h.bk
theorem Sp.two1(h:Sp R L M i (.two x a b) nx dp ks):∃nx' ks',Sp R L M (i+1) a nx' dp ks':=by
 by_cases A:x.op=6
 ·exact⟨_,_,h.both1 A⟩
 ·exact⟨_,_,h.either1 A⟩
end
theorem k7x{R:List Pl}{L M:Nat}:∀(t:Tr)(i nx dp:Nat)(ks:List (Nat × Tr)),Sp R L M i t nx dp ks->∀j,i<=j->j<i+t.sz->∃t' nx' dp' ks',Sp R L M j t' nx' dp' ks'
 | .leaf x,i,nx,dp,ks,h,j,h1,h2=>by
  rw[j9y]at h2;obtain rfl:j=i:=by omega
  exact⟨_,_,_,_,h⟩
 | .one x a,i,nx,dp,ks,h,j,h1,h2=>by
  rw[k2n]at h2;by_cases e:j=i
  ·subst e;exact⟨_,_,_,_,h⟩
  ·exact k7x a _ _ _ _ h.one j (by omega) (by omega)
 | .two x a b,i,nx,dp,ks,h,j,h1,h2=>by
  rw[z4v]at h2;by_cases e:j=i
  ·subst e;exact⟨_,_,_,_,h⟩
  ·by_cases B:j<i+1+a.sz
   ·obtain⟨_,_,A⟩:=h.two1;exact k7x a _ _ _ _ A j (by omega) (by omega)
   ·exact k7x b _ _ _ _ h.two2 j (by omega) (by omega)
def j1l(R:List Pl)(L M:Nat)(p j:Nat):Prop:=(∃x a nx dp ks,Sp R L M p (.one x a) nx dp ks/\j=p+1)\/∃x a b nx dp ks,Sp R L M p (.two x a b) nx dp ks/\(j=p+1\/j=p+1+a.sz)
theorem k7t{R:List Pl}{L M:Nat}:∀(t:Tr)(i nx dp:Nat)(ks:List (Nat × Tr)),Sp R L M i t nx dp ks->∀j,i<j->j<i+t.sz->∃p,p<j/\j1l R L M p j
 | .leaf x,i,nx,dp,ks,h,j,h1,h2=>by rw[j9y]at h2;omega
 | .one x a,i,nx,dp,ks,h,j,h1,h2=>by
  rw[k2n]at h2;by_cases e:j=i+1
  ·exact⟨i,h1,.inl ⟨_,_,_,_,_,h,e⟩⟩
  ·exact k7t a _ _ _ _ h.one j (by omega) (by omega)
 | .two x a b,i,nx,dp,ks,h,j,h1,h2=>by
  rw[z4v]at h2;by_cases e:j=i+1
  ·exact⟨i,h1,.inr ⟨_,_,_,_,_,_,h,.inl e⟩⟩
  ·by_cases e3:j=i+1+a.sz
   ·exact⟨i,h1,.inr ⟨_,_,_,_,_,_,h,.inr e3⟩⟩
   ·by_cases e2:j<i+1+a.sz
    ·obtain⟨_,_,h'⟩:=h.two1;exact k7t a _ _ _ _ h' j (by omega) (by omega)
    ·exact k7t b _ _ _ _ h.two2 j (by omega) (by omega)
def q0a(t:Tr):List Pl:=k2e t 0 t.sz 0 []
theorem q2y(t:Tr):(q0a t).length=t.sz:=z0k t _ _ _ _
theorem z9f{t:Tr}(h:t.Wf):Sp (q0a t) t.lf t.dsum 0 t t.sz 0 [] where
 pl:=⟨[],by simp[q0a]⟩
 kx:=k6t (Nat.le_of_eq (q2y t))
 lo:=by omega
 hi:=Nat.le_of_eq (q2y t).symm
 wf:=h
 bl:=by simp[lfK]
 bd:=by simp
 bk:=by intro p A;simp at A
theorem j9s{t:Tr}(h:t.Wf){j:Nat}(hj:j<(q0a t).length):∃t' nx dp ks,Sp (q0a t) t.lf t.dsum j t' nx dp ks:=
 k7x t 0 _ _ _ (z9f h) j (Nat.zero_le _) (by rw[q2y]at hj;omega)
theorem k2c{t:Tr}(h:t.Wf){j:Nat}(h0:0<j)(hj:j<(q0a t).length):∃p,p<j/\j1l (q0a t) t.lf t.dsum p j:=
 k7t t 0 _ _ _ (z9f h) j h0 (by rw[q2y]at hj;omega)
/-! ### Moves and courses -/
def vv(R:List Pl)(wd i c:Nat):Crs:=bs wd c (kont R i)
theorem v9n{R:List Pl}{wd i c:Nat}(h:R.length<=i):vv R wd i c=((0,0),[]):=by rw[vv,k6t h,y4m]
theorem y9o{R:List Pl}{wd L M i c nx dp:Nat}{ks:List (Nat × Tr)}{t:Tr}(h:Sp R L M i t nx dp ks)(hm:L*(21+M)<=400000):(vv R wd i c).1.1<=400000/\(vv R wd i c).1.2<=400000:=by
 have B:=y8h wd c M (kont R i) (by rw[h.kont];intro p A;rcases List.mem_cons.1 A with rfl|A;exact⟨h.bd,h.wf⟩;exact h.bk p A);have C:lfK (kont R i)*(21+M)<=L*(21+M):=Nat.mul_le_mul_right _ (by rw[h.kont];exact h.bl);rw[vv];omega
structure Mv where
 np:Nat
 nc:Nat
 o:Nat
 l:Nat
def mvP(wd:Nat)(op:Int)(k nx dp lg e i c ch:Nat):Mv:=
 if op=1 then⟨nx,min (c+k) wd,c+k-wd,0⟩
 else if op=2\/op=3\/op=4 then⟨nx,min dp wd,dp-wd,1⟩
 else if op=5 then⟨nx,c,0,0⟩
 else if op=8/\ch=0 then⟨nx,min (c+lg) wd,c+lg-wd,0⟩
 else if op=9/\ch=1 then⟨e,c,0,0⟩
 else⟨i+1,c,0,0⟩
section
variable {wd k nx dp lg e i c ch:Nat} {op:Int}
theorem z8s(h:op=1):mvP wd op k nx dp lg e i c ch=⟨nx,min (c+k) wd,c+k-wd,0⟩:=by rw[mvP,if_pos h]
theorem z0f(h:op=2\/op=3\/op=4):mvP wd op k nx dp lg e i c ch=⟨nx,min dp wd,dp-wd,1⟩:=by rw[mvP,if_neg (by omega),if_pos h]
theorem z8t(h:op=5):mvP wd op k nx dp lg e i c ch=⟨nx,c,0,0⟩:=by rw[mvP,if_neg (by omega),if_neg (by omega),if_pos h]
theorem z8r(h:op=8)(h0:ch=0):mvP wd op k nx dp lg e i c ch=⟨nx,min (c+lg) wd,c+lg-wd,0⟩:=by rw[mvP,if_neg (by omega),if_neg (by omega),if_neg (by omega),if_pos ⟨h,h0⟩]
theorem z1w(h:op=9)(h0:ch=1):mvP wd op k nx dp lg e i c ch=⟨e,c,0,0⟩:=by rw[mvP,if_neg (by omega),if_neg (by omega),if_neg (by omega),if_neg (by omega),if_pos ⟨h,h0⟩]
theorem z0e(h:op=6\/op=7\/(op=8/\ch≠0)\/(op=9/\ch≠1)):mvP wd op k nx dp lg e i c ch=⟨i+1,c,0,0⟩:=by rw[mvP,if_neg (by omega),if_neg (by omega),if_neg (by omega),if_neg (by omega),if_neg (by omega)]
end
def mv(wd:Nat)(r:Pl)(e i c ch:Nat):Mv:=mvP wd r.nd.op r.nd.tx.size r.nx r.dp r.lg.toNat e i c ch
def z1s(op:Int):Bool:=decide (op=8)||decide (op=9)
structure Cv where
 o:Nat
 l:Nat
 ch:Nat
 np:Nat
 nc:Nat
def j3m(R:List Pl)(wd ch:Nat)(m:Mv):Cv:=⟨m.o+(vv R wd m.np m.nc).1.1,m.l+(vv R wd m.np m.nc).1.2,ch,m.np,m.nc⟩
def q1p(R:List Pl)(i:Nat):Pl:=R.getD i ⟨⟨0,⟨#[]⟩,0⟩,0,0,0,0,.leaf ⟨0,⟨#[]⟩,0⟩,[]⟩
theorem Sp.at{R:List Pl}{L M i nx dp:Nat}{ks:List (Nat × Tr)}{t:Tr}(h:Sp R L M i t nx dp ks):q1p R i=z6s t i nx dp ks:=by rw[q1p,List.getD,h.get];rfl
def q3i(R:List Pl)(wd i c ch:Nat):Mv:=mv wd (q1p R i) (q1p R (i+1)).en i c ch
def tkC(R:List Pl)(wd i c ch:Nat):Cv:=j3m R wd ch (q3i R wd i c ch)
def crs(R:List Pl)(wd i c:Nat):Cv:=
 if(q1p R i).lg=-1 then tkC R wd i c 1
 else if z1s (q1p R i).nd.op=false then tkC R wd i c 0
 else if q2w ((tkC R wd i c 1).o,(tkC R wd i c 1).l) ((tkC R wd i c 0).o,(tkC R wd i c 0).l)then tkC R wd i c 1 else tkC R wd i c 0
structure y9r(R:List Pl)(wd i:Nat)(m:Mv):Prop where
 lo:i<m.np
 hi:m.np<=R.length
 cl:m.nc<=wd
 bo:m.o<=20000
 bl:m.l<=1
section
variable {R:List Pl} {L M i nx dp wd c ch:Nat} {ks:List (Nat × Tr)} {t:Tr}
theorem y5g{a:Tr}(h:a.Wf)(hn:a.lf<=400):(lgF a.flat).toNat<=8000:=by
 cases A:a.flat with
 | none=>simp[lgF]
 | some s=>have:=q9h a s h A;simp[lgF];omega
theorem q5g{x:Nd}(h:Sp R L M i (.leaf x) nx dp ks):q3i R wd i c ch=mvP wd x.op x.tx.size nx dp 0 (q1p R (i+1)).en i c ch:=by rw[q3i,h.at];rfl
theorem q6w{x:Nd}{a:Tr}(h:Sp R L M i (.one x a) nx dp ks):q3i R wd i c ch=mvP wd x.op x.tx.size nx dp (Tr.lg (.one x a)).toNat (q1p R (i+1)).en i c ch:=by rw[q3i,h.at];rfl
theorem q8n{x:Nd}{a b:Tr}(h:Sp R L M i (.two x a b) nx dp ks):q3i R wd i c ch=mvP wd x.op x.tx.size nx dp 0 (i+1+a.sz) i c ch:=by
 obtain⟨C,B,A⟩:=h.two1;rw[q3i,h.at,A.at];rfl
theorem j6u(h:Sp R L M i t nx dp ks)(hc:c<=wd)(hw:wd<=100)(hL:L<=400)(hM:M<=3200):y9r R wd i (q3i R wd i c ch):=by
 have S:=h.lo;have A:=h.hi;have U:=k8b t;have K:=h.bd;have C:=h.bl;cases t with
 | leaf x=>
  have O:=q2c h.wf.1;rw[q5g h];rcases q3y h.wf.1 h.wf.2 with e|e|e|e|e
  ·rw[z8s e]
   have:=q4d (O.2.2.2.2.1 e)
   exact⟨by dsimp only;omega,A,Nat.min_le_right _ _,by dsimp only;omega,by simp⟩
  all_goals first
   | (rw[z0f (by omega)];exact⟨by dsimp only;omega,A,Nat.min_le_right _ _,by dsimp only;omega,by simp⟩)
   | (rw[z8t (by omega)];exact⟨by dsimp only;omega,A,hc,by simp,by simp⟩)
 | one x a=>
  have E:=h.one;have D:=E.lt;have J:=q7y h.wf.2.1;rw[q6w h];by_cases B:x.op=8/\ch=0
  ·rw[z8r B.1 B.2];have N:(Tr.lg (.one x a)).toNat<=8000:=by rw[Tr.lg,if_pos B.1];exact y5g h.wf.2.2 (by simp only[Tr.lf]at C;omega)
   exact⟨by dsimp only;omega,A,Nat.min_le_right _ _,by dsimp only;omega,by simp⟩
  ·rw[z0e (by omega)];exact⟨by simp,by dsimp only;omega,hc,by simp,by simp⟩
 | two x a b=>
  obtain⟨Q,P,E⟩:=h.two1;have D:=E.lt;have H:=h.two2.lt;have I:=q7k h.wf.2.1;rw[q8n h];by_cases G:x.op=9/\ch=1
  ·rw[z1w G.1 G.2];exact⟨by dsimp only;omega,by dsimp only;omega,hc,by simp,by simp⟩
  ·rw[z0e (by omega)];exact⟨by simp,by dsimp only;omega,hc,by simp,by simp⟩
theorem y5x(o l:Nat)(u:List Int)(a:Crs):q5u o l u a=((o+a.1.1,l+a.1.2),u++a.2):=rfl
theorem j3k(h:Sp R L M i t nx dp ks)(hc:c<=wd):
  vv R wd i c=(((crs R wd i c).o,(crs R wd i c).l),(if z1s t.root.op=true then [((crs R wd i c).ch:Int)]else [])++(vv R wd (crs R wd i c).np (crs R wd i c).nc).2)/\∃ch,(ch=0\/ch=1)/\crs R wd i c=tkC R wd i c ch:=by
 have D:=h.at;have E:=h.kont;have N:=h.kx;refine⟨?_,?_⟩
 ·cases t with
  | leaf x=>
   have B:(q1p R i).lg≠-1:=by rw[D];simp[z6s,Tr.lg]
   have C:(q1p R i).nd.op=x.op:=by rw[D];rfl
   have A:z1s x.op=false:=by rcases q3y h.wf.1 h.wf.2 with e|e|e|e|e<;>simp[z1s,e]
   rw[crs,if_neg B,C,if_pos A,tkC,j3m,Tr.root,A];dsimp only
   have X:vv R wd i c=q5u (q3i R wd i c 0).o (q3i R wd i c 0).l [] (vv R wd (q3i R wd i c 0).np (q3i R wd i c 0).nc):=by
    rw[q5g h,vv,E];rcases q3y h.wf.1 h.wf.2 with e|e|e|e|e
    ·rw[z8s e,y0g h.wf.1 e hc];dsimp only;rw[vv,N]
    all_goals first
     | (rw[z0f (by omega),y0f (by omega)];dsimp only;rw[vv,N])
     | (rw[z8t (by omega),y0h e];dsimp only;rw[vv,N])
   rw[X];rfl
  | one x a=>
   have V:=q7y h.wf.2.1;have C:(q1p R i).nd.op=x.op:=by rw[D];rfl
   have J:=h.one;have O:q3i R wd i c 1=⟨i+1,c,0,0⟩:=by rw[q6w h,z0e (by omega)]
   rcases V with e|e
   ·have B:(q1p R i).lg≠-1:=by rw[D];simp[z6s,Tr.lg,e]
    have A:z1s x.op=false:=by simp[z1s,e]
    have G:q3i R wd i c 0=⟨i+1,c,0,0⟩:=by rw[q6w h,z0e (by omega)]
    rw[crs,if_neg B,C,if_pos A,tkC,j3m,Tr.root,A,G];dsimp only;rw[vv,E,y0d e,vv,J.kont];simp
   ·have A:z1s x.op=true:=by simp[z1s,e]
    have B:(q1p R i).lg=lgF a.flat:=by rw[D];simp[z6s,Tr.lg,e]
    have W:x.n.toNat=0:=by have:=q2c h.wf.1;omega
    have S:kont R (i+1)=(dp,a)::ks:=by rw[J.kont,W];rfl
    cases H:a.flat with
    | none=>
     rw[H]at B;rw[crs,if_pos (show(q1p R i).lg=-1 from B),tkC,j3m,Tr.root,A,O];dsimp only;rw[vv,E,y0e (by omega) H,y5x,vv,S];simp
    | some s=>
     rw[H]at B;have I:(q1p R i).lg≠-1:=by rw[B,lgF];omega
     have G:q3i R wd i c 0=⟨nx,min (c+s.length) wd,c+s.length-wd,0⟩:=by
      rw[q6w h,z8r e rfl,Tr.lg,if_pos e,H];rfl
     rw[crs,if_neg I,C,if_neg (by rw[A];simp),Tr.root,A];rw[vv,E,v2j (by omega) h.wf.2.2 H hc]
     have P:tkC R wd i c 0=⟨(q5u (c+s.length-wd) 0 [0] (bs wd (min (c+s.length) wd) ks)).1.1,(q5u (c+s.length-wd) 0 [0] (bs wd (min (c+s.length) wd) ks)).1.2,0,nx,min (c+s.length) wd⟩:=by
      rw[tkC,j3m,G];simp only[vv,N,q5u]
     have Q:tkC R wd i c 1=⟨(q5u 0 0 [1] (bs wd c ((dp,a)::ks))).1.1,(q5u 0 0 [1] (bs wd c ((dp,a)::ks))).1.2,1,i+1,c⟩:=by
      rw[tkC,j3m,O];simp only[vv,S,q5u]
     rw[P,Q];unfold z9w;dsimp only
     split
     ·simp only[if_true,vv,S,q5u];rfl
     ·simp only[if_true,vv,N,q5u];rfl
  | two x a b=>
   have U:=q7k h.wf.2.1;have C:(q1p R i).nd.op=x.op:=by rw[D];rfl
   have B:(q1p R i).lg≠-1:=by rw[D];simp[z6s,Tr.lg]
   have G:q3i R wd i c 0=⟨i+1,c,0,0⟩:=by rw[q8n h,z0e (by omega)]
   rcases U with e|e
   ·have A:z1s x.op=false:=by simp[z1s,e]
    rw[crs,if_neg B,C,if_pos A,tkC,j3m,Tr.root,A,G];dsimp only;rw[vv,E,y0c e,vv,(h.both1 e).kont];simp
   ·have A:z1s x.op=true:=by simp[z1s,e]
    have J:=h.either1 (by omega);have K:=h.two2;have O:q3i R wd i c 1=⟨i+1+a.sz,c,0,0⟩:=by rw[q8n h,z1w e rfl]
    rw[crs,if_neg B,C,if_neg (by rw[A];simp),Tr.root,A];rw[vv,E,j2t (by omega)]
    have P:tkC R wd i c 0=⟨(q5u 0 0 [0] (bs wd c ((dp,a)::ks))).1.1,(q5u 0 0 [0] (bs wd c ((dp,a)::ks))).1.2,0,i+1,c⟩:=by
     rw[tkC,j3m,G];simp only[vv,J.kont,q5u]
    have Q:tkC R wd i c 1=⟨(q5u 0 0 [1] (bs wd c ((dp,b)::ks))).1.1,(q5u 0 0 [1] (bs wd c ((dp,b)::ks))).1.2,1,i+1+a.sz,c⟩:=by
     rw[tkC,j3m,O];simp only[vv,K.kont,q5u]
    rw[P,Q];unfold z9w;dsimp only
    split
    ·simp only[if_true,vv,K.kont,q5u];rfl
    ·simp only[if_true,vv,J.kont,q5u];rfl
 ·unfold crs
  split
  ·exact⟨1,.inr rfl,rfl⟩
  ·split
   ·exact⟨0,.inl rfl,rfl⟩
   ·split
    ·exact⟨1,.inr rfl,rfl⟩
    ·exact⟨0,.inl rfl,rfl⟩
end
end Go.Proofs.YthcpdohdppkmkaaGreatDoor
namespace Go.Proofs.YthcpdohdppkmkaaGreatDoor
open Go Go.RowKit
def q1k(s:Nat)(w:World)(a:Option Addr)(ds:List Nd):Prop:=
 ∀i(h:i<ds.length),∃o,a=some ⟨s,o,none⟩/\w.cell? ⟨s,o+i*3,none⟩=some (.int .i64 ds[i].op)/\w.cell? ⟨s,o+i*3+1,none⟩=some (.string ds[i].tx)/\w.cell? ⟨s,o+i*3+2,none⟩=some (.int .i64 ds[i].n)
theorem q1u.s{w:World}{a:Option Addr}{ds:List Nd}(h:q1u w a ds)(h0:ds≠[]):∃s,s<w.heap.size/\q1k s w a ds:=by
 obtain⟨s,o,rfl,A,_⟩:=h 0 (List.length_pos_iff.2 h0);refine⟨s,A,fun i hi=>?_⟩;obtain⟨b,B,e,_,c⟩:=h i hi;simp only[Option.some.injEq,Addr.mk.injEq,and_true]at e;obtain⟨rfl,rfl⟩:=e;exact⟨o,rfl,c⟩
theorem q1k.nods{s:Nat}{w:World}{a:Option Addr}{ds:List Nd}(h:q1k s w a ds)(hs:s<w.heap.size):q1u w a ds:=by
 intro i A;obtain⟨o,e,c⟩:=h i A;exact⟨s,o,e,hs,c⟩
theorem q1k.kept{s:Nat}{w w':World}{a:Option Addr}{ds:List Nd}(h:q1k s w a ds)(hb:w'.heap[s]?=w.heap[s]?):q1k s w' a ds:=by
 intro i E;obtain⟨o,e,B,C,D⟩:=h i E;have A:∀j,w'.cell? ⟨s,j,none⟩=w.cell? ⟨s,j,none⟩:=fun j=>World.cell?_of_block (w:=w) (a:=⟨s,j,none⟩) hb
 exact⟨o,e,(A _).trans B,(A _).trans C,(A _).trans D⟩
theorem q1k.rest{s:Nat}{w:World}{o:Nat}{x:Nd}{ds:List Nd}(h:q1k s w (some ⟨s,o,none⟩) (x::ds)):q1k s w (some ⟨s,o+3,none⟩) ds:=by
 intro i D;obtain⟨E,e,A,B,C⟩:=h (i+1) (by simp;omega);simp only[Option.some.injEq,Addr.mk.injEq,and_true,true_and]at e;obtain rfl:=e;refine⟨o+3,rfl,?_,?_,?_⟩
 ·rw[show o+3+i*3=o+(i+1)*3 by omega];exact A
 ·rw[show o+3+i*3+1=o+(i+1)*3+1 by omega];exact B
 ·rw[show o+3+i*3+2=o+(i+1)*3+2 by omega];exact C
theorem q1k.slid{s:Nat}{w:World}{o cap:Nat}{x:Nd}{ds:List Nd}(h:q1k s w (some ⟨s,o,none⟩) (x::ds))(hc:ds.length+1<=cap):
  q1k s w (if cap=1 then some ⟨s,o,none⟩else some ⟨s,o+3,none⟩) ds:=by
 by_cases A:cap=1
 ·have:ds=[]:=List.eq_nil_of_length_eq_zero (by omega)
  subst this;exact fun i hi=>by simp at hi
 ·rw[if_neg A];exact h.rest
set_option maxRecDepth 100000
set_option maxHeartbeats 1000000
structure q0v(B b:Nat)(w w':World):Prop where
 os:w'.os=w.os
 tape:w'.tape=w.tape
 output:w'.output=w.output
 size:w.heap.size<=w'.heap.size
 block:∀k,k<B->k≠b->w'.heap[k]?=w.heap[k]?
section
variable {B b:Nat} {w w' a:World}
theorem q0v.refl(B b:Nat)(w:World):q0v B b w w:=⟨rfl,rfl,rfl,Nat.le_refl _,fun _ _ _=>rfl⟩
theorem q0v.trans{c:World}(h:q0v B b a w)(k:q0v B b w c):q0v B b a c:=
 ⟨k.os.trans h.os,k.tape.trans h.tape,k.output.trans h.output,Nat.le_trans h.size k.size,fun i hi hb=>(k.block i hi hb).trans (h.block i hi hb)⟩
theorem q0v.drew(h:q0v B b a w):q0v B b a w.drew:=⟨h.os,h.tape,h.output,h.size,h.block⟩
theorem q0v.of(h:Below B w w'):q0v B b w w':=⟨h.os,h.tape,h.output,h.size,fun k hk _=>h.block k hk⟩
theorem q0v.W(h:q0v B b w w')(hB:B<=b):Below B w w':=⟨h.os,h.tape,h.output,h.size,fun k hk=>h.block k hk (by omega)⟩
theorem q0v.mono{B':Nat}(h:q0v B b w w')(hB:B'<=B):q0v B' b w w':=⟨h.os,h.tape,h.output,h.size,fun k hk=>h.block k (by omega)⟩
theorem q0v.alloc(h:q0v B b a w)(hB:B<=w.heap.size)(o:Obj):q0v B b a (w.alloc o):=
 h.trans (.of ((Below.refl B w).alloc hB o))
theorem q0v.setCell(h:q0v B b a w){p:Addr}(hp:p.block=b\/B<=p.block)(u:Value):q0v B b a (w.setCell p u):=
 h.trans ⟨rfl,rfl,rfl,by simp[World.setCell],fun k hk hb=>Below.heap_setCell _ _ _ _ (by omega)⟩
theorem q0v.grown{row:Option Nat}(h:q0v B b a w)(hg:w.grownBy w' row)(hB:B<=w.heap.size)(hr:∀k,row=some k->B<=k):q0v B b a w':=
 h.trans ⟨hg.os,hg.tape,hg.output,hg.size,fun k hk _=>hg.block k (by omega) (fun e=>by have:=hr k e.symm;omega)⟩
theorem q0v.cell(h:q0v B b w w'){p:Addr}(hp:p.block<B)(hb:p.block≠b):w'.cell? p=w.cell? p:=World.cell?_of_block (w:=w) (h.block p.block hp hb)
end
def XAt(T:TypeId)(B b:Nat)(p:Value)(bs R:List Value)(w:World):Prop:=
 ∃v,w.heap[b]?=some (.cells (p::v::R).toArray T (0,0))/\w.ownsRowF B 5 1 v bs.length bs/\v.ownBlock≠some b/\(bs=[]->v=.slice none 0 0)
def IsX(T:TypeId)(B b:Nat)(bs R:List Value)(w:World):Prop:=
 XAt T B b (.pointer none) bs R w\/XAt T B b (.pointer (some ⟨b,0,none⟩)) bs R w
section
variable {T:TypeId} {B b:Nat} {p:Value} {bs R:List Value} {w:World}
theorem XAt.cell0(h:XAt T B b p bs R w):w.cell? ⟨b,0,none⟩=some p:=by
 obtain⟨v,A,_⟩:=h;simp[World.cell?,A]
theorem XAt.cellR(h:XAt T B b p bs R w)(i:Nat):w.cell? ⟨b,i+2,none⟩=R[i]?:=by
 obtain⟨v,A,_⟩:=h;simp[World.cell?,A]
theorem XAt.shape(h:XAt T B b p bs R w):w.shape? b=some (T,R.length+2):=by
 obtain⟨v,A,_⟩:=h;simp[World.shape?,A]
theorem XAt.lt(h:XAt T B b p bs R w):b<w.heap.size:=by
 obtain⟨v,C,_⟩:=h;rcases Nat.lt_or_ge b w.heap.size with A|A
 ·exact A
 ·simp[Array.getElem?_eq_none A]at C
theorem XAt.used(h:XAt T B b p bs R w)(q:Value):XAt T B b q bs R (w.setCell ⟨b,0,none⟩ q):=by
 obtain⟨v,E,C,A,D⟩:=h;refine⟨v,?_,?_,A,D⟩
 ·simp[World.setCell,Array.getElem?_modify,E]
 ·exact C.kept (row:=some b) ⟨rfl,rfl,rfl,by simp[World.setCell],fun k _ hk=>Below.heap_setCell _ _ _ _ (fun e=>hk (by simp[e]))⟩ (Or.inr A)
theorem XAt.stored(h:XAt T B b p bs R w)(i:Nat)(q:Value):XAt T B b p bs (R.set i q) (w.setCell ⟨b,i+2,none⟩ q):=by
 obtain⟨v,E,C,A,D⟩:=h;refine⟨v,?_,?_,A,D⟩
 ·simp[World.setCell,Array.getElem?_modify,E]
 ·exact C.kept (row:=some b) ⟨rfl,rfl,rfl,by simp[World.setCell],fun k _ hk=>Below.heap_setCell _ _ _ _ (fun e=>hk (by simp[e]))⟩ (Or.inr A)
theorem XAt.frozen(h:XAt T B b p bs R w)(i:Nat):w.frozen? ⟨b,i,none⟩=false:=by
 obtain⟨v,A,_⟩:=h;simp[World.frozen?,A]
theorem XAt.put{v v':Value}{bs':List Value}(hb:w.heap[b]?=some (.cells (p::v::R).toArray T (0,0)))(A:w.ownsRowF B 5 1 v' bs'.length bs')(D:T≠5)(h0:bs'=[]->v'=.slice none 0 0):
  XAt T B b p bs' R (w.setCell ⟨b,1,none⟩ v'):=by
 have C:=Lib.ownBlock_neF A hb D;refine⟨v',?_,?_,C,h0⟩
 ·simp[World.setCell,Array.getElem?_modify,hb]
 ·exact A.kept (row:=some b) ⟨rfl,rfl,rfl,by simp[World.setCell],fun k _ hk=>Below.heap_setCell _ _ _ _ (fun e=>hk (by simp[e]))⟩ (Or.inr C)
theorem XAt.alloc(h:XAt T B b p bs R w)(o:Obj):XAt T B b p bs R (w.alloc o):=by
 have C:=h.lt;obtain⟨v,G,A,D,E⟩:=h;exact⟨v,(Lib.alloc_old w o b C).trans G,A.kept (World.grownBy_alloc w o none) (by cases H:v.ownBlock<;>simp),D,E⟩
theorem XAt.far{b':Nat}{w':World}{c:Array Value}{t:TypeId}{fz:Nat × Nat}(h:XAt T B b p bs R w)(hx:q0v w b' w w')(D:b≠b')(C:w.heap[b']?=some (.cells c t fz))(ht:t≠5):XAt T B b p bs R w':=by
 have E:=h.lt;obtain⟨v,I,A,G,H⟩:=h;refine⟨v,(hx.block b E D).trans I,A.kept (row:=some b') ⟨hx.os,hx.tape,hx.output,hx.size,fun k hk hkb=>hx.block k hk (fun e=>hkb (by rw[e]))⟩ (Or.inr ?_),G,H⟩;exact Lib.ownBlock_neF A C ht
theorem IsX.at(h:IsX T B b bs R w):∃p,XAt T B b p bs R w:=by
 rcases h with h|h
 ·exact⟨_,h⟩
 ·exact⟨_,h⟩
theorem IsX.lt(h:IsX T B b bs R w):b<w.heap.size:=h.at.elim fun _ h=>h.lt
theorem IsX.cellR(h:IsX T B b bs R w)(i:Nat):w.cell? ⟨b,i+2,none⟩=R[i]?:=h.at.elim fun _ h=>h.cellR i
theorem IsX.frozen(h:IsX T B b bs R w)(i:Nat):w.frozen? ⟨b,i,none⟩=false:=h.at.elim fun _ h=>h.frozen i
theorem IsX.alloc(h:IsX T B b bs R w)(o:Obj):IsX T B b bs R (w.alloc o):=h.imp (·.alloc o) (·.alloc o)
theorem IsX.stored(h:IsX T B b bs R w)(i:Nat)(q:Value):IsX T B b bs (R.set i q) (w.setCell ⟨b,i+2,none⟩ q):=h.imp (·.stored i q) (·.stored i q)
theorem IsX.drew(h:IsX T B b bs R w):IsX T B b bs R w.drew:=h
theorem IsX.far{b':Nat}{w':World}{c:Array Value}{t:TypeId}{fz:Nat × Nat}(h:IsX T B b bs R w)(hx:q0v w b' w w')(hbb:b≠b')(hb':w.heap[b']?=some (.cells c t fz))(ht:t≠5):IsX T B b bs R w':=h.imp (·.far hx hbb hb' ht) (·.far hx hbb hb' ht)
theorem IsX.fresh(T:TypeId)(w:World)(R:List Value):IsX T w.heap.size w.heap.size [] R (w.alloc (.cells (.pointer none::.slice none 0 0::R).toArray T)):=
 Or.inl ⟨.slice none 0 0,heap_alloc_new w _,World.ownsRowF_nil _ _ _ _,by simp[Value.ownBlock],fun _=>rfl⟩
theorem IsX.unused(T:TypeId)(B b:Nat)(w:World)(R:List Value)(h:w.heap[b]?=some (.cells (.pointer none::.slice none 0 0::R).toArray T (0,0))):IsX T B b [] R w:=
 Or.inl ⟨.slice none 0 0,h,World.ownsRowF_nil _ _ _ _,by simp[Value.ownBlock],fun _=>rfl⟩
end
theorem y3q:(prog.info? 5).map (fun i=>(i.zero,i.size,i.bytes))=some (some (.int .u8 0),1,1):=by kernel_rfl
theorem v9o:prog.cellsOf 5=1:=by kernel_rfl
theorem v7g:(prog.info? 96).map (·.size)=some 2:=by kernel_rfl
theorem k5n(b:Nat)(w:World)(h0:w.cell? ⟨b,0,none⟩=some (.pointer (some ⟨b,0,none⟩))):
  Calls prog 84 #[.pointer (some ⟨b,0,none⟩)] w fun e w'=>e=.returned (.tuple #[])/\w'=w:=by
 obtain⟨j,A,_⟩:=Option.map_eq_some_iff.1 v7g;go_in;go_wp2;rw[Lib.run_neq_ptr_same w _ Tryz.underlying93 A];go_wp2
 go_end0
 exact⟨rfl,rfl⟩
theorem k2r(T n b:Nat)(w:World)(hl:liesAt prog prog.depth T (n / prog.cellsOf T) 0 96 1=true)(h0:w.cell? ⟨b,0,none⟩=some (.pointer none))(B:w.shape? b=some (T,n))(hn:0<n)(H:w.frozen? ⟨b,0,none⟩=false):
  Calls prog 84 #[.pointer (some ⟨b,0,none⟩)] w fun e w'=>e=.returned (.tuple #[])/\w'=w.setCell ⟨b,0,none⟩ (.pointer (some ⟨b,0,none⟩)):=by
 obtain⟨j,D,A⟩:=Option.map_eq_some_iff.1 v7g;have G:Hid (liesAt prog prog.depth T (n / prog.cellsOf T) 0 96 1=true):=hl;have C:Hid (w.shape? b=some (T,n)):=B;have E:Hid (j.size≠0):=(show j.size≠0 by rw[A];decide);clear hl B A;go_in;go_wp2;rw[Lib.run_to_unsafe w ⟨b,0,none⟩ Tryz.underlying93 Tryz.underlying219 D E.o C.o hn];simp only[Result.andThen];rw[Oper.upon_value];go_wp2;rw[run_callFunc_extern func140 (by kernel_rfl) (by kernel_rfl) (by kernel_rfl) (e:=Extern.AbiNoEscape.same) (by kernel_rfl)];rw[Lib.run_noEscape];simp only[Result.andThen];rw[Oper.upon_value];go_wp2;rw[Lib.run_from_unsafe w ⟨b,0,none⟩ Tryz.underlying219 Tryz.underlying93 D C.o G.o];simp only[Result.andThen];rw[Oper.upon_value];go_wp2
 go_end0
 exact⟨rfl,rfl⟩
def z7k(T n:Nat):Prop:=liesAt prog prog.depth T (n / prog.cellsOf T) 0 96 1=true
theorem z7g(T B b:Nat)(bs R:List Value)(w:World)(hl:z7k T (R.length+2))(h:IsX T B b bs R w):
  Calls prog 84 #[.pointer (some ⟨b,0,none⟩)] w fun e w'=>e=.returned (.tuple #[])/\(XAt T B b (.pointer (some ⟨b,0,none⟩)) bs R w'/\q0v B b w w'/\Lib.OthersKept 5 (some b) w w'):=by
 rcases h with h|h
 ·refine(k2r T (R.length+2) b w hl h.cell0 h.shape (by omega) (h.frozen 0)).mono ?_;rintro e w'⟨rfl,rfl⟩;exact⟨rfl,h.used _,(q0v.refl B b w).setCell (p:=⟨b,0,none⟩) (.inl rfl) _,(Lib.OthersKept.refl _ _ w).setCell ⟨b,0,none⟩ rfl _⟩
 ·refine(k5n b w h.cell0).mono ?_;rintro e w'⟨rfl,rfl⟩;exact⟨rfl,h,q0v.refl B b _,Lib.OthersKept.refl _ _ _⟩
set_option maxHeartbeats 2000000
theorem v1h(T B b:Nat)(bs R:List Value)(c:Int)(w:World)(hl:z7k T (R.length+2))(hT:T≠5)(h:IsX T B b bs R w)(W:bs.length+1<=140737488355328)(f:B<=w.heap.size):
  Calls prog 55 #[.pointer (some ⟨b,0,none⟩),.int .u8 c] w fun e w'=>e=.returned .nilIface/\(IsX T B b (bs++[.int .u8 c]) R w'/\q0v B b w w'/\Lib.OthersKept 5 (some b) w w'):=by
 obtain⟨m,i,S,U,V⟩:=info_parts y3q;have Y:Hid (z7k T (R.length+2)):=hl;have Z:Hid (T≠5):=hT;have H:Hid (IsX T B b bs R w):=h;clear hl hT h;go_in;go_wp2_with(go_at_call 84;refine(z7g T B b bs R _ Y.o H.o).mono ?_);rintro e K⟨rfl,d,G,O⟩;obtain⟨v,J,C,Q,_⟩:=d;have o:K.cell? ⟨b,0,none⟩=some (.pointer (some ⟨b,0,none⟩)):=by rw[Lib.cell_of_heap J];rfl
 have c1:K.cell? ⟨b,1,none⟩=some v:=by rw[Lib.cell_of_heap J];rfl
 go_wp2_with(at_builtin;refine wpList_append_ownF _ rfl _ _ 94 rfl B 5 m (.int .u8 0) 1 1 Tryz.underlying94 i S U V rfl (by decide) _ _ _ rfl (C.alloc _) ⟨K,0,none⟩ 1 1 [.int .u8 c] rfl rfl ?c1 ?c2 ?c3 ?c4 ?c5 ?_)
 case c1=>
  intro j u L
  match j,L with
  | 0,L=>simp at L;subst L;simp[Addr.add]
 case c2=>intro u X;simp at X;subst X;rfl
 case c3=>unfold maxLen;omega
 case c4=>omega
 case c5=>have:=G.size;simp;omega
 intro n M D A _
 have P:b<K.heap.size:=by
  rcases Nat.lt_or_ge b K.heap.size with N|N
  ·exact N
  ·simp[Array.getElem?_eq_none N]at J
 have I:M.heap[b]?=some (.cells (.pointer (some ⟨b,0,none⟩)::v::R).toArray T (0,0)):=by
  rw[A.block b (by simp;omega) (fun e=>Q e.symm),Lib.alloc_old K _ b P];exact J
 have q:M.cell? ⟨b,0,none⟩=some (.pointer (some ⟨b,0,none⟩)):=by rw[Lib.cell_of_heap I];rfl
 have r:M.cell? ⟨b,1,none⟩=some v:=by rw[Lib.cell_of_heap I];rfl
 have s:M.frozen? ⟨b,1,none⟩=false:=Lib.frozen_of_heap I 1
 obtain⟨g,E,rfl⟩:∃g E,n=.slice (some ⟨g,0,none⟩) (bs.length+1) E:=by
  rcases D.2 with⟨_,x⟩|⟨g,E,a,t,l,_⟩
  ·omega
  ·exact⟨g,E,l⟩
 go_wp2;go_ret;refine⟨rfl,.inr ?_,?_,((O.alloc _).grown A (Lib.ownsRowF_kind (C.alloc _))).setCell ⟨b,1,none⟩ rfl _⟩
 ·exact XAt.put I (bs':=bs++[.int .u8 c]) (by simpa using D) Z.o (fun h=>by simp at h)
 ·exact((G.alloc (by have:=G.size;omega) _).grown A (by have:=G.size;simp;omega) (fun k hk=>(C.lt k hk).1)).setCell (p:=⟨b,1,none⟩) (.inl rfl) _
theorem z5h(T B b:Nat)(bs R:List Value)(s:ByteArray)(w:World)(hl:z7k T (R.length+2))(hT:T≠5)(h:IsX T B b bs R w)(a:bs.length+s.size<=140737488355328)(o:B<=w.heap.size):
  Calls prog 47 #[.pointer (some ⟨b,0,none⟩),.string s] w fun e w'=>e=.returned (.tuple #[.int .i64 s.size,.nilIface])/\(IsX T B b (bs++Lib.strCells s) R w'/\q0v B b w w'/\Lib.OthersKept 5 (some b) w w'):=by
 obtain⟨r,q,V,W,X⟩:=info_parts y3q;have i:Hid (z7k T (R.length+2)):=hl;have j:Hid (T≠5):=hT;have H:Hid (IsX T B b bs R w):=h;clear hl hT h;go_in;go_wp2_with(go_at_call 84;refine(z7g T B b bs R _ i.o H.o).mono ?_);rintro e L⟨rfl,O,K,P⟩;obtain⟨v,G,C,S,Z⟩:=O;have f:Hid (bs=[]->v=.slice none 0 0):=Z;clear Z;have t:L.cell? ⟨b,0,none⟩=some (.pointer (some ⟨b,0,none⟩)):=by rw[Lib.cell_of_heap G];rfl
 have u:L.cell? ⟨b,1,none⟩=some v:=by rw[Lib.cell_of_heap G];rfl
 go_wp2_with(at_builtin;refine Lib.wpList_append_own_stringF _ rfl _ _ 94 9 rfl B 5 r Tryz.underlying94 Tryz.underlying9 q V W X _ _ _ rfl C s rfl ?c3 ?c4 ?c5 ?_)
 case c3=>unfold maxLen;omega
 case c4=>omega
 case c5=>have:=K.size;omega
 intro d M D A I;have l:Hid (d=.slice none 0 0↔v=.slice none 0 0/\s.size=0):=(show _↔_ by simpa using I);clear I
 have Q:b<L.heap.size:=by
  rcases Nat.lt_or_ge b L.heap.size with N|N
  ·exact N
  ·simp[Array.getElem?_eq_none N]at G
 have E:M.heap[b]?=some (.cells (.pointer (some ⟨b,0,none⟩)::v::R).toArray T (0,0)):=by
  rw[A.block b Q (fun e=>S e.symm)];exact G
 have x:M.cell? ⟨b,0,none⟩=some (.pointer (some ⟨b,0,none⟩)):=by rw[Lib.cell_of_heap E];rfl
 have y:M.cell? ⟨b,1,none⟩=some v:=by rw[Lib.cell_of_heap E];rfl
 have z:M.frozen? ⟨b,1,none⟩=false:=Lib.frozen_of_heap E 1
 obtain⟨Y,c,J,rfl⟩:∃Y c J,d=.slice Y c J:=by
  rcases D.2 with⟨U,_⟩|⟨g,J,m,fz,U,_⟩
  ·exact⟨_,_,_,U⟩
  ·exact⟨_,_,_,U⟩
 go_wp2;go_ret2;refine⟨rfl,.inr ?_,?_,(P.grown A (Lib.ownsRowF_kind C)).setCell ⟨b,1,none⟩ rfl _⟩
 ·refine XAt.put E (bs':=bs++Lib.strCells s) (by simpa[Lib.strCells_length]using D) j.o (fun h=>?_);obtain⟨O,n⟩:=List.append_eq_nil_iff.1 h;refine l.o.2 ⟨f.o O,?_⟩;rw[<-Lib.strCells_length,n];rfl
 ·exact(K.grown A (by have:=K.size;omega) (fun k hk=>(C.lt k hk).1)).setCell (p:=⟨b,1,none⟩) (.inl rfl) _
theorem v1j(T B b:Nat)(l:List UInt8)(R:List Value)(w:World)(h:IsX T B b (Lib.byteCells l) R w)(h0:l≠[]):
  Calls prog 48 #[.pointer (some ⟨b,0,none⟩)] w fun e w'=>e=.returned (.string ⟨l.toArray⟩)/\Below B w w':=by
 obtain⟨p,G⟩:=h.at;obtain⟨v,I,D,V,_⟩:=G;have L:l.length≠0:=by simpa using h0
 rw[Lib.byteCells_length]at D
 obtain⟨g,A,C,E,rfl,H,S,Q,U,J,P,M⟩:∃g A C E,v=.slice (some ⟨g,0,none⟩) l.length A/\B<=g/\w.heap[g]?=some (.cells C 5 E)/\E.2<=l.length*1/\l.length<=A/\A<=maxLen/\C.size=A*1/\C.toList.take (l.length*1)=Lib.byteCells l:=by
  rcases D.2 with⟨_,Y⟩|⟨g,A,C,E,W,r⟩
  ·exact absurd Y L
  ·exact⟨g,A,C,E,W,r⟩
 have Z:w.drew.cell? ⟨b,1,none⟩=some (.slice (some ⟨g,0,none⟩) l.length A):=by
  have:w.drew.heap[b]?=some (.cells (p::.slice (some ⟨g,0,none⟩) l.length A::R).toArray T (0,0)):=I
  rw[Lib.cell_of_heap this];rfl
 have N:(Builtin.unsafeSliceData_ #[94] 155 #[.slice (some ⟨g,0,none⟩) l.length A]).run prog w.drew=.ok (.pointer (some ⟨g,0,none⟩)) w.drew:=
  Lib.run_unsafeSliceData_row _ _ _ _ _ _ (by omega)
 have O:(Builtin.unsafeString_ #[155,3] 9 #[.pointer (some ⟨g,0,none⟩),.int .i64 l.length]).run prog w.drew=.ok (.string ⟨l.toArray⟩) (w.drew.freeze ⟨g,0,none⟩ l.length):=by
  refine Lib.run_unsafeString_row w.drew 155 3 9 5 Tryz.underlying155 v9o g C.size (by have K:w.drew.heap[g]?=some (.cells C 5 E):=S;simp[World.shape?,K]) l h0 (by omega) (by unfold maxLen at J;omega) ?_;intro j x X
  have:=D.cells (g:=g) rfl j (.int .u8 x.toNat) (by simp[Lib.byteCells,X])
  exact this
 go_in;go_wp2
 go_region
 all_goals (go_wp2;go_ret;exact⟨rfl,Lib.below_freeze (Below.drew (Below.refl B w)) (p:=⟨g,0,none⟩) H _⟩)
theorem v1i(T B b:Nat)(R:List Value)(w:World)(h:IsX T B b [] R w):
  Calls prog 48 #[.pointer (some ⟨b,0,none⟩)] w fun e w'=>e=.returned (.string ⟨#[]⟩)/\Below B w w':=by
 obtain⟨p,C⟩:=h.at;obtain⟨v,D,A,E,G⟩:=C;obtain rfl:=G rfl;clear A E G;have I:∀(W:World)(q:Option Addr),(Builtin.unsafeString_ #[155,3] 9 #[.pointer q,.int .i64 0]).run prog W=.ok (.string .empty) W:=fun W q=>Lib.run_unsafeString_none W _ _ _ q
 have J:w.drew.cell? ⟨b,1,none⟩=some (.slice none 0 0):=by
  have:w.drew.heap[b]?=some (.cells (p::.slice none 0 0::R).toArray T (0,0)):=D
  rw[Lib.cell_of_heap this];rfl
 have H:(Builtin.unsafeSliceData_ #[94] 155 #[.slice none 0 0]).run prog w.drew=.ok (.pointer none) w.drew:=rfl;go_in;go_wp2
 go_region
 all_goals (go_wp2;go_ret;exact⟨rfl,Below.drew (Below.refl B w)⟩)
theorem k8k(T B b:Nat)(l:List UInt8)(R:List Value)(w:World)(h:IsX T B b (Lib.byteCells l) R w):
  Calls prog 48 #[.pointer (some ⟨b,0,none⟩)] w fun e w'=>e=.returned (.string ⟨l.toArray⟩)/\Below B w w':=by
 by_cases A:l=[]
 ·subst A;exact v1i T B b R w h
 ·exact v1j T B b l R w h A
end Go.Proofs.YthcpdohdppkmkaaGreatDoor
