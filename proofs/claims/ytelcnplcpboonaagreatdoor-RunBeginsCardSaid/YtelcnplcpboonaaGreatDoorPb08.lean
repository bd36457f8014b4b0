import Derived.Test.YtelcnplcpboonaaGreatDoorPb04
import Derived.Deep.RegionHeld3
import Derived.Deep.OwnRows
import Derived.Deep.DeepCutAuto
import Derived.BigQuiet
import Derived.BigRegion
open Go.Proofs.Tryz
namespace Go.Proofs.YtelcnplcpboonaaGreatDoor
structure Pl where
 nd:Nd
 en:Nat
 nx:Nat
 dp:Nat
 lg:Int
 t:Tr
 ks:List (Nat × Tr)
def Tr.root:Tr->Nd
 | .leaf x=>x
 | .one x _=>x
 | .two x _ _=>x
def lgF:Option (List UInt8)->Int
 | none=>-1
 | some s=>(s.length:Int)
def Tr.lg:Tr->Int
 | .one x a=>if x.op=8 then lgF a.flat else 0
 | _=>0
def Tr.sz(t:Tr):Nat:=t.N.length
theorem j7x(x:Nd):(Tr.leaf x).sz=1:=rfl
theorem k1b(x:Nd)(a:Tr):(Tr.one x a).sz=1+a.sz:=by simp[Tr.sz,Tr.N];omega
theorem z3s(x:Nd)(a b:Tr):(Tr.two x a b).sz=1+a.sz+b.sz:=by simp[Tr.sz,Tr.N];omega
theorem k7c(t:Tr):0<t.sz:=t.pos
def z5s(t:Tr)(i nx dp:Nat)(ks:List (Nat × Tr)):Pl:=⟨t.root,i+t.sz,nx,dp,t.lg,t,ks⟩
def k0i:Tr->Nat->Nat->Nat->List (Nat × Tr)->List Pl
 | .leaf x,i,nx,dp,ks=>[z5s (.leaf x) i nx dp ks]
 | .one x a,i,nx,dp,ks=>z5s (.one x a) i nx dp ks::k0i a (i+1) nx (dp+x.n.toNat) ks
 | .two x a b,i,nx,dp,ks=>z5s (.two x a b) i nx dp ks::((if x.op=6 then k0i a (i+1) (i+1+a.sz) dp ((dp,b)::ks)else k0i a (i+1) nx dp ks)++k0i b (i+1+a.sz) nx dp ks)
theorem q9e:∀(t:Tr)(i nx dp:Nat)(ks:List (Nat × Tr)),(k0i t i nx dp ks).length=t.sz
 | .leaf x,i,nx,dp,ks=>rfl
 | .one x a,i,nx,dp,ks=>by rw[k0i,List.length_cons,q9e a,k1b];omega
 | .two x a b,i,nx,dp,ks=>by
  rw[k0i,List.length_cons,List.length_append,q9e b,z3s]
  split<;>rw[q9e a]<;>omega
theorem j6v(t:Tr)(i nx dp:Nat)(ks:List (Nat × Tr)):∃r,k0i t i nx dp ks=z5s t i nx dp ks::r:=by
 cases t<;>exact⟨_,rfl⟩
theorem z0t:∀(t:Tr)(i nx dp:Nat)(ks:List (Nat × Tr)),(k0i t i nx dp ks).map (·.nd)=t.N
 | .leaf x,i,nx,dp,ks=>rfl
 | .one x a,i,nx,dp,ks=>by rw[k0i,List.map_cons,z0t a];rfl
 | .two x a b,i,nx,dp,ks=>by
  rw[k0i,List.map_cons,List.map_append,z0t b]
  split<;>rw[z0t a]<;>rfl
def kont(R:List Pl)(i:Nat):List (Nat × Tr):=match R[i]? with|some r=>(r.dp,r.t)::r.ks|none=>[]
theorem k5n{R:List Pl}{i:Nat}(h:R.length<=i):kont R i=[]:=by rw[kont,List.getElem?_eq_none h]
structure Sp(R:List Pl)(L M:Nat)(i:Nat)(t:Tr)(nx dp:Nat)(ks:List (Nat × Tr)):Prop where
 pl:∃post,R.drop i=k0i t i nx dp ks++post
 kx:kont R nx=ks
 lo:i+t.sz<=nx
 hi:nx<=R.length
 wf:t.Wf
 bl:t.lf+lfK ks<=L
 bd:dp+t.dsum<=M
 bk:KB M ks
section
variable {R:List Pl} {L M i nx dp:Nat} {ks:List (Nat × Tr)} {t a b:Tr} {x:Nd}
theorem q8r{l:List Pl}{i:Nat}{r:Pl}{q:List Pl}(h:l.drop i=r::q):l[i]?=some r/\l.drop (i+1)=q:=by
 have B:i<l.length:=by
  rcases Nat.lt_or_ge i l.length with A|A
  ·exact A
  ·rw[List.drop_eq_nil_of_le A]at h;cases h
 rw[List.drop_eq_getElem_cons B,List.cons.injEq]at h;exact⟨by rw[List.getElem?_eq_getElem B,h.1],h.2⟩
theorem v9h{l p q:List Pl}{i:Nat}(h:l.drop i=p++q):l.drop (i+p.length)=q:=by rw[<-List.drop_drop,h,List.drop_left]
theorem Sp.get(h:Sp R L M i t nx dp ks):R[i]?=some (z5s t i nx dp ks):=by
 obtain⟨A,h⟩:=h.pl;obtain⟨r,e⟩:=j6v t i nx dp ks;rw[e]at h;exact(q8r h).1
theorem Sp.kont(h:Sp R L M i t nx dp ks):kont R i=(dp,t)::ks:=by rw[Proofs.YtelcnplcpboonaaGreatDoor.kont,h.get];rfl
theorem Sp.lt(h:Sp R L M i t nx dp ks):i<R.length:=by have:=k7c t;have:=h.lo;have:=h.hi;omega
theorem Sp.one(h:Sp R L M i (.one x a) nx dp ks):Sp R L M (i+1) a nx (dp+x.n.toNat) ks where
 pl:=by
  obtain⟨A,e⟩:=h.pl;rw[k0i]at e;exact⟨A,(q8r e).2⟩
 kx:=h.kx
 lo:=by have:=h.lo;rw[k1b]at this;omega
 hi:=h.hi
 wf:=h.wf.2.2
 bl:=h.bl
 bd:=by
  have:=h.bd
  have B:=q1s h.wf.1;simp only[Tr.dsum]at this;omega
 bk:=h.bk
theorem Sp.two2(h:Sp R L M i (.two x a b) nx dp ks):Sp R L M (i+1+a.sz) b nx dp ks where
 pl:=by
  obtain⟨A,e⟩:=h.pl;rw[k0i]at e;have B:=(q8r (q:=_++A) e).2;rw[List.append_assoc]at B;have C:=v9h B;refine⟨A,?_⟩;rw[<-C]
  congr 1
  split<;>rw[q9e]
 kx:=h.kx
 lo:=by have:=h.lo;rw[z3s]at this;omega
 hi:=h.hi
 wf:=h.wf.2.2.2
 bl:=by have:=h.bl;simp only[Tr.lf]at this;omega
 bd:=by have:=h.bd;simp only[Tr.dsum]at this;omega
 bk:=h.bk
theorem Sp.both1(h:Sp R L M i (.two x a b) nx dp ks)(h6:x.op=6):Sp R L M (i+1) a (i+1+a.sz) dp ((dp,b)::ks) where
 pl:=by
  obtain⟨B,e⟩:=h.pl;rw[k0i,if_pos h6,List.cons_append,List.append_assoc]at e;exact⟨_,(q8r e).2⟩
 kx:=h.two2.kont
 lo:=Nat.le_refl _
 hi:=by have:=h.lo;have:=h.hi;rw[z3s]at *;omega
 wf:=h.wf.2.2.1
 bl:=by have:=h.bl;simp only[Tr.lf,lfK]at this⊢;omega
 bd:=by have:=h.bd;simp only[Tr.dsum]at this;omega
 bk:=by
  intro p A;rcases List.mem_cons.1 A with rfl|A
  ·exact⟨by have:=h.bd;simp only[Tr.dsum]at this;dsimp only;omega,h.wf.2.2.2⟩
  ·exact h.bk p A
theorem Sp.either1(h:Sp R L M i (.two x a b) nx dp ks)(h6:x.op≠6):Sp R L M (i+1) a nx dp ks where
 pl:=by
  obtain⟨A,e⟩:=h.pl;rw[k0i,if_neg h6,List.cons_append,List.append_assoc]at e;exact⟨_,(q8r e).2⟩
 kx:=h.kx
 lo:=by have:=h.lo;rw[z3s]at this;omega
 hi:=h.hi
 wf:=h.wf.2.2.1
 bl:=by have:=h.bl;simp only[Tr.lf]at this⊢;omega
 bd:=by have:=h.bd;simp only[Tr.dsum]at this;omega
 bk:=h.bk
theorem Sp.two1(h:Sp R L M i (.two x a b) nx dp ks):∃nx' ks',Sp R L M (i+1) a nx' dp ks':=by
 by_cases A:x.op=6
 ·exact⟨_,_,h.both1 A⟩
 ·exact⟨_,_,h.either1 A⟩
end
theorem k6x{R:List Pl}{L M:Nat}:∀(t:Tr)(i nx dp:Nat)(ks:List (Nat × Tr)),Sp R L M i t nx dp ks->∀j,i<=j->j<i+t.sz->∃t' nx' dp' ks',Sp R L M j t' nx' dp' ks'
 | .leaf x,i,nx,dp,ks,h,j,h1,h2=>by
  rw[j7x]at h2;obtain rfl:j=i:=by omega
  exact⟨_,_,_,_,h⟩
 | .one x a,i,nx,dp,ks,h,j,h1,h2=>by
  rw[k1b]at h2;by_cases e:j=i
  ·subst e;exact⟨_,_,_,_,h⟩
  ·exact k6x a _ _ _ _ h.one j (by omega) (by omega)
 | .two x a b,i,nx,dp,ks,h,j,h1,h2=>by
  rw[z3s]at h2;by_cases e:j=i
  ·subst e;exact⟨_,_,_,_,h⟩
  ·by_cases B:j<i+1+a.sz
   ·obtain⟨_,_,A⟩:=h.two1;exact k6x a _ _ _ _ A j (by omega) (by omega)
   ·exact k6x b _ _ _ _ h.two2 j (by omega) (by omega)
def j0q(R:List Pl)(L M:Nat)(p j:Nat):Prop:=(∃x a nx dp ks,Sp R L M p (.one x a) nx dp ks/\j=p+1)\/∃x a b nx dp ks,Sp R L M p (.two x a b) nx dp ks/\(j=p+1\/j=p+1+a.sz)
theorem k6k{R:List Pl}{L M:Nat}:∀(t:Tr)(i nx dp:Nat)(ks:List (Nat × Tr)),Sp R L M i t nx dp ks->∀j,i<j->j<i+t.sz->∃p,p<j/\j0q R L M p j
 | .leaf x,i,nx,dp,ks,h,j,h1,h2=>by rw[j7x]at h2;omega
 | .one x a,i,nx,dp,ks,h,j,h1,h2=>by
  rw[k1b]at h2;by_cases e:j=i+1
  ·exact⟨i,h1,.inl ⟨_,_,_,_,_,h,e⟩⟩
  ·exact k6k a _ _ _ _ h.one j (by omega) (by omega)
 | .two x a b,i,nx,dp,ks,h,j,h1,h2=>by
  rw[z3s]at h2;by_cases e:j=i+1
  ·exact⟨i,h1,.inr ⟨_,_,_,_,_,_,h,.inl e⟩⟩
  ·by_cases e3:j=i+1+a.sz
   ·exact⟨i,h1,.inr ⟨_,_,_,_,_,_,h,.inr e3⟩⟩
   ·by_cases e2:j<i+1+a.sz
    ·obtain⟨_,_,h'⟩:=h.two1;exact k6k a _ _ _ _ h' j (by omega) (by omega)
    ·exact k6k b _ _ _ _ h.two2 j (by omega) (by omega)
def q0a(t:Tr):List Pl:=k0i t 0 t.sz 0 []
theorem q2d(t:Tr):(q0a t).length=t.sz:=q9e t _ _ _ _
theorem z7w{t:Tr}(h:t.Wf):Sp (q0a t) t.lf t.dsum 0 t t.sz 0 [] where
 pl:=⟨[],by simp[q0a]⟩
 kx:=k5n (Nat.le_of_eq (q2d t))
 lo:=by omega
 hi:=Nat.le_of_eq (q2d t).symm
 wf:=h
 bl:=by simp[lfK]
 bd:=by simp
 bk:=by intro p A;simp at A
theorem j7r{t:Tr}(h:t.Wf){j:Nat}(hj:j<(q0a t).length):∃t' nx dp ks,Sp (q0a t) t.lf t.dsum j t' nx dp ks:=
 k6x t 0 _ _ _ (z7w h) j (Nat.zero_le _) (by rw[q2d]at hj;omega)
theorem k0h{t:Tr}(h:t.Wf){j:Nat}(h0:0<j)(hj:j<(q0a t).length):∃p,p<j/\j0q (q0a t) t.lf t.dsum p j:=
 k6k t 0 _ _ _ (z7w h) j h0 (by rw[q2d]at hj;omega)
/-! ### Moves and courses -/
def vv(R:List Pl)(wd i c:Nat):Crs:=bs wd c (kont R i)
theorem v7s{R:List Pl}{wd i c:Nat}(h:R.length<=i):vv R wd i c=((0,0),[]):=by rw[vv,k5n h,y3y]
theorem y9m{R:List Pl}{wd L M i c nx dp:Nat}{ks:List (Nat × Tr)}{t:Tr}(h:Sp R L M i t nx dp ks)(hm:L*(21+M)<=400000):(vv R wd i c).1.1<=400000/\(vv R wd i c).1.2<=400000:=by
 have B:=y8m wd c M (kont R i) (by rw[h.kont];intro p A;rcases List.mem_cons.1 A with rfl|A;exact⟨h.bd,h.wf⟩;exact h.bk p A);have C:lfK (kont R i)*(21+M)<=L*(21+M):=Nat.mul_le_mul_right _ (by rw[h.kont];exact h.bl);rw[vv];omega
structure Mv where
 np:Nat
 nc:Nat
 o:Nat
 l:Nat
def mvP(wd:Nat)(op:Int)(k nx dp lg e i c ch:Nat):Mv:=
 if op=1 then⟨nx,min (c+k) wd,c+k-wd,0⟩
 else if op=2\/op=3\/op=4 then⟨nx,min dp wd,dp-wd,1⟩
 else if op=5 then⟨nx,c,0,0⟩
 else if op=8/\ch=0 then⟨nx,min (c+lg) wd,c+lg-wd,0⟩
 else if op=9/\ch=1 then⟨e,c,0,0⟩
 else⟨i+1,c,0,0⟩
section
variable {wd k nx dp lg e i c ch:Nat} {op:Int}
theorem z7m(h:op=1):mvP wd op k nx dp lg e i c ch=⟨nx,min (c+k) wd,c+k-wd,0⟩:=by rw[mvP,if_pos h]
theorem q9a(h:op=2\/op=3\/op=4):mvP wd op k nx dp lg e i c ch=⟨nx,min dp wd,dp-wd,1⟩:=by rw[mvP,if_neg (by omega),if_pos h]
theorem z7n(h:op=5):mvP wd op k nx dp lg e i c ch=⟨nx,c,0,0⟩:=by rw[mvP,if_neg (by omega),if_neg (by omega),if_pos h]
theorem z7l(h:op=8)(h0:ch=0):mvP wd op k nx dp lg e i c ch=⟨nx,min (c+lg) wd,c+lg-wd,0⟩:=by rw[mvP,if_neg (by omega),if_neg (by omega),if_neg (by omega),if_pos ⟨h,h0⟩]
theorem z0q(h:op=9)(h0:ch=1):mvP wd op k nx dp lg e i c ch=⟨e,c,0,0⟩:=by rw[mvP,if_neg (by omega),if_neg (by omega),if_neg (by omega),if_neg (by omega),if_pos ⟨h,h0⟩]
theorem q8z(h:op=6\/op=7\/(op=8/\ch≠0)\/(op=9/\ch≠1)):mvP wd op k nx dp lg e i c ch=⟨i+1,c,0,0⟩:=by rw[mvP,if_neg (by omega),if_neg (by omega),if_neg (by omega),if_neg (by omega),if_neg (by omega)]
end
def mv(wd:Nat)(r:Pl)(e i c ch:Nat):Mv:=mvP wd r.nd.op r.nd.tx.size r.nx r.dp r.lg.toNat e i c ch
def z0l(op:Int):Bool:=decide (op=8)||decide (op=9)
structure Cv where
 o:Nat
 l:Nat
 ch:Nat
 np:Nat
 nc:Nat
def j2t(R:List Pl)(wd ch:Nat)(m:Mv):Cv:=⟨m.o+(vv R wd m.np m.nc).1.1,m.l+(vv R wd m.np m.nc).1.2,ch,m.np,m.nc⟩
def q1e(R:List Pl)(i:Nat):Pl:=R.getD i ⟨⟨0,⟨#[]⟩,0⟩,0,0,0,0,.leaf ⟨0,⟨#[]⟩,0⟩,[]⟩
theorem Sp.at{R:List Pl}{L M i nx dp:Nat}{ks:List (Nat × Tr)}{t:Tr}(h:Sp R L M i t nx dp ks):q1e R i=z5s t i nx dp ks:=by rw[q1e,List.getD,h.get];rfl
def q2p(R:List Pl)(wd i c ch:Nat):Mv:=mv wd (q1e R i) (q1e R (i+1)).en i c ch
def tkC(R:List Pl)(wd i c ch:Nat):Cv:=j2t R wd ch (q2p R wd i c ch)
def crs(R:List Pl)(wd i c:Nat):Cv:=
 if(q1e R i).lg=-1 then tkC R wd i c 1
 else if z0l (q1e R i).nd.op=false then tkC R wd i c 0
 else if q2y ((tkC R wd i c 1).o,(tkC R wd i c 1).l) ((tkC R wd i c 0).o,(tkC R wd i c 0).l)then tkC R wd i c 1 else tkC R wd i c 0
structure y9r(R:List Pl)(wd i:Nat)(m:Mv):Prop where
 lo:i<m.np
 hi:m.np<=R.length
 cl:m.nc<=wd
 bo:m.o<=20000
 bl:m.l<=1
section
variable {R:List Pl} {L M i nx dp wd c ch:Nat} {ks:List (Nat × Tr)} {t:Tr}
theorem y5a{a:Tr}(h:a.Wf)(hn:a.lf<=400):(lgF a.flat).toNat<=8000:=by
 cases A:a.flat with
 | none=>simp[lgF]
 | some s=>have:=q7v a s h A;simp[lgF];omega
theorem q4h{x:Nd}(h:Sp R L M i (.leaf x) nx dp ks):q2p R wd i c ch=mvP wd x.op x.tx.size nx dp 0 (q1e R (i+1)).en i c ch:=by rw[q2p,h.at];rfl
theorem q5s{x:Nd}{a:Tr}(h:Sp R L M i (.one x a) nx dp ks):q2p R wd i c ch=mvP wd x.op x.tx.size nx dp (Tr.lg (.one x a)).toNat (q1e R (i+1)).en i c ch:=by rw[q2p,h.at];rfl
theorem q7f{x:Nd}{a b:Tr}(h:Sp R L M i (.two x a b) nx dp ks):q2p R wd i c ch=mvP wd x.op x.tx.size nx dp 0 (i+1+a.sz) i c ch:=by
 obtain⟨C,B,A⟩:=h.two1;rw[q2p,h.at,A.at];rfl
theorem j5v(h:Sp R L M i t nx dp ks)(hc:c<=wd)(hw:wd<=100)(hL:L<=400)(hM:M<=3200):y9r R wd i (q2p R wd i c ch):=by
 have S:=h.lo;have A:=h.hi;have U:=k7c t;have K:=h.bd;have C:=h.bl;cases t with
 | leaf x=>
  have O:=q1s h.wf.1;rw[q4h h];rcases q4t h.wf.1 h.wf.2 with e|e|e|e|e
  ·rw[z7m e]
   have:=q3y (O.2.2.2.2.1 e)
   exact⟨by dsimp only;omega,A,Nat.min_le_right _ _,by dsimp only;omega,by simp⟩
  all_goals first
   | (rw[q9a (by omega)];exact⟨by dsimp only;omega,A,Nat.min_le_right _ _,by dsimp only;omega,by simp⟩)
   | (rw[z7n (by omega)];exact⟨by dsimp only;omega,A,hc,by simp,by simp⟩)
 | one x a=>
  have E:=h.one;have D:=E.lt;have J:=z1g h.wf.2.1;rw[q5s h];by_cases B:x.op=8/\ch=0
  ·rw[z7l B.1 B.2];have N:(Tr.lg (.one x a)).toNat<=8000:=by rw[Tr.lg,if_pos B.1];exact y5a h.wf.2.2 (by simp only[Tr.lf]at C;omega)
   exact⟨by dsimp only;omega,A,Nat.min_le_right _ _,by dsimp only;omega,by simp⟩
  ·rw[q8z (by omega)];exact⟨by simp,by dsimp only;omega,hc,by simp,by simp⟩
 | two x a b=>
  obtain⟨Q,P,E⟩:=h.two1;have D:=E.lt;have H:=h.two2.lt;have I:=q9q h.wf.2.1;rw[q7f h];by_cases G:x.op=9/\ch=1
  ·rw[z0q G.1 G.2];exact⟨by dsimp only;omega,by dsimp only;omega,hc,by simp,by simp⟩
  ·rw[q8z (by omega)];exact⟨by simp,by dsimp only;omega,hc,by simp,by simp⟩
theorem y6g(o l:Nat)(u:List Int)(a:Crs):q4v o l u a=((o+a.1.1,l+a.1.2),u++a.2):=rfl
theorem j2p(h:Sp R L M i t nx dp ks)(hc:c<=wd):
  vv R wd i c=(((crs R wd i c).o,(crs R wd i c).l),(if z0l t.root.op=true then [((crs R wd i c).ch:Int)]else [])++(vv R wd (crs R wd i c).np (crs R wd i c).nc).2)/\∃ch,(ch=0\/ch=1)/\crs R wd i c=tkC R wd i c ch:=by
 have D:=h.at;have E:=h.kont;have N:=h.kx;refine⟨?_,?_⟩
 ·cases t with
  | leaf x=>
   have B:(q1e R i).lg≠-1:=by rw[D];simp[z5s,Tr.lg]
   have C:(q1e R i).nd.op=x.op:=by rw[D];rfl
   have A:z0l x.op=false:=by rcases q4t h.wf.1 h.wf.2 with e|e|e|e|e<;>simp[z0l,e]
   rw[crs,if_neg B,C,if_pos A,tkC,j2t,Tr.root,A];dsimp only
   have X:vv R wd i c=q4v (q2p R wd i c 0).o (q2p R wd i c 0).l [] (vv R wd (q2p R wd i c 0).np (q2p R wd i c 0).nc):=by
    rw[q4h h,vv,E];rcases q4t h.wf.1 h.wf.2 with e|e|e|e|e
    ·rw[z7m e,v8n h.wf.1 e hc];dsimp only;rw[vv,N]
    all_goals first
     | (rw[q9a (by omega),v8m (by omega)];dsimp only;rw[vv,N])
     | (rw[z7n (by omega),v8o e];dsimp only;rw[vv,N])
   rw[X];rfl
  | one x a=>
   have V:=z1g h.wf.2.1;have C:(q1e R i).nd.op=x.op:=by rw[D];rfl
   have J:=h.one;have O:q2p R wd i c 1=⟨i+1,c,0,0⟩:=by rw[q5s h,q8z (by omega)]
   rcases V with e|e
   ·have B:(q1e R i).lg≠-1:=by rw[D];simp[z5s,Tr.lg,e]
    have A:z0l x.op=false:=by simp[z0l,e]
    have G:q2p R wd i c 0=⟨i+1,c,0,0⟩:=by rw[q5s h,q8z (by omega)]
    rw[crs,if_neg B,C,if_pos A,tkC,j2t,Tr.root,A,G];dsimp only;rw[vv,E,v8k e,vv,J.kont];simp
   ·have A:z0l x.op=true:=by simp[z0l,e]
    have B:(q1e R i).lg=lgF a.flat:=by rw[D];simp[z5s,Tr.lg,e]
    have W:x.n.toNat=0:=by have:=q1s h.wf.1;omega
    have S:kont R (i+1)=(dp,a)::ks:=by rw[J.kont,W];rfl
    cases H:a.flat with
    | none=>
     rw[H]at B;rw[crs,if_pos (show(q1e R i).lg=-1 from B),tkC,j2t,Tr.root,A,O];dsimp only;rw[vv,E,v8l (by omega) H,y6g,vv,S];simp
    | some s=>
     rw[H]at B;have I:(q1e R i).lg≠-1:=by rw[B,lgF];omega
     have G:q2p R wd i c 0=⟨nx,min (c+s.length) wd,c+s.length-wd,0⟩:=by
      rw[q5s h,z7l e rfl,Tr.lg,if_pos e,H];rfl
     rw[crs,if_neg I,C,if_neg (by rw[A];simp),Tr.root,A];rw[vv,E,v0r (by omega) h.wf.2.2 H hc]
     have P:tkC R wd i c 0=⟨(q4v (c+s.length-wd) 0 [0] (bs wd (min (c+s.length) wd) ks)).1.1,(q4v (c+s.length-wd) 0 [0] (bs wd (min (c+s.length) wd) ks)).1.2,0,nx,min (c+s.length) wd⟩:=by
      rw[tkC,j2t,G];simp only[vv,N,q4v]
     have Q:tkC R wd i c 1=⟨(q4v 0 0 [1] (bs wd c ((dp,a)::ks))).1.1,(q4v 0 0 [1] (bs wd c ((dp,a)::ks))).1.2,1,i+1,c⟩:=by
      rw[tkC,j2t,O];simp only[vv,S,q4v]
     rw[P,Q];unfold k6o;dsimp only
     split
     ·simp only[if_true,vv,S,q4v];rfl
     ·simp only[if_true,vv,N,q4v];rfl
  | two x a b=>
   have U:=q9q h.wf.2.1;have C:(q1e R i).nd.op=x.op:=by rw[D];rfl
   have B:(q1e R i).lg≠-1:=by rw[D];simp[z5s,Tr.lg]
   have G:q2p R wd i c 0=⟨i+1,c,0,0⟩:=by rw[q7f h,q8z (by omega)]
   rcases U with e|e
   ·have A:z0l x.op=false:=by simp[z0l,e]
    rw[crs,if_neg B,C,if_pos A,tkC,j2t,Tr.root,A,G];dsimp only;rw[vv,E,v8j e,vv,(h.both1 e).kont];simp
   ·have A:z0l x.op=true:=by simp[z0l,e]
    have J:=h.either1 (by omega);have K:=h.two2;have O:q2p R wd i c 1=⟨i+1+a.sz,c,0,0⟩:=by rw[q7f h,z0q e rfl]
    rw[crs,if_neg B,C,if_neg (by rw[A];simp),Tr.root,A];rw[vv,E,j1w (by omega)]
    have P:tkC R wd i c 0=⟨(q4v 0 0 [0] (bs wd c ((dp,a)::ks))).1.1,(q4v 0 0 [0] (bs wd c ((dp,a)::ks))).1.2,0,i+1,c⟩:=by
     rw[tkC,j2t,G];simp only[vv,J.kont,q4v]
    have Q:tkC R wd i c 1=⟨(q4v 0 0 [1] (bs wd c ((dp,b)::ks))).1.1,(q4v 0 0 [1] (bs wd c ((dp,b)::ks))).1.2,1,i+1+a.sz,c⟩:=by
     rw[tkC,j2t,O];simp only[vv,K.kont,q4v]
    rw[P,Q];unfold k6o;dsimp only
    split
    ·simp only[if_true,vv,K.kont,q4v];rfl
    ·simp only[if_true,vv,J.kont,q4v];rfl
 ·unfold crs
  split
  ·exact⟨1,.inr rfl,rfl⟩
  ·split
   ·exact⟨0,.inl rfl,rfl⟩
   ·split
    ·exact⟨1,.inr rfl,rfl⟩
    ·exact⟨0,.inl rfl,rfl⟩
end
end Go.Proofs.YtelcnplcpboonaaGreatDoor
namespace Go.Proofs.YtelcnplcpboonaaGreatDoor
open Go Go.RowKit
structure Q where
 op:Int
 tx:ByteArray
 n:Int
 en:Int
 nx:Int
 dp:Int
 lg:Int
def q0:Q:=⟨0,⟨#[]⟩,0,0,0,0,0⟩
def q1(r:Pl):Q:=⟨r.nd.op,r.nd.tx,r.nd.n,r.en,0,0,0⟩
def q2(r:Pl):Q:=⟨r.nd.op,r.nd.tx,r.nd.n,r.en,r.nx,r.dp,r.lg⟩
structure z2i(w:World)(g j:Nat)(q:Q):Prop where
 c0:w.cell? ⟨g,j*7,none⟩=some (.int .i64 q.op)
 c1:w.cell? ⟨g,j*7+1,none⟩=some (.string q.tx)
 c2:w.cell? ⟨g,j*7+2,none⟩=some (.int .i64 q.n)
 c3:w.cell? ⟨g,j*7+3,none⟩=some (.int .i64 q.en)
 c4:w.cell? ⟨g,j*7+4,none⟩=some (.int .i64 q.nx)
 c5:w.cell? ⟨g,j*7+5,none⟩=some (.int .i64 q.dp)
 c6:w.cell? ⟨g,j*7+6,none⟩=some (.int .i64 q.lg)
def z2j(w:World)(b:Nat):Prop:=∃cs T,w.heap[b]?=some (.cells cs T (0,0))
theorem z2j.frozen{w:World}{b i:Nat}(h:z2j w b):w.frozen? ⟨b,i,none⟩=false:=by
 obtain⟨A,T,h⟩:=h;simp[World.frozen?,h]
theorem z2j.lt{w:World}{b:Nat}(h:z2j w b):b<w.heap.size:=by
 obtain⟨B,T,h⟩:=h;rcases Nat.lt_or_ge b w.heap.size with A|A
 ·exact A
 ·simp[Array.getElem?_eq_none A]at h
theorem z2j.kept{w w':World}{b:Nat}(h:z2j w b)(hb:w'.heap[b]?=w.heap[b]?):z2j w' b:=by
 obtain⟨A,T,h⟩:=h;exact⟨A,T,hb.trans h⟩
theorem z2j.set{w:World}{b c i:Nat}{v:Value}(h:z2j w b):z2j (w.setCell ⟨c,i,none⟩ v) b:=by
 by_cases e:c=b
 ·subst e;obtain⟨A,T,h⟩:=h;exact⟨A.setIfInBounds i v,T,by simp[World.setCell,Array.getElem?_modify,h]⟩
 ·exact h.kept (Below.heap_setCell _ _ _ _ (Ne.symm e))
structure PwR(w:World)(g n:Nat)(F:Nat->Q):Prop where
 get:∀j,j<n->z2i w g j (F j)
 row:z2j w g
theorem z2i.kept{w w':World}{g j:Nat}{q:Q}(h:z2i w g j q)(hb:w'.heap[g]?=w.heap[g]?):z2i w' g j q:=by
 have A:∀k,w'.cell? ⟨g,k,none⟩=w.cell? ⟨g,k,none⟩:=fun k=>World.cell?_of_block (w:=w) (a:=⟨g,k,none⟩) hb
 exact⟨(A _).trans h.c0,(A _).trans h.c1,(A _).trans h.c2,(A _).trans h.c3,(A _).trans h.c4,(A _).trans h.c5,(A _).trans h.c6⟩
theorem PwR.kept{w w':World}{g n:Nat}{F:Nat->Q}(h:PwR w g n F)(hb:w'.heap[g]?=w.heap[g]?):PwR w' g n F:=⟨fun j hj=>(h.get j hj).kept hb,h.row.kept hb⟩
theorem PwR.congr{w:World}{g n:Nat}{F G:Nat->Q}(h:PwR w g n F)(e:∀j,j<n->F j=G j):PwR w g n G:=⟨fun j hj=>e j hj ▸ h.get j hj,h.row⟩
theorem z2i.other{w:World}{g j k f:Nat}{q:Q}{v:Value}(h:z2i w g k q)(hf:f<7)(hk:k≠j):z2i (w.setCell ⟨g,j*7+f,none⟩ v) g k q:=
 ⟨(cso (by omega)).trans h.c0,(cso (by omega)).trans h.c1,(cso (by omega)).trans h.c2,(cso (by omega)).trans h.c3,(cso (by omega)).trans h.c4,(cso (by omega)).trans h.c5,(cso (by omega)).trans h.c6⟩
def upd(F:Nat->Q)(j:Nat)(q:Q):Nat->Q:=fun k=>if k=j then q else F k
theorem q0k(F:Nat->Q)(j:Nat)(q:Q):upd F j q j=q:=by simp[upd]
theorem q0z{F:Nat->Q}{j k:Nat}{q:Q}(h:k≠j):upd F j q k=F k:=by simp[upd,h]
theorem PwR.put{w:World}{g n j f:Nat}{F:Nat->Q}{v:Value}{q:Q}(h:PwR w g n F)(hf:f<7)(hq:z2i (w.setCell ⟨g,j*7+f,none⟩ v) g j q):PwR (w.setCell ⟨g,j*7+f,none⟩ v) g n (upd F j q) where
 get k hk:=by
  by_cases e:k=j
  ·subst e;rw[q0k];exact hq
  ·rw[q0z e];exact(h.get k hk).other hf e
 row:=h.row.set
section
variable {w:World} {g n j:Nat} {F:Nat→Q}
theorem PwR.putOp(h:PwR w g n F)(hj:j<n)(x:Int):PwR (w.setCell ⟨g,j*7,none⟩ (.int .i64 x)) g n (upd F j {F j with op:=x}):=by
 have k:=h.get j hj;exact h.put (f:=0) (by omega) ⟨css k.c0,(cso (by omega)).trans k.c1,(cso (by omega)).trans k.c2,(cso (by omega)).trans k.c3,(cso (by omega)).trans k.c4,(cso (by omega)).trans k.c5,(cso (by omega)).trans k.c6⟩
theorem PwR.putTx(h:PwR w g n F)(hj:j<n)(x:ByteArray):PwR (w.setCell ⟨g,j*7+1,none⟩ (.string x)) g n (upd F j {F j with tx:=x}):=by
 have k:=h.get j hj;exact h.put (f:=1) (by omega) ⟨(cso (by omega)).trans k.c0,css k.c1,(cso (by omega)).trans k.c2,(cso (by omega)).trans k.c3,(cso (by omega)).trans k.c4,(cso (by omega)).trans k.c5,(cso (by omega)).trans k.c6⟩
theorem PwR.putN(h:PwR w g n F)(hj:j<n)(x:Int):PwR (w.setCell ⟨g,j*7+2,none⟩ (.int .i64 x)) g n (upd F j {F j with n:=x}):=by
 have k:=h.get j hj;exact h.put (f:=2) (by omega) ⟨(cso (by omega)).trans k.c0,(cso (by omega)).trans k.c1,css k.c2,(cso (by omega)).trans k.c3,(cso (by omega)).trans k.c4,(cso (by omega)).trans k.c5,(cso (by omega)).trans k.c6⟩
theorem PwR.putEn(h:PwR w g n F)(hj:j<n)(x:Int):PwR (w.setCell ⟨g,j*7+3,none⟩ (.int .i64 x)) g n (upd F j {F j with en:=x}):=by
 have k:=h.get j hj;exact h.put (f:=3) (by omega) ⟨(cso (by omega)).trans k.c0,(cso (by omega)).trans k.c1,(cso (by omega)).trans k.c2,css k.c3,(cso (by omega)).trans k.c4,(cso (by omega)).trans k.c5,(cso (by omega)).trans k.c6⟩
theorem PwR.putNx(h:PwR w g n F)(hj:j<n)(x:Int):PwR (w.setCell ⟨g,j*7+4,none⟩ (.int .i64 x)) g n (upd F j {F j with nx:=x}):=by
 have k:=h.get j hj;exact h.put (f:=4) (by omega) ⟨(cso (by omega)).trans k.c0,(cso (by omega)).trans k.c1,(cso (by omega)).trans k.c2,(cso (by omega)).trans k.c3,css k.c4,(cso (by omega)).trans k.c5,(cso (by omega)).trans k.c6⟩
theorem PwR.putDp(h:PwR w g n F)(hj:j<n)(x:Int):PwR (w.setCell ⟨g,j*7+5,none⟩ (.int .i64 x)) g n (upd F j {F j with dp:=x}):=by
 have k:=h.get j hj;exact h.put (f:=5) (by omega) ⟨(cso (by omega)).trans k.c0,(cso (by omega)).trans k.c1,(cso (by omega)).trans k.c2,(cso (by omega)).trans k.c3,(cso (by omega)).trans k.c4,css k.c5,(cso (by omega)).trans k.c6⟩
theorem PwR.putLg(h:PwR w g n F)(hj:j<n)(x:Int):PwR (w.setCell ⟨g,j*7+6,none⟩ (.int .i64 x)) g n (upd F j {F j with lg:=x}):=by
 have k:=h.get j hj;exact h.put (f:=6) (by omega) ⟨(cso (by omega)).trans k.c0,(cso (by omega)).trans k.c1,(cso (by omega)).trans k.c2,(cso (by omega)).trans k.c3,(cso (by omega)).trans k.c4,(cso (by omega)).trans k.c5,css k.c6⟩
end
theorem z8i(F:Nat->Q)(j:Nat)(p q:Q):upd (upd F j p) j q=upd F j q:=by
 funext k
 simp only[upd]
 split<;>rfl
theorem ka{w:World}{b o:Nat}{v:Value}(h:w.cell? ⟨b,o,none⟩=some v)(O:Obj):(w.alloc O).cell? ⟨b,o,none⟩=some v:=
 (((Below.refl _ w).alloc Zl O).cell (p:=⟨b,o,none⟩) (World.block_lt_of_cell? w _ h)).trans h
theorem kaf{w:World}{b o:Nat}(hb:b<w.heap.size)(h:w.frozen? ⟨b,o,none⟩=false)(O:Obj):(w.alloc O).frozen? ⟨b,o,none⟩=false:=
 (((Below.refl _ w).alloc Zl O).frozen (p:=⟨b,o,none⟩) hb).trans h
theorem z4w{i n:Nat}(hn:n<=400)(hi:(i:Int)<n):IntKind.i64.wrap ((i:Int)+1)=(i:Int)+1:=by
 rw[IntKind.wrap_i64];omega
set_option maxRecDepth 100000
set_option maxHeartbeats 4000000
theorem j1l(bp g n i:Nat)(op:Int)(w:World)(hn:n<=400)(hi:(i:Int)<n)
  (c0:w.cell? ⟨bp,0,none⟩=some (.slice (some ⟨g,0,none⟩) n n)) (d1:w.cell? ⟨g,i*7,none⟩=some (.int .i64 op)) (h6:(op==6)=false) (h9:(op==9)=false) (h7:(op==7)=false) (h8:(op==8)=false):
  Calls prog 228 #[.pointer (some ⟨bp,0,none⟩),.int .i64 i] w fun e w'=>e=.returned (.int .i64 ((i:Int)+1))/\∃q,w'=w.drewN q:=by
 have B:=z4w hn hi;have A:(0:Int)<=(i:Int):=by omega
 go_in;go_wp2;go_ret;exact⟨rfl,0,rfl⟩
theorem v0m(bp g n i:Nat)(op x:Int)(w:World)(hn:n<=400)(hi:(i:Int)<n)(B:(i:Int)+1<n)
  (c0:w.cell? ⟨bp,0,none⟩=some (.slice (some ⟨g,0,none⟩) n n)) (d1:w.cell? ⟨g,i*7,none⟩=some (.int .i64 op)) (d2:w.cell? ⟨g,(i+1)*7+3,none⟩=some (.int .i64 x)) (A:op=7\/op=8):
  Calls prog 228 #[.pointer (some ⟨bp,0,none⟩),.int .i64 i] w fun e w'=>e=.returned (.int .i64 x)/\∃q,w'=w.drewN q:=by
 have G:=z4w hn hi;have C:(0:Int)<=(i:Int):=by omega
 have D:(0:Int)<=(i:Int)+1:=by omega
 have E:((i:Int)+1).toNat=i+1:=by omega
 rcases A with rfl|rfl
 all_goals
  go_in;go_wp2;go_ret;exact⟨rfl,0,rfl⟩
theorem v0n(bp g n i j:Nat)(op x:Int)(w:World)(hn:n<=400)(hi:(i:Int)<n)(B:(i:Int)+1<n)(hj:(j:Int)<n)
  (c0:w.cell? ⟨bp,0,none⟩=some (.slice (some ⟨g,0,none⟩) n n)) (d1:w.cell? ⟨g,i*7,none⟩=some (.int .i64 op)) (d2:w.cell? ⟨g,(i+1)*7+3,none⟩=some (.int .i64 (j:Int))) (d3:w.cell? ⟨g,j*7+3,none⟩=some (.int .i64 x)) (A:op=6\/op=9):
  Calls prog 228 #[.pointer (some ⟨bp,0,none⟩),.int .i64 i] w fun e w'=>e=.returned (.int .i64 x)/\∃q,w'=w.drewN q:=by
 have H:=z4w hn hi;have C:(0:Int)<=(i:Int):=by omega
 have D:(0:Int)<=(i:Int)+1:=by omega
 have G:((i:Int)+1).toNat=i+1:=by omega
 have E:(0:Int)<=(j:Int):=by omega
 rcases A with rfl|rfl
 all_goals
  go_in;go_wp2_with fail
  go_quiet (fail)
  go_wp2;go_ret;exact⟨rfl,_,rfl⟩
def y3q(g a b:Nat)(e f:Value)(w w':World):Prop:=
 w'.os=w.os/\w'.tape=w.tape/\w'.output=w.output/\w'.heap=((w.setCell ⟨g,a,none⟩ e).setCell ⟨g,b,none⟩ f).heap
theorem j2a(bp g n i:Nat)(x y:Int)(w:World)(hi:(i:Int)<n)
  (c0:w.cell? ⟨bp,0,none⟩=some (.slice (some ⟨g,0,none⟩) n n)) (y1 y2:Value) (e5:w.cell? ⟨g,i*7+4,none⟩=some y1) (e6:w.cell? ⟨g,i*7+5,none⟩=some y2) (z1:w.frozen? ⟨g,i*7+4,none⟩=false) (z2:w.frozen? ⟨g,i*7+5,none⟩=false):
  Calls prog 254 #[.pointer (some ⟨bp,0,none⟩),.int .i64 i,.int .i64 x,.int .i64 y] w fun e w'=>e=.returned (.tuple #[])/\y3q g (i*7+4) (i*7+5) (.int .i64 x) (.int .i64 y) w w':=by
 have A:(0:Int)<=(i:Int):=by omega
 go_in
 go_region_held3 (fun w'=>w'.cell? ⟨bp,0,none⟩=some (.slice (some ⟨g,0,none⟩) n n))
  (first|exact c0|exact(cso (by omega)).trans c0|exact(cso (by omega)).trans ((cso (by omega)).trans c0)) (fail)
 all_goals
  go_wp2
  go_end0
  exact⟨rfl,rfl,rfl,rfl,rfl⟩
theorem y3w{w w1:World}{A B C D:Obj}(hb:Below ((((w.alloc A).alloc B).alloc C).alloc D).heap.size ((((w.alloc A).alloc B).alloc C).alloc D) w1):Below w w w1:=
 ((((Zb.alloc Zl _).alloc (by simp) _).alloc (by simp;omega) _).alloc (by simp;omega) _).trans (hb.mono (by simp;omega))
theorem v5v{n:Nat}{w w1 w2:World}{A B:Obj}(h1:Below n w w1)(hn:n<=w.heap.size)(hb:Below ((w1.alloc A).alloc B).heap.size ((w1.alloc A).alloc B) w2):Below n w w2:=
 have h2:=h1.size
 ((h1.alloc (by omega) _).alloc (by simp;omega) _).trans (hb.mono (by simp;omega))
theorem v7e{a:Int × Int}(h:okC a=true):(0<=a.1/\a.1<=1000000)/\(0<=a.2/\a.2<=1000000):=by
 simp only[okC,Bool.and_eq_true]at h;exact⟨z2w h.1,z2w h.2⟩
abbrev y7z(a b:Int × Int):Int × Int:=(a.1+b.1,a.2+b.2)
theorem y3s(a b:Int × Int)(w:World)(ha:okC a=true)(hb:okC b=true)(hn:okC (y7z a b)=true):
  Calls prog 289 #[v1c a,v1c b] w fun e w'=>e=.returned (.tuple #[.agg #[.int .i64 (a.1+b.1),.int .i64 (a.2+b.2)],.nilIface])/\Below w w w':=by
 obtain⟨⟨c,d⟩,⟨f,g⟩⟩:=v7e ha;obtain⟨⟨h,i⟩,⟨j,k⟩⟩:=v7e hb;have R:Hid (okC a=true):=ha;have S:Hid (okC b=true):=hb;have U:Hid (okC (y7z a b)=true):=hn;clear hn ha hb;go_in;go_wp2_with fail;refine(z2o a b (w.heap.size+1+1+1) _ (by simp) R.o S.o (by simp[go_sem]) (by simp[go_sem]) (by simp[go_sem]) (by simp[go_sem])).mono ?_;rintro e A⟨rfl,C⟩;have I:=y3w C;obtain⟨E,K⟩:=q0t C;have Z:w.heap.size+1+1+1<A.heap.size:=by have:=C.size;simp at this;omega
 clear C;have P:A.cell? ⟨w.heap.size+1+1,0,none⟩=some (.int .i64 0):=(E _ _ (by simp only[World.size_alloc];omega)).trans (by simp[go_sem]);have Q:A.cell? ⟨w.heap.size+1+1,1,none⟩=some (.int .i64 0):=(E _ _ (by simp only[World.size_alloc];omega)).trans (by simp[go_sem]);have N:A.frozen? ⟨w.heap.size+1+1,0,none⟩=false:=(K _ _ (by simp only[World.size_alloc];omega)).trans (by simp[go_sem]);have O:A.frozen? ⟨w.heap.size+1+1,1,none⟩=false:=(K _ _ (by simp only[World.size_alloc];omega)).trans (by simp[go_sem]);have u0:A.cell? ⟨w,0,none⟩=some (.int .i64 a.1):=(E _ _ (by simp only[World.size_alloc];omega)).trans (by simp[go_sem]);have u1:A.cell? ⟨w,1,none⟩=some (.int .i64 a.2):=(E _ _ (by simp only[World.size_alloc];omega)).trans (by simp[go_sem]);have X:A.cell? ⟨w.heap.size+1,0,none⟩=some (.int .i64 b.1):=(E _ _ (by simp only[World.size_alloc];omega)).trans (by simp[go_sem]);have Y:A.cell? ⟨w.heap.size+1,1,none⟩=some (.int .i64 b.2):=(E _ _ (by simp only[World.size_alloc];omega)).trans (by simp[go_sem]);clear E K;go_wp2_with fail;refine(j2e (y7z a b) (A.heap.size+1) _ (by simp) U.o (by simp[go_sem]) (by simp[go_sem])).mono ?_;rintro e H⟨rfl,D⟩;have J:=v5v I Zl D;have B:=v5v (Below.refl A.heap.size A) Zl D;obtain⟨G,_⟩:=q0t D;clear D;have L:H.cell? ⟨w.heap.size+1+1,0,none⟩=some (.int .i64 0):=(B.cell (p:=⟨w.heap.size+1+1,0,none⟩) (show w.heap.size+1+1<A.heap.size by omega)).trans P;have M:H.cell? ⟨w.heap.size+1+1,1,none⟩=some (.int .i64 0):=(B.cell (p:=⟨w.heap.size+1+1,1,none⟩) (show w.heap.size+1+1<A.heap.size by omega)).trans Q;have V:H.frozen? ⟨w.heap.size+1+1,0,none⟩=false:=(B.frozen (p:=⟨w.heap.size+1+1,0,none⟩) (show w.heap.size+1+1<A.heap.size by omega)).trans N;have W:H.frozen? ⟨w.heap.size+1+1,1,none⟩=false:=(B.frozen (p:=⟨w.heap.size+1+1,1,none⟩) (show w.heap.size+1+1<A.heap.size by omega)).trans O;have l:H.cell? ⟨A,0,none⟩=some (.int .i64 (a.1+b.1)):=(G _ _ (by simp only[World.size_alloc];omega)).trans (by simp[go_sem]);have m:H.cell? ⟨A,1,none⟩=some (.int .i64 (a.2+b.2)):=(G _ _ (by simp only[World.size_alloc];omega)).trans (by simp[go_sem]);clear G I B P Q N O u0 u1 X Y;go_wp2;exact bodyPost_ret (v:=.tuple #[.agg #[.int .i64 (a.1+b.1),.int .i64 (a.2+b.2)],.nilIface]) (by simp[results,Tryz.results289,go_sem,L,M]) rfl ⟨rfl,(J.setCell (p:=⟨w.heap.size+1+1,0,none⟩) (by simp;omega) _).setCell (p:=⟨w.heap.size+1+1,1,none⟩) (by simp;omega) _⟩
theorem y8l(w:World)(O1 O2 O3:Obj):Below w w (((w.alloc O1).alloc O2).alloc O3):=(((Below.refl _ w).alloc Zl _).alloc (by simp) _).alloc (by simp;omega) _
theorem z0c(bp wd p c k:Nat)(w:World)(hw:wd<=100)(hc:c<=100)(hk:k<=20000)
  (c1:w.cell? ⟨bp,1,none⟩=some (.int .i64 wd)):
  Calls prog 288 #[.pointer (some ⟨bp,0,none⟩),.agg #[.int .i64 p,.int .i64 c],.int .i64 k] w fun e w'=>e=.returned (.tuple #[.agg #[.int .i64 p,.int .i64 ((min (c+k) wd:Nat):Int)],.agg #[.int .i64 ((c+k-wd:Nat):Int),.int .i64 0]])/\Below w w w':=by
 have H:IntKind.i64.wrap ((c:Int)+(k:Int))=(c:Int)+(k:Int):=by rw[IntKind.wrap_i64];omega
 have I:IntKind.i64.wrap ((c:Int)+(k:Int)-(wd:Int))=(c:Int)+(k:Int)-(wd:Int):=by rw[IntKind.wrap_i64];omega
 have D:=World.block_lt_of_cell? w ⟨bp,1,none⟩ c1;have A:=fun O1 O2 O3=>y8l w O1 O2 O3
 have C:∀O1 O2 O3,(((w.alloc O1).alloc O2).alloc O3).cell? ⟨bp,1,none⟩=some (.int .i64 wd):=fun O1 O2 O3=>((A O1 O2 O3).cell (p:=⟨bp,1,none⟩) D).trans c1
 have B:∀O2 O3,(((w.alloc (.cells #[.int .i64 p,.int .i64 c] 280)).alloc O2).alloc O3).cell? ⟨w,0,none⟩=some (.int .i64 p):=fun O2 O3=>by simp[go_sem]
 have E:((min (c+k) wd:Nat):Int)=min ((c:Int)+k) wd:=by omega
 have G:((c+k-wd:Nat):Int)=max ((c:Int)+k-wd) 0:=by omega
 rw[E,G];clear E G;go_in;go_wp2_with fail
 go_region_held3 (fun w'=>w'.cell? ⟨bp,1,none⟩=some (.int .i64 wd)/\w'.cell? ⟨w,0,none⟩=some (.int .i64 p)) (exact⟨C _ _ _,B _ _⟩) (fail)
 all_goals
  go_wp2;exact bodyPost_ret (v:=.tuple #[.agg #[.int .i64 p,.int .i64 (min ((c:Int)+k) wd)],.agg #[.int .i64 (max ((c:Int)+k-wd) 0),.int .i64 0]]) (by simp[results,Tryz.results288,go_sem]) rfl ⟨rfl,(A _ _ _).drew⟩
theorem k1z(bp wd p k:Nat)(w:World)(hw:wd<=100)(hk:k<=20000)(c1:w.cell? ⟨bp,1,none⟩=some (.int .i64 wd)):
  Calls prog 288 #[.pointer (some ⟨bp,0,none⟩),.agg #[.int .i64 p,.int .i64 0],.int .i64 k] w fun e w'=>e=.returned (.tuple #[.agg #[.int .i64 p,.int .i64 ((min k wd:Nat):Int)],.agg #[.int .i64 ((k-wd:Nat):Int),.int .i64 0]])/\Below w w w':=by
 have h:=z0c bp wd p 0 k w hw (by omega) hk c1;rw[Nat.zero_add]at h;exact h
theorem q8j(op:Int)(tx:ByteArray)(a b c d e:Int)(w:World):
  Calls prog 232 #[.agg #[.int .i64 op,.string tx,.int .i64 a,.int .i64 b,.int .i64 c,.int .i64 d,.int .i64 e]] w fun e w'=>e=.returned (.bool (z0l op))/\Below w w w':=by
 cases B:(op==8)with
 | true=>
  have A:z0l op=true:=by simp[z0l,beq_iff_eq.1 B]
  rw[A];go_in;go_wp2;go_ret;exact⟨rfl,Zb.alloc Zl _⟩
 | false=>
  cases C:(op==9)with
  | true=>
   have A:z0l op=true:=by simp[z0l,beq_iff_eq.1 C]
   rw[A];go_in;go_wp2;go_ret;exact⟨rfl,Zb.alloc Zl _⟩
  | false=>
   have A:z0l op=false:=by simp[z0l,beq_eq_false_iff_ne.1 B,beq_eq_false_iff_ne.1 C]
   rw[A];go_in;go_wp2;go_ret;exact⟨rfl,Zb.alloc Zl _⟩
theorem k0c{a b:Nat}(ha:a<=1000000)(hb:b<=1000000):okC ((a:Int),(b:Int))=true:=by
 simp[okC,j3q];omega
theorem j1q(a b c d:Nat)(ha:a<=1000000)(hb:b<=1000000)(hc:c<=1000000)(hd:d<=1000000)(w:World):
  Calls prog 257 #[.agg #[.int .i64 a,.int .i64 b],.agg #[.int .i64 c,.int .i64 d]] w fun e w'=>e=.returned (.bool (decide (q2y (a,b) (c,d))))/\Below w w w':=by
 have B:decide (q2y (a,b) (c,d))=z7c ((a:Int),(b:Int)) ((c:Int),(d:Int)):=by
  rw[Bool.eq_iff_iff,decide_eq_true_eq];unfold z7c q2y;dsimp only
  split
  ·rw[decide_eq_true_eq];omega
  ·rw[decide_eq_true_eq];omega
 rw[B]
 have C:Hid (∀w,Calls prog 276 #[.agg #[.int .i64 a,.int .i64 b],.agg #[.int .i64 c,.int .i64 d]] w fun e w'=>e=.returned (.tuple #[.bool (z7c ((a:Int),(b:Int)) ((c:Int),(d:Int))),.nilIface])/\Below w w w'):=fun w=>
  y0e ((a:Int),(b:Int)) ((c:Int),(d:Int)) w (k0c ha hb) (k0c hc hd)
 clear B;generalize z7c ((a:Int),(b:Int)) ((c:Int),(d:Int))=v at *;go_in;go_wp2_with fail;refine(C.o _).mono ?_;rintro e D⟨rfl,A⟩;go_wp2;go_ret;exact⟨rfl,(((Below.refl _ w).alloc Zl _).alloc (by simp) _).trans (A.mono (by simp;omega))⟩
theorem v0u(a b c d:Nat)(ha:a<=400000)(hb:b<=400000)(hc:c<=400000)(hd:d<=400000)(w:World):
  Calls prog 275 #[.agg #[.int .i64 a,.int .i64 b],.agg #[.int .i64 c,.int .i64 d]] w fun e w'=>e=.returned (.agg #[.int .i64 ((a+c:Nat):Int),.int .i64 ((b+d:Nat):Int)])/\Below w w w':=by
 have E:((a+c:Nat):Int)=(a:Int)+c:=by omega
 have G:((b+d:Nat):Int)=(b:Int)+d:=by omega
 have H:okC (y7z ((a:Int),(b:Int)) ((c:Int),(d:Int)))=true:=by
  have:=k0c (a:=a+c) (b:=b+d) (by omega) (by omega)
  rw[E,G]at this;exact this
 rw[E,G]
 have I:Hid (∀w,Calls prog 289 #[.agg #[.int .i64 a,.int .i64 b],.agg #[.int .i64 c,.int .i64 d]] w fun e w'=>e=.returned (.tuple #[.agg #[.int .i64 ((a:Int)+c),.int .i64 ((b:Int)+d)],.nilIface])/\Below w w w'):=fun w=>
  y3s ((a:Int),(b:Int)) ((c:Int),(d:Int)) w (k0c (by omega) (by omega)) (k0c (by omega) (by omega)) H
 clear E G H
 generalize(a:Int)+c=v1 at *
 generalize(b:Int)+d=v2 at *
 go_in;go_wp2_with fail;refine(I.o _).mono ?_;rintro e A⟨rfl,B⟩;obtain⟨C,D⟩:=q0t B;have K:w.heap.size+1+1+1<=A.heap.size:=by have:=B.size;simpa using this
 have L:∀O,(A.alloc O).cell? ⟨w.heap.size+1+1,0,none⟩=some (.int .i64 0):=fun O=>(((Below.refl _ A).alloc Zl O).cell (p:=⟨w.heap.size+1+1,0,none⟩) (by simp;omega)).trans ((C _ _ (by simp)).trans (by simp[go_sem]))
 have M:∀O,(A.alloc O).cell? ⟨w.heap.size+1+1,1,none⟩=some (.int .i64 0):=fun O=>(((Below.refl _ A).alloc Zl O).cell (p:=⟨w.heap.size+1+1,1,none⟩) (by simp;omega)).trans ((C _ _ (by simp)).trans (by simp[go_sem]))
 have N:∀O,(A.alloc O).frozen? ⟨w.heap.size+1+1,0,none⟩=false:=fun O=>(((Below.refl _ A).alloc Zl O).frozen (p:=⟨w.heap.size+1+1,0,none⟩) (by simp;omega)).trans ((D _ _ (by simp)).trans (by simp[go_sem]))
 have P:∀O,(A.alloc O).frozen? ⟨w.heap.size+1+1,1,none⟩=false:=fun O=>(((Below.refl _ A).alloc Zl O).frozen (p:=⟨w.heap.size+1+1,1,none⟩) (by simp;omega)).trans ((D _ _ (by simp)).trans (by simp[go_sem]))
 have J:Below w w A:=(y8l w _ _ _).trans (B.mono (by simp;omega));clear C D B;go_wp2;exact bodyPost_ret (v:=.agg #[.int .i64 v1,.int .i64 v2]) (by simp[results,Tryz.results275,go_sem,L,M]) rfl ⟨rfl,((J.alloc (by omega) _).setCell (p:=⟨w.heap.size+1+1,0,none⟩) (by simp;omega) _).setCell (p:=⟨w.heap.size+1+1,1,none⟩) (by simp;omega) _⟩
end Go.Proofs.YtelcnplcpboonaaGreatDoor
