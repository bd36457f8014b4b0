import Derived.Test.YtelcnplcpboonaaGreatDoorPe00
import Derived.Deep.RegionHeld3
import Derived.Deep.OwnRows
import Derived.Deep.DeepCutAuto
import Derived.BigQuiet
import Derived.BigRegion
open Go.Proofs.Tryz
open List renaming length->ſ
open Go.World renaming size_alloc->À,cell?_of_block->Ú
open Option renaming some->Á,map_some->Å,none->Æ
open Option.some renaming injEq->Â
open Nat renaming mul_le_mul_left->Ã,min_le_right->Ó,sub_eq_zero_of_le->Ù,sub_zero->ã,le_of_eq->ä,add_mul->å,zero_le->æ
open List renaming length_append->Ä,mem_map->É,length_cons->Ë,mem_singleton->Í,append_assoc->Ð,mem_append->Ö,mem_flatMap->Û,cons_append->Ý,getElem_mem->Þ,replicate->ß,map_cons->á,mem_cons->â
open Go.Value renaming pointer->Ç,slice->Ê,int->Ï,nilIface->Ô,string->Õ,tuple->è
open Go.Ending renaming returned->È
open Go renaming World->Ì,Calls->à
open Go.RowKit.Below renaming refl->Î,drew->ç
open Go.Lib renaming byteCells->Ñ,cell_of_heap->Ü
open Go.IntKind renaming i64->Ò
open Go.RowKit renaming Below->Ø
namespace Go.Proofs.YtelcnplcpboonaaGreatDoor
theorem Po(A):∀(s:List UInt8)(c B:Nat),A<=c->A<=B->(bC A c s).1=(bC A B s).1/\(bC A c s).2.1=(bC A B s).2.1:=by intro s;induction s<;>grind [bC]
theorem T4(A c s):(bC A c s).1=(bC A (min c A) s).1/\(bC A c s).2.1=(bC A (min c A) s).2.1:=by grind [Po,bC]
theorem J7(A c B):ed A c B=ed A (min c A) B:=by grind [ed,gZ,T4]
theorem uM(A):∀(s:List UInt8)(c:Nat),(∀b∈s,b≠10)->bC A c s=((c+ſ s-A)-(c-A),0,c+ſ s):=by intro s;induction s<;>grind [bC]
theorem Rw(A c d):bC A c (10::ß d 32)=(d-A,1,d):=by grind [bC,uM]
/-! ### How much a way may cost at most -/
def Tr.lf:Tr->Nat
 | .leaf _=>1
 | .one _ a=>a.lf
 | .two _ a b=>a.lf+b.lf
def Tr.dsum:Tr->Nat
 | .leaf _=>0
 | .one _ a=>8+a.dsum
 | .two _ a b=>a.dsum+b.dsum
theorem m7:∀t:Tr,8*t.lf+t.dsum<=8*ſ t.N
 | .leaf _=>by simp[Tr.lf,Tr.dsum,Tr.N]
 | .one _ a=>by have:=m7 a;simp only[Tr.lf,Tr.dsum,Tr.N,Ë];omega
 | .two _ a b=>by have:=m7 a;have:=m7 b;simp only[Tr.lf,Tr.dsum,Tr.N,Ë,Ä];omega
theorem mZ:∀(t:Tr)(s:List UInt8),t.Wf->t.flat=Á s->ſ s<=20*t.lf
 | .leaf x,s,h,e=>by
  obtain⟨_,_,_,_,C,_⟩:=fJ h.1;simp only[Tr.flat]at e;simp only[Tr.lf]
  split at e
  .rename_i h1;cases e
   have:=jS (C h1)
   have e:=fu x.tx;omega
  .split at e
   .cases e;simp
   .split at e
    .cases e
    .cases e;simp
 | .one x a,s,h,e=>mZ a s h.2.2 e
 | .two x a b,s,h,e=>by
  simp only[Tr.flat]at e;simp only[Tr.lf]
  split at e
  .cases A:a.flat with
   | none=>rw[A]at e;cases e
   | some u=>
    cases B:b.flat with
    | none=>rw[A,B]at e;cases e
    | some v=>
     rw[A,B]at e;cases e
     have:=mZ a u h.2.2.1 A
     have:=mZ b v h.2.2.2 B
     rw[Ä];omega
  .have:=mZ a s h.2.2.1 e
   omega
theorem mQ:∀(t:Tr)(d:Nat)(p:List UInt8 × List Int),t.Wf->p∈t.outs d->p.1.length<=t.lf*(21+d+t.dsum)
 | .leaf x,d,p,h,hp=>by
  obtain⟨_,_,_,_,E,_⟩:=fJ h.1;simp only[Tr.outs,Í]at hp;subst hp;simp only[Tr.lf,Tr.dsum]
  split
  .rename_i A
   have:=jS (E A)
   have e:=fu x.tx;omega
  .split
   .simp
   .simp;omega
 | .one x a,d,p,h,hp=>by
  obtain⟨_,_,_,_,_,G⟩:=fJ h.1;simp only[Tr.outs]at hp;simp only[Tr.lf,Tr.dsum]
  split at hp
  .rename_i h7;have A:=mQ a _ p h.2.2 hp;have C:a.lf*(21+(d+x.n.toNat)+a.dsum)<=a.lf*(21+d+(8+a.dsum)):=Ã _ (by have:=G h7;omega);omega
  .rcases Ö.1 hp with hp|hp
   .cases D:a.flat with
    | none=>rw[D]at hp;simp at hp
    | some s=>
     rw[D]at hp;simp only[Í]at hp;subst hp;have A:=mZ a s h.2.2 D;have C:a.lf*20<=a.lf*(21+d+(8+a.dsum)):=Ã _ (by omega);dsimp only;omega
   .obtain⟨q,B,rfl⟩:=É.1 hp;have A:=mQ a d q h.2.2 B;have C:a.lf*(21+d+a.dsum)<=a.lf*(21+d+(8+a.dsum)):=Ã _ (by omega);dsimp only;omega
 | .two x a b,d,p,h,hp=>by
  simp only[Tr.outs]at hp;simp only[Tr.lf,Tr.dsum];have J:a.lf*(21+d+a.dsum)<=a.lf*(21+d+(a.dsum+b.dsum)):=Ã _ (by omega);have K:b.lf*(21+d+b.dsum)<=b.lf*(21+d+(a.dsum+b.dsum)):=Ã _ (by omega);rw[å]
  split at hp
  .obtain⟨u,H,hp⟩:=Û.1 hp;obtain⟨v,I,rfl⟩:=É.1 hp;have A:=mQ a d u h.2.2.1 H;have C:=mQ b d v h.2.2.2 I;simp only[Ä];omega
  .rcases Ö.1 hp with hp|hp
   .obtain⟨q,B,rfl⟩:=É.1 hp;have A:=mQ a d q h.2.2.1 B;dsimp only;omega
   .obtain⟨q,B,rfl⟩:=É.1 hp;have A:=mQ b d q h.2.2.2 B;dsimp only;omega
def kB:List (Nat × Tr)->Nat
 | []=>0
 | (_,t)::ks=>t.lf+kB ks
def KB(M:Nat)(ks:List (Nat × Tr)):Prop:=∀p∈ks,p.1+p.2.dsum<=M/\p.2.Wf
theorem DJ(M:Nat):∀(ks:List (Nat × Tr))(p:List UInt8 × List Int),KB M ks->p∈fi ks->p.1.length<=kB ks*(21+M)
 | [],p,_,A=>by simp only[fi,Í]at A;subst A;simp
 | (d,t)::ks,p,hk,A=>by
  rw[fi]at A;obtain⟨u,C,A⟩:=Û.1 A;obtain⟨v,D,rfl⟩:=É.1 A;obtain⟨E,G⟩:=hk (d,t) (by simp);have H:=mQ t d u G C;have I:=DJ M ks v (λq B=>hk q (by simp[B])) D;have J:t.lf*(21+d+t.dsum)<=t.lf*(21+M):=Ã _ (by dsimp only at E;omega);simp only[kB,Ä,å];omega
theorem Kg(A):∀(s:List UInt8)(c:Nat),(bC A c s).1<=ſ s/\(bC A c s).2.1<=ſ s:=by intro s;induction s<;>grind [bC]
def bs(wd c:Nat)(ks:List (Nat × Tr)):eY:=(ed wd c ks).getD ((0,0),[])
theorem gC(wd c A):ed wd c A=Á (bs wd c A):=by
 obtain⟨a,h⟩:=zk wd c A;rw[bs,h];rfl
theorem Qk(H c M G)(h:KB M G):(bs H c G).1.1<=kB G*(21+M)/\(bs H c G).1.2<=kB G*(21+M):=by
 obtain⟨p,q,e,_,_⟩:=uT (gC H c G);have A:bs H c G∈gZ H c G:=by rw[e];simp
 obtain⟨x,C,B⟩:=É.1 A;rw[<-B];have D:=DJ M G x h C;have E:=Kg H x.1 c;dsimp only;omega
theorem most:∀D,D<401->(400-D)*(21+8*D)<=400000:=by
 set_option maxRecDepth 100000 in decide
theorem Lg{L M n}(h:8*L+M<=8*n)(C:n<=400):L*(21+M)<=400000:=by
 have A:=most ((M+7) / 8) (by omega);have B:L*(21+M)<=(400-(M+7) / 8)*(21+8*((M+7) / 8)):=Nat.mul_le_mul (by omega) (by omega);omega
theorem L9(A c):bs A c []=((0,0),[]):=by rw[bs,J8];rfl
theorem wz(A c B):bs A c B=bs A (min c A) B:=by rw[bs,J7];rfl
theorem J5{B c d x C}(E:bz x=0)(h:x.op=1)(D:c<=B):bs B c ((d,.leaf x)::C)=cC (c+x.tx.size-B) 0 [] (bs B (min (c+x.tx.size) B) C):=by
 have A:=Tp E h;have e:=uI B c d x C x.tx.data.toList (by rw[if_pos h]);rw[uM B _ c A,fu,gC,gC B (c+x.tx.size),Å,Â,wz B (c+x.tx.size)]at e;rw[e,Ù D,ã]
theorem J4{A c d x B}(h:x.op≠1/\x.op≠5):bs A c ((d,.leaf x)::B)=cC (d-A) 1 [] (bs A (min d A) B):=by
 have e:=uI A c d x B (10::ß d 32) (by rw[if_neg h.1,if_neg h.2]);rw[Rw,gC,gC A d,Å,Â,wz A d]at e;exact e
theorem J6{B c d x A}(h:x.op=5):bs B c ((d,.leaf x)::A)=cC 0 0 [] (bs B c A):=by
 have e:=uI B c d x A [] (by rw[if_neg (by omega),if_pos h]);rw[gC,bC,gC B c A,Å,Â]at e;exact e
theorem J2{B c d x a A}(h:x.op=7):bs B c ((d,.one x a)::A)=bs B c ((d+x.n.toNat,a)::A):=by rw[bs,TS B c d x a A h];rfl
theorem J1{B c d x a b A}(h:x.op=6):bs B c ((d,.two x a b)::A)=bs B c ((d,a)::(d,b)::A):=by rw[bs,TR B c d x a b A h];rfl
theorem Ro{B c d x a b A}(h:x.op≠6):bs B c ((d,.two x a b)::A)=gj (cC 0 0 [0] (bs B c ((d,a)::A))) (cC 0 0 [1] (bs B c ((d,b)::A))):=by grind [Nm,gC,fO,bs,gj,cC]
theorem TQ{A c d x a B s}(h:x.op≠7)(D:a.Wf)(C:a.flat=Á s)(E:c<=A):
  bs A c ((d,.one x a)::B)=gj (cC (c+ſ s-A) 0 [0] (bs A (min (c+ſ s) A) B)) (cC 0 0 [1] (bs A c ((d,a)::B))):=by
 have e:=BX A c d x a B h;rw[C]at e;dsimp only at e;rw[uM A _ c (pZ a s D C),gC,gC A (c+ſ s),gC A c ((d,a)::B),Å,Å,fO,Â,wz A (c+ſ s)]at e;rw[e,Ù E,ã]
theorem J3{B c d x a A}(h:x.op≠7)(C:a.flat=Æ):bs B c ((d,.one x a)::A)=cC 0 0 [1] (bs B c ((d,a)::A)):=by
 have e:=BX B c d x a A h;rw[C]at e;dsimp only at e;rw[gC,gC B c ((d,a)::A),Å,fO,Â]at e;exact e
end Go.Proofs.YtelcnplcpboonaaGreatDoor
namespace Go.Proofs.YtelcnplcpboonaaGreatDoor
open Go Go.RowKit
set_option maxRecDepth 100000
set_option maxHeartbeats 2000000
theorem Tz(T B b l R w)(h:a6 T B b (Ñ l) R w)(a:l≠[]):
  à prog 12 #[Ç b] w λe c=>e=È (Õ ⟨l.toArray⟩)/\Ø B w c:=by
 obtain⟨p,G⟩:=h.at;obtain⟨v,I,D,V,_⟩:=G;have L:ſ l≠0:=by simpa using a
 rw[Lib.byteCells_length]at D
 obtain⟨g,A,C,E,rfl,H,S,Q,U,J,P,M⟩:∃g A C E,v=Ê (Á ⟨g,0,Æ⟩) (ſ l) A/\B<=g/\w.heap[g]?=Á (.cells C 5 E)/\E.2<=ſ l*1/\(ſ l)<=A/\A<=maxLen/\C.size=A*1/\C.toList.take (ſ l*1)=Ñ l:=by
  rcases D.2 with⟨_,Y⟩|⟨g,A,C,E,W,r⟩
  .exact absurd Y L
  .exact⟨g,A,C,E,W,r⟩
 have Z:w.drew.cell? (b,1)=Á (Ê g (ſ l) A):=by
  have:w.drew.heap[b]?=Á (.cells (p::Ê g (ſ l) A::R).toArray T (0,0)):=I
  rw[Ü this];rfl
 have N:(Builtin.unsafeSliceData_ #[36] 68 #[Ê (Á ⟨g,0,Æ⟩) (ſ l) A]).run prog w.drew=.ok (Ç (Á ⟨g,0,Æ⟩)) w.drew:=
  Lib.run_unsafeSliceData_row _ _ _ _ _ _ (by omega)
 have O:(Builtin.unsafeString_ #[68,3] 9 #[Ç g,ſ l]).run prog w.drew=.ok (Õ ⟨l.toArray⟩) (w.drew.freeze g (ſ l)):=by
  refine Lib.run_unsafeString_row w.drew 68 3 9 5 Tryz.underlying68 xj g C.size (by have K:w.drew.heap[g]?=Á (.cells C 5 E):=S;simp[World.shape?,K]) l a (by omega) (by unfold maxLen at J;omega) ?_;intro j x X
  have:=D.cells (g:=g) rfl j (Ï .u8 x.toNat) (by simp[Ñ,X])
  exact this
 go_in;go_wp2
 go_region
 all_goals (go_wp2;go_ret;exact⟨rfl,Lib.below_freeze (ç (Î B w)) (p:=g) H _⟩)
theorem Ty(T B b R w)(h:a6 T B b [] R w):
  à prog 12 #[Ç b] w λe K=>e=È (Õ ⟨#[]⟩)/\Ø B w K:=by
 obtain⟨p,C⟩:=h.at;obtain⟨v,D,A,E,G⟩:=C;obtain rfl:=G rfl;clear A E G;have I:∀(W:Ì)(q:Option Addr),(Builtin.unsafeString_ #[68,3] 9 #[Ç q,Ï Ò 0]).run prog W=.ok (Õ .empty) W:=λW q=>Lib.run_unsafeString_none W _ _ _ q
 have J:w.drew.cell? (b,1)=Á (Ê Æ 0 0):=by
  have:w.drew.heap[b]?=Á (.cells (p::Ê Æ 0 0::R).toArray T (0,0)):=D
  rw[Ü this];rfl
 have H:(Builtin.unsafeSliceData_ #[36] 68 #[Ê Æ 0 0]).run prog w.drew=.ok (Ç Æ) w.drew:=rfl;go_in;go_wp2
 go_region
 all_goals (go_wp2;go_ret;exact⟨rfl,ç (Î B w)⟩)
theorem tT(T B b l R w)(h:a6 T B b (Ñ l) R w):
  à prog 12 #[Ç b] w λe C=>e=È (Õ ⟨l.toArray⟩)/\Ø B w C:=by
 by_cases A:l=[]
 .subst A;exact Ty T B b R w h
 .exact Tz T B b l R w h A
end Go.Proofs.YtelcnplcpboonaaGreatDoor
namespace Go.Proofs.YtelcnplcpboonaaGreatDoor
structure Pl where
 nd:Nd
 en:Nat
 nx:Nat
 dp:Nat
 lg:Int
 t:Tr
 ks:List (Nat × Tr)
def Tr.root:Tr->Nd
 | .leaf x=>x
 | .one x _=>x
 | .two x _ _=>x
def iB:Option (List UInt8)->Int
 | none=>-1
 | some s=>(ſ s:Int)
def Tr.lg:Tr->Int
 | .one x a=>if x.op=8 then iB a.flat else 0
 | _=>0
def Tr.sz(t:Tr):Nat:=ſ t.N
theorem G3(x):(Tr.leaf x).sz=1:=rfl
theorem pN(x a):(Tr.one x a).sz=1+a.sz:=by simp[Tr.sz,Tr.N];omega
theorem nr(x a b):(Tr.two x a b).sz=1+a.sz+b.sz:=by simp[Tr.sz,Tr.N];omega
theorem rF(t:Tr):0<t.sz:=t.pos
def fY(t:Tr)(i nx dp:Nat)(ks:List (Nat × Tr)):Pl:=⟨t.root,i+t.sz,nx,dp,t.lg,t,ks⟩
def gJ:Tr->Nat->Nat->Nat->List (Nat × Tr)->List Pl
 | .leaf x,i,nx,dp,ks=>[fY (.leaf x) i nx dp ks]
 | .one x a,i,nx,dp,ks=>fY (.one x a) i nx dp ks::gJ a (i+1) nx (dp+x.n.toNat) ks
 | .two x a b,i,nx,dp,ks=>fY (.two x a b) i nx dp ks::((if x.op=6 then gJ a (i+1) (i+1+a.sz) dp ((dp,b)::ks)else gJ a (i+1) nx dp ks)++gJ b (i+1+a.sz) nx dp ks)
theorem qy:∀(t:Tr)(i nx dp:Nat)(ks:List (Nat × Tr)),(gJ t i nx dp ks).length=t.sz
 | .leaf x,i,nx,dp,ks=>rfl
 | .one x a,i,nx,dp,ks=>by rw[gJ,Ë,qy a,pN];omega
 | .two x a b,i,nx,dp,ks=>by
  rw[gJ,Ë,Ä,qy b,nr]
  split<;>rw[qy a]<;>omega
theorem GS(t i nx dp A):∃r,gJ t i nx dp A=fY t i nx dp A::r:=by
 cases t<;>exact⟨_,rfl⟩
theorem oV:∀(t:Tr)(i nx dp:Nat)(ks:List (Nat × Tr)),(gJ t i nx dp ks).map (·.nd)=t.N
 | .leaf x,i,nx,dp,ks=>rfl
 | .one x a,i,nx,dp,ks=>by rw[gJ,á,oV a];rfl
 | .two x a b,i,nx,dp,ks=>by
  rw[gJ,á,List.map_append,oV b]
  split<;>rw[oV a]<;>rfl
def kont(R:List Pl)(i:Nat):List (Nat × Tr):=match R[i]? with|some r=>(r.dp,r.t)::r.ks|none=>[]
theorem zN{R i}(h:ſ R<=i):kont R i=[]:=by rw[kont,List.getElem?_eq_none h]
structure Sp(R:List Pl)(L M:Nat)(i:Nat)(t:Tr)(nx dp:Nat)(ks:List (Nat × Tr)):Prop where
 pl:∃post,R.drop i=gJ t i nx dp ks++post
 kx:kont R nx=ks
 lo:i+t.sz<=nx
 hi:nx<=ſ R
 wf:t.Wf
 bl:t.lf+kB ks<=L
 bd:dp+t.dsum<=M
 bk:KB M ks
section
variable {R:List Pl} {L M i nx dp:Nat} {ks:List (Nat × Tr)} {t a b:Tr} {x:Nd}
theorem qr{l:List Pl}{i r q}(h:l.drop i=r::q):l[i]?=Á r/\l.drop (i+1)=q:=by
 have B:i<ſ l:=by
  rcases Nat.lt_or_ge i (ſ l) with A|A
  .exact A
  .rw[List.drop_eq_nil_of_le A]at h;cases h
 rw[List.drop_eq_getElem_cons B,List.cons.injEq]at h;exact⟨by rw[List.getElem?_eq_getElem B,h.1],h.2⟩
theorem Kr{l p q:List Pl}{i}(h:l.drop i=p++q):l.drop (i+ſ p)=q:=by rw[<-List.drop_drop,h,List.drop_left]
theorem Sp.get(h:Sp R L M i t nx dp ks):R[i]?=Á (fY t i nx dp ks):=by
 obtain⟨A,h⟩:=h.pl;obtain⟨r,e⟩:=GS t i nx dp ks;rw[e]at h;exact(qr h).1
theorem Sp.kont(h:Sp R L M i t nx dp ks):kont R i=(dp,t)::ks:=by rw[Proofs.YtelcnplcpboonaaGreatDoor.kont,h.get];rfl
theorem Sp.lt(h:Sp R L M i t nx dp ks):i<ſ R:=by have:=rF t;have:=h.lo;have:=h.hi;omega
theorem Sp.one(h:Sp R L M i (.one x a) nx dp ks):Sp R L M (i+1) a nx (dp+x.n.toNat) ks where
 pl:=by
  obtain⟨A,e⟩:=h.pl;rw[gJ]at e;exact⟨A,(qr e).2⟩
 kx:=h.kx
 lo:=by have:=h.lo;rw[pN]at this;omega
 hi:=h.hi
 wf:=h.wf.2.2
 bl:=h.bl
 bd:=by
  have:=h.bd
  have B:=fJ h.wf.1;simp only[Tr.dsum]at this;omega
 bk:=h.bk
theorem Sp.two2(h:Sp R L M i (.two x a b) nx dp ks):Sp R L M (i+1+a.sz) b nx dp ks where
 pl:=by
  obtain⟨A,e⟩:=h.pl;rw[gJ]at e;have B:=(qr (q:=_++A) e).2;rw[Ð]at B;have C:=Kr B;refine⟨A,?_⟩;rw[<-C]
  congr 1
  split<;>rw[qy]
 kx:=h.kx
 lo:=by have:=h.lo;rw[nr]at this;omega
 hi:=h.hi
 wf:=h.wf.2.2.2
 bl:=by have:=h.bl;simp only[Tr.lf]at this;omega
 bd:=by have:=h.bd;simp only[Tr.dsum]at this;omega
 bk:=h.bk
theorem Sp.both1(h:Sp R L M i (.two x a b) nx dp ks)(C:x.op=6):Sp R L M (i+1) a (i+1+a.sz) dp ((dp,b)::ks) where
 pl:=by
  obtain⟨B,e⟩:=h.pl;rw[gJ,if_pos C,Ý,Ð]at e;exact⟨_,(qr e).2⟩
 kx:=h.two2.kont
 lo:=Nat.le_refl _
 hi:=by have:=h.lo;have:=h.hi;rw[nr]at *;omega
 wf:=h.wf.2.2.1
 bl:=by have:=h.bl;simp only[Tr.lf,kB]at this⊢;omega
 bd:=by have:=h.bd;simp only[Tr.dsum]at this;omega
 bk:=by
  intro p A;rcases â.1 A with rfl|A
  .exact⟨by have:=h.bd;simp only[Tr.dsum]at this;dsimp only;omega,h.wf.2.2.2⟩
  .exact h.bk p A
theorem Sp.either1(h:Sp R L M i (.two x a b) nx dp ks)(B:x.op≠6):Sp R L M (i+1) a nx dp ks where
 pl:=by
  obtain⟨A,e⟩:=h.pl;rw[gJ,if_neg B,Ý,Ð]at e;exact⟨_,(qr e).2⟩
 kx:=h.kx
 lo:=by have:=h.lo;rw[nr]at this;omega
 hi:=h.hi
 wf:=h.wf.2.2.1
 bl:=by have:=h.bl;simp only[Tr.lf]at this⊢;omega
 bd:=by have:=h.bd;simp only[Tr.dsum]at this;omega
 bk:=h.bk
theorem Sp.two1(h:Sp R L M i (.two x a b) nx dp ks):∃C B,Sp R L M (i+1) a C dp B:=by
 by_cases A:x.op=6
 .exact⟨_,_,h.both1 A⟩
 .exact⟨_,_,h.either1 A⟩
end
theorem rC{R:List Pl}{L M:Nat}:∀(t:Tr)(i nx dp:Nat)(ks:List (Nat × Tr)),Sp R L M i t nx dp ks->∀j,i<=j->j<i+t.sz->∃G E C D,Sp R L M j G E C D
 | .leaf x,i,nx,dp,ks,h,j,h1,h2=>by
  rw[G3]at h2;obtain rfl:j=i:=by omega
  exact⟨_,_,_,_,h⟩
 | .one x a,i,nx,dp,ks,h,j,h1,h2=>by
  rw[pN]at h2;by_cases e:j=i
  .subst e;exact⟨_,_,_,_,h⟩
  .exact rC a _ _ _ _ h.one j (by omega) (by omega)
 | .two x a b,i,nx,dp,ks,h,j,h1,h2=>by
  rw[nr]at h2;by_cases e:j=i
  .subst e;exact⟨_,_,_,_,h⟩
  .by_cases B:j<i+1+a.sz
   .obtain⟨_,_,A⟩:=h.two1;exact rC a _ _ _ _ A j (by omega) (by omega)
   .exact rC b _ _ _ _ h.two2 j (by omega) (by omega)
def iO(R:List Pl)(L M:Nat)(p j:Nat):Prop:=(∃x a b c d,Sp R L M p (.one x a) b c d/\j=p+1)\/∃x a b c d f,Sp R L M p (.two x a b) c d f/\(j=p+1\/j=p+1+a.sz)
theorem rz{R:List Pl}{L M:Nat}:∀(t:Tr)(i nx dp:Nat)(ks:List (Nat × Tr)),Sp R L M i t nx dp ks->∀j,i<j->j<i+t.sz->∃p,p<j/\iO R L M p j
 | .leaf x,i,nx,dp,ks,h,j,h1,h2=>by rw[G3]at h2;omega
 | .one x a,i,nx,dp,ks,h,j,h1,h2=>by
  rw[pN]at h2;by_cases e:j=i+1
  .exact⟨i,h1,.inl ⟨_,_,_,_,_,h,e⟩⟩
  .exact rz a _ _ _ _ h.one j (by omega) (by omega)
 | .two x a b,i,nx,dp,ks,h,j,h1,h2=>by
  rw[nr]at h2;by_cases e:j=i+1
  .exact⟨i,h1,.inr ⟨_,_,_,_,_,_,h,.inl e⟩⟩
  .by_cases A:j=i+1+a.sz
   .exact⟨i,h1,.inr ⟨_,_,_,_,_,_,h,.inr A⟩⟩
   .by_cases C:j<i+1+a.sz
    .obtain⟨_,_,B⟩:=h.two1;exact rz a _ _ _ _ B j (by omega) (by omega)
    .exact rz b _ _ _ _ h.two2 j (by omega) (by omega)
def ah(t:Tr):List Pl:=gJ t 0 t.sz 0 []
theorem jQ(t):(ah t).length=t.sz:=qy t _ _ _ _
theorem sc{t:Tr}(h:t.Wf):Sp (ah t) t.lf t.dsum 0 t t.sz 0 [] where
 pl:=⟨[],by simp[ah]⟩
 kx:=zN (ä (jQ t))
 lo:=by omega
 hi:=ä (jQ t).symm
 wf:=h
 bl:=by simp[kB]
 bd:=by simp
 bk:=by intro p A;simp at A
theorem qi{t}(h:t.Wf){j}(A:j<(ah t).length):∃C a b B,Sp (ah t) t.lf t.dsum j C a b B:=
 rC t 0 _ _ _ (sc h) j (æ _) (by rw[jQ]at A;omega)
theorem DK{t}(h:t.Wf){j}(A:0<j)(B:j<(ah t).length):∃p,p<j/\iO (ah t) t.lf t.dsum p j:=by grind [rz,sc,jQ,ah,iO]
/-! ### Moves and courses -/
def vv(R:List Pl)(wd i c:Nat):eY:=bs wd c (kont R i)
theorem yA{R A i c}(h:ſ R<=i):vv R A i c=((0,0),[]):=by rw[vv,zN h,L9]
theorem QS{R wd L M i c nx dp D t}(h:Sp R L M i t nx dp D)(E:L*(21+M)<=400000):(vv R wd i c).1.1<=400000/\(vv R wd i c).1.2<=400000:=by
 have B:=Qk wd c M (kont R i) (by rw[h.kont];intro p A;rcases â.1 A with rfl|A;exact⟨h.bd,h.wf⟩;exact h.bk p A);have C:kB (kont R i)*(21+M)<=L*(21+M):=Nat.mul_le_mul_right _ (by rw[h.kont];exact h.bl);rw[vv];omega
structure Mv where
 np:Nat
 nc:Nat
 o:Nat
 l:Nat
def gV(wd:Nat)(op:Int)(k nx dp lg e i c ch:Nat):Mv:=
 if op=1 then⟨nx,min (c+k) wd,c+k-wd,0⟩
 else if op=2\/op=3\/op=4 then⟨nx,min dp wd,dp-wd,1⟩
 else if op=5 then⟨nx,c,0,0⟩
 else if op=8/\ch=0 then⟨nx,min (c+lg) wd,c+lg-wd,0⟩
 else if op=9/\ch=1 then⟨e,c,0,0⟩
 else⟨i+1,c,0,0⟩
section
variable {wd k nx dp lg e i c ch:Nat} {op:Int}
theorem va(h:op=1):gV wd op k nx dp lg e i c ch=⟨nx,min (c+k) wd,c+k-wd,0⟩:=by rw[gV,if_pos h]
theorem qw(h:op=2\/op=3\/op=4):gV wd op k nx dp lg e i c ch=⟨nx,min dp wd,dp-wd,1⟩:=by rw[gV,if_neg (by omega),if_pos h]
theorem vb(h:op=5):gV wd op k nx dp lg e i c ch=⟨nx,c,0,0⟩:=by rw[gV,if_neg (by omega),if_neg (by omega),if_pos h]
theorem uZ(h:op=8)(A:ch=0):gV wd op k nx dp lg e i c ch=⟨nx,min (c+lg) wd,c+lg-wd,0⟩:=by grind [gV]
theorem xE(h:op=9)(A:ch=1):gV wd op k nx dp lg e i c ch=⟨e,c,0,0⟩:=by grind [gV]
theorem kV(h:op=6\/op=7\/(op=8/\ch≠0)\/(op=9/\ch≠1)):gV wd op k nx dp lg e i c ch=⟨i+1,c,0,0⟩:=by grind [gV]
end
def mv(wd:Nat)(r:Pl)(e i c ch:Nat):Mv:=gV wd r.nd.op r.nd.tx.size r.nx r.dp r.lg.toNat e i c ch
def eu(op:Int):Bool:=decide (op=8)||decide (op=9)
structure Cv where
 o:Nat
 l:Nat
 ch:Nat
 np:Nat
 nc:Nat
def jF(R:List Pl)(wd ch:Nat)(m:Mv):Cv:=⟨m.o+(vv R wd m.np m.nc).1.1,m.l+(vv R wd m.np m.nc).1.2,ch,m.np,m.nc⟩
def aD(R:List Pl)(i:Nat):Pl:=R.getD i ⟨⟨0,⟨#[]⟩,0⟩,0,0,0,0,.leaf ⟨0,⟨#[]⟩,0⟩,[]⟩
theorem Sp.at{R L M i nx dp A t}(h:Sp R L M i t nx dp A):aD R i=fY t i nx dp A:=by rw[aD,List.getD,h.get];rfl
def bH(R:List Pl)(wd i c ch:Nat):Mv:=mv wd (aD R i) (aD R (i+1)).en i c ch
def ax(R:List Pl)(wd i c ch:Nat):Cv:=jF R wd ch (bH R wd i c ch)
def az(R:List Pl)(wd i c:Nat):Cv:=
 if(aD R i).lg=-1 then ax R wd i c 1
 else if eu (aD R i).nd.op=false then ax R wd i c 0
 else if dG ((ax R wd i c 1).o,(ax R wd i c 1).l) ((ax R wd i c 0).o,(ax R wd i c 0).l)then ax R wd i c 1 else ax R wd i c 0
structure EL(R:List Pl)(wd i:Nat)(m:Mv):Prop where
 lo:i<m.np
 hi:m.np<=ſ R
 cl:m.nc<=wd
 bo:m.o<=20000
 bl:m.l<=1
section
variable {R:List Pl} {L M i nx dp wd c ch:Nat} {ks:List (Nat × Tr)} {t:Tr}
theorem Mx{a:Tr}(h:a.Wf)(B:a.lf<=400):(iB a.flat).toNat<=8000:=by
 cases A:a.flat with
 | none=>simp[iB]
 | some s=>have:=mZ a s h A;simp[iB];omega
theorem mH{x}(h:Sp R L M i (.leaf x) nx dp ks):bH R wd i c ch=gV wd x.op x.tx.size nx dp 0 (aD R (i+1)).en i c ch:=by rw[bH,h.at];rfl
theorem mO{x a}(h:Sp R L M i (.one x a) nx dp ks):bH R wd i c ch=gV wd x.op x.tx.size nx dp (Tr.lg (.one x a)).toNat (aD R (i+1)).en i c ch:=by rw[bH,h.at];rfl
theorem oI{x a b}(h:Sp R L M i (.two x a b) nx dp ks):bH R wd i c ch=gV wd x.op x.tx.size nx dp 0 (i+1+a.sz) i c ch:=by
 obtain⟨C,B,A⟩:=h.two1;rw[bH,h.at,A.at];rfl
theorem qh(h:Sp R L M i t nx dp ks)(V:c<=wd)(Y:wd<=100)(W:L<=400)(X:M<=3200):EL R wd i (bH R wd i c ch):=by
 have S:=h.lo;have A:=h.hi;have U:=rF t;have K:=h.bd;have C:=h.bl;cases t with
 | leaf x=>
  have O:=fJ h.wf.1;rw[mH h];rcases iZ h.wf.1 h.wf.2 with e|e|e|e|e
  .rw[va e]
   have:=jS (O.2.2.2.2.1 e)
   exact⟨by dsimp only;omega,A,Ó _ _,by dsimp only;omega,by simp⟩
  all_goals first
   | (rw[qw (by omega)];exact⟨by dsimp only;omega,A,Ó _ _,by dsimp only;omega,by simp⟩)
   | (rw[vb (by omega)];exact⟨by dsimp only;omega,A,V,by simp,by simp⟩)
 | one x a=>
  have E:=h.one;have D:=E.lt;have J:=jD h.wf.2.1;rw[mO h];by_cases B:x.op=8/\ch=0
  .rw[uZ B.1 B.2];have N:(Tr.lg (.one x a)).toNat<=8000:=by rw[Tr.lg,if_pos B.1];exact Mx h.wf.2.2 (by simp only[Tr.lf]at C;omega)
   exact⟨by dsimp only;omega,A,Ó _ _,by dsimp only;omega,by simp⟩
  .rw[kV (by omega)];exact⟨by simp,by dsimp only;omega,V,by simp,by simp⟩
 | two x a b=>
  obtain⟨Q,P,E⟩:=h.two1;have D:=E.lt;have H:=h.two2.lt;have I:=jj h.wf.2.1;rw[oI h];by_cases G:x.op=9/\ch=1
  .rw[xE G.1 G.2];exact⟨by dsimp only;omega,by dsimp only;omega,V,by simp,by simp⟩
  .rw[kV (by omega)];exact⟨by simp,by dsimp only;omega,V,by simp,by simp⟩
theorem ML(o l u a):cC o l u a=((o+a.1.1,l+a.1.2),u++a.2):=rfl
theorem wE(h:Sp R L M i t nx dp ks)(Y:c<=wd):
  vv R wd i c=(((az R wd i c).o,(az R wd i c).l),(if eu t.root.op=true then [((az R wd i c).ch:Int)]else [])++(vv R wd (az R wd i c).np (az R wd i c).nc).2)/\∃a,(a=0\/a=1)/\az R wd i c=ax R wd i c a:=by
 have D:=h.at;have E:=h.kont;have N:=h.kx;refine⟨?_,?_⟩
 .cases t with
  | leaf x=>
   have B:(aD R i).lg≠-1:=by rw[D];simp[fY,Tr.lg]
   have C:(aD R i).nd.op=x.op:=by rw[D];rfl
   have A:eu x.op=false:=by rcases iZ h.wf.1 h.wf.2 with e|e|e|e|e<;>simp[eu,e]
   rw[az,if_neg B,C,if_pos A,ax,jF,Tr.root,A];dsimp only
   have X:vv R wd i c=cC (bH R wd i c 0).o (bH R wd i c 0).l [] (vv R wd (bH R wd i c 0).np (bH R wd i c 0).nc):=by
    rw[mH h,vv,E];rcases iZ h.wf.1 h.wf.2 with e|e|e|e|e
    .rw[va e,J5 h.wf.1 e Y];dsimp only;rw[vv,N]
    all_goals first
     | (rw[qw (by omega),J4 (by omega)];dsimp only;rw[vv,N])
     | (rw[vb (by omega),J6 e];dsimp only;rw[vv,N])
   rw[X];rfl
  | one x a=>
   have V:=jD h.wf.2.1;have C:(aD R i).nd.op=x.op:=by rw[D];rfl
   have J:=h.one;have O:bH R wd i c 1=⟨i+1,c,0,0⟩:=by rw[mO h,kV (by omega)]
   rcases V with e|e
   .have B:(aD R i).lg≠-1:=by rw[D];simp[fY,Tr.lg,e]
    have A:eu x.op=false:=by simp[eu,e]
    have G:bH R wd i c 0=⟨i+1,c,0,0⟩:=by rw[mO h,kV (by omega)]
    rw[az,if_neg B,C,if_pos A,ax,jF,Tr.root,A,G];dsimp only;rw[vv,E,J2 e,vv,J.kont];simp
   .have A:eu x.op=true:=by simp[eu,e]
    have B:(aD R i).lg=iB a.flat:=by rw[D];simp[fY,Tr.lg,e]
    have W:x.n.toNat=0:=by have:=fJ h.wf.1;omega
    have S:kont R (i+1)=(dp,a)::ks:=by rw[J.kont,W];rfl
    cases H:a.flat with
    | none=>
     rw[H]at B;rw[az,if_pos (show(aD R i).lg=-1 from B),ax,jF,Tr.root,A,O];dsimp only;rw[vv,E,J3 (by omega) H,ML,vv,S];simp
    | some s=>
     rw[H]at B;have I:(aD R i).lg≠-1:=by rw[B,iB];omega
     have G:bH R wd i c 0=⟨nx,min (c+ſ s) wd,c+ſ s-wd,0⟩:=by
      rw[mO h,uZ e rfl,Tr.lg,if_pos e,H];rfl
     rw[az,if_neg I,C,if_neg (by rw[A];simp),Tr.root,A];rw[vv,E,TQ (by omega) h.wf.2.2 H Y]
     have P:ax R wd i c 0=⟨(cC (c+ſ s-wd) 0 [0] (bs wd (min (c+ſ s) wd) ks)).1.1,(cC (c+ſ s-wd) 0 [0] (bs wd (min (c+ſ s) wd) ks)).1.2,0,nx,min (c+ſ s) wd⟩:=by
      rw[ax,jF,G];simp only[vv,N,cC]
     have Q:ax R wd i c 1=⟨(cC 0 0 [1] (bs wd c ((dp,a)::ks))).1.1,(cC 0 0 [1] (bs wd c ((dp,a)::ks))).1.2,1,i+1,c⟩:=by
      rw[ax,jF,O];simp only[vv,S,cC]
     rw[P,Q];unfold gj;dsimp only
     split
     .simp only[if_true,vv,S,cC];rfl
     .simp only[if_true,vv,N,cC];rfl
  | two x a b=>
   have U:=jj h.wf.2.1;have C:(aD R i).nd.op=x.op:=by rw[D];rfl
   have B:(aD R i).lg≠-1:=by rw[D];simp[fY,Tr.lg]
   have G:bH R wd i c 0=⟨i+1,c,0,0⟩:=by rw[oI h,kV (by omega)]
   rcases U with e|e
   .have A:eu x.op=false:=by simp[eu,e]
    rw[az,if_neg B,C,if_pos A,ax,jF,Tr.root,A,G];dsimp only;rw[vv,E,J1 e,vv,(h.both1 e).kont];simp
   .have A:eu x.op=true:=by simp[eu,e]
    have J:=h.either1 (by omega);have K:=h.two2;have O:bH R wd i c 1=⟨i+1+a.sz,c,0,0⟩:=by rw[oI h,xE e rfl]
    rw[az,if_neg B,C,if_neg (by rw[A];simp),Tr.root,A];rw[vv,E,Ro (by omega)]
    have P:ax R wd i c 0=⟨(cC 0 0 [0] (bs wd c ((dp,a)::ks))).1.1,(cC 0 0 [0] (bs wd c ((dp,a)::ks))).1.2,0,i+1,c⟩:=by
     rw[ax,jF,G];simp only[vv,J.kont,cC]
    have Q:ax R wd i c 1=⟨(cC 0 0 [1] (bs wd c ((dp,b)::ks))).1.1,(cC 0 0 [1] (bs wd c ((dp,b)::ks))).1.2,1,i+1+a.sz,c⟩:=by
     rw[ax,jF,O];simp only[vv,K.kont,cC]
    rw[P,Q];unfold gj;dsimp only
    split
    .simp only[if_true,vv,K.kont,cC];rfl
    .simp only[if_true,vv,J.kont,cC];rfl
 .unfold az
  split
  .exact⟨1,.inr rfl,rfl⟩
  .split
   .exact⟨0,.inl rfl,rfl⟩
   .split
    .exact⟨1,.inr rfl,rfl⟩
    .exact⟨0,.inl rfl,rfl⟩
end
end Go.Proofs.YtelcnplcpboonaaGreatDoor
namespace Go.Proofs.YtelcnplcpboonaaGreatDoor
open Go Go.RowKit
set_option maxRecDepth 100000
set_option maxHeartbeats 1000000
def jG(n:Int):Bool:=decide (0<=n)&&decide (n<=1000000)
def ff(c:Int × Int):Bool:=jG c.1&&jG c.2
theorem xT{n}(h:jG n=true):0<=n/\n<=1000000:=by simpa[jG]using h
theorem Ny{n}(h:jG n=false):n<0\/(0<=n/\1000000<n):=by
 simp[jG]at h;omega
theorem uR(n:Int)(w):Cw 294 #[n] w (.bool (jG n)):=by
 unfold Cw;cases h:jG n with
 | true=>
  obtain⟨A,C⟩:=xT h;go_in;go_wp2;go_ret;exact⟨rfl,rfl⟩
 | false=>
  rcases Ny h with A|⟨A,C⟩
  .have B:¬0<=n:=by omega
   go_in;go_wp2;go_ret;exact⟨rfl,rfl⟩
  .have D:¬n<=1000000:=by omega
   go_in;go_wp2;go_ret;exact⟨rfl,rfl⟩
theorem BZ(R:List (Int × Int))(B)(w:Ì)(V:B<w.heap.size)(M:ſ R<=2)
  (U:∀j(h:j<ſ R),w.cell? ⟨B,j*2,Æ⟩=Á (Ï Ò R[j].1)/\w.cell? ⟨B,j*2+1,Æ⟩=Á (Ï Ò R[j].2)):
  à prog 290 #[Ê (Á ⟨B,0,Æ⟩) (ſ R) (ſ R)] w λe S=>((∃c∈R,ff c=false)/\e=È (.iface 50 (Ï Ò 1))\/(∀c∈R,ff c=true)/\e=È Ô)/\Ø w w S:=by
 go_in;go_wp2
 go_loopw [7] (λi wr=>∃k:Nat,k<=ſ R/\i=Ï Ò k/\(∀c∈R.take k,ff c=true)/\Ø w w wr) (λi _=>ſ R-(intOf i).toNat)
 case atStart=>exact⟨0,æ _,rfl,by simp,Î _ _⟩
 case round=>
  obtain⟨k,P,rfl,D,G⟩:=hrel;by_cases A:k<ſ R
  .have I:=(U k A).1;have J:=(U k A).2;have N:wr.cell? ⟨B,k*2,Æ⟩=Á (Ï Ò R[k].1):=(G.cell (p:=⟨B,k*2,Æ⟩) V).trans I;have O:wr.cell? ⟨B,k*2+1,Æ⟩=Á (Ï Ò R[k].2):=(G.cell (p:=⟨B,k*2+1,Æ⟩) V).trans J;clear I J U;have H:w.heap.size<=wr.heap.size:=G.size;have E:Ø w w (wr.alloc (.cells #[Ï Ò R[k].1,Ï Ò R[k].2] 120)):=G.alloc H _;cases K:jG R[k].1 with
   | false=>
    go_wp2_with(go_at_call 294;refine(uR _ _).mono ?_;rintro e S⟨rfl,rfl⟩);go_ret;exact⟨.inl ⟨⟨R[k],Þ A,by simp[ff,K]⟩,rfl⟩,E⟩
   | true=>
    cases L:jG R[k].2 with
    | false=>
     go_wp2_with(go_at_call 294;refine(uR _ _).mono ?_;rintro e S⟨rfl,rfl⟩);go_ret;exact⟨.inl ⟨⟨R[k],Þ A,by simp[ff,L]⟩,rfl⟩,E⟩
    | true=>
     go_wp2_with(go_at_call 294;refine(uR _ _).mono ?_;rintro e S⟨rfl,rfl⟩)
     go_roundw
     case rel=>
      refine⟨k+1,by omega,by go_num,?_,E⟩;intro c C;rw[List.take_succ_eq_append_getElem A]at C;rcases Ö.1 C with h|h
      .exact D c h
      .simp at h;subst h;simp[ff,K,L]
     case measure=>simp[intOf];omega
  .go_wp2;go_ret;exact⟨.inr ⟨λc C=>D c (by rw[List.take_of_length_le (by omega)];exact C),rfl⟩,G⟩
theorem xP(a b)(B:Nat)(w:Ì)(G:B<w.heap.size)(L:ff a=true)(M:ff b=true)
  (H:w.cell? B=Á ↑a.1) (I:w.cell? (B,1)=Á ↑a.2) (J:w.cell? (B,2)=Á ↑b.1) (K:w.cell? (B,3)=Á ↑b.2):
  Cb 290 #[Ê B 2 2] w Ô:=by
 unfold Cb;refine(BZ [a,b] B w G (by simp) ?_).mono ?_
 .intro j E
  match j,E with
  | 0,_=>exact⟨H,I⟩
  | 1,_=>exact⟨J,K⟩
 .rintro e N⟨⟨⟨c,C,A⟩,D⟩|⟨_,D⟩,G⟩
  .simp at C;rcases C with rfl|rfl
   .rw[L]at A;cases A
   .rw[M]at A;cases A
  .exact⟨D,G⟩
theorem Rv(a)(B:Nat)(w:Ì)(G:B<w.heap.size)(J:ff a=true)
  (H:w.cell? B=Á ↑a.1) (I:w.cell? (B,1)=Á ↑a.2):
  Cb 290 #[Ê B 1 1] w Ô:=by
 unfold Cb;refine(BZ [a] B w G (by simp) ?_).mono ?_
 .intro j E
  match j,E with
  | 0,_=>exact⟨H,I⟩
 .rintro e K⟨⟨⟨c,A,D⟩,C⟩|⟨_,C⟩,G⟩
  .simp at A;subst A;rw[J]at D;cases D
  .exact⟨C,G⟩
abbrev sV(a:Int × Int):Value:=.agg #[Ï Ò a.1,Ï Ò a.2]
def kt(a b:Int × Int):Bool:=if a.1=b.1 then decide (a.2<b.2)else decide (a.1<b.1)
theorem Hq{w:Ì}{D A B C}(E:Ø (((w.alloc A).alloc B).alloc C).heap.size (((w.alloc A).alloc B).alloc C) D):Ø w w D:=
 (((Zb.alloc Zl _).alloc (by simp) _).alloc (by simp;omega) _).trans (E.mono (by simp;omega))
theorem KN(a b)(w:Ì)(I:ff a=true)(J:ff b=true):
  Cb 276 #[sV a,sV b] w (è #[.bool (kt a b),Ô]):=by
 unfold Cb;have C:Hid (ff a=true):=I;have D:Hid (ff b=true):=J;clear I J;by_cases h:a.1=b.1
 .have B:kt a b=decide (a.2<b.2):=by simp[kt,h]
  rw[B];have E:(a.1 != b.1)=false:=by simp[h]
  clear h B;go_in;go_wp2_with fail;refine ai (xP a b (w.heap.size+1+1) _ (by simp) C.o D.o (by simp[go_sem]) (by simp[go_sem]) (by simp[go_sem]) (by simp[go_sem])) λK H=>?_
  have A:=Hq H;obtain⟨G,_⟩:=a9 H;go_wp2;go_ret2;exact⟨rfl,A⟩
 .have B:kt a b=decide (a.1<b.1):=by simp[kt,h]
  rw[B];have E:(a.1 != b.1)=true:=by simp[h]
  go_in;go_wp2_with fail;refine ai (xP a b (w.heap.size+1+1) _ (by simp) C.o D.o (by simp[go_sem]) (by simp[go_sem]) (by simp[go_sem]) (by simp[go_sem])) λK H=>?_
  have A:=Hq H;obtain⟨G,_⟩:=a9 H;go_wp2;go_ret2;exact⟨rfl,A⟩
def cO(s:Nat)(w:Ì)(a:Option Addr)(ds:List Nd):Prop:=
 ∀i(h:i<ſ ds),∃o,a=Á ⟨s,o,Æ⟩/\w.cell? ⟨s,o+i*3,Æ⟩=Á (Ï Ò ds[i].op)/\w.cell? ⟨s,o+i*3+1,Æ⟩=Á (Õ ds[i].tx)/\w.cell? ⟨s,o+i*3+2,Æ⟩=Á (Ï Ò ds[i].n)
theorem aS.s{w a C}(h:aS w a C)(D:C≠[]):∃s,s<w.heap.size/\cO s w a C:=by
 obtain⟨s,o,rfl,A,_⟩:=h 0 (List.length_pos_iff.2 D);refine⟨s,A,λi hi=>?_⟩;obtain⟨b,B,e,_,c⟩:=h i hi;simp only[Â,Addr.mk.injEq,and_true]at e;obtain⟨rfl,rfl⟩:=e;exact⟨o,rfl,c⟩
theorem cO.nods{s w a A}(h:cO s w a A)(B:s<w.heap.size):aS w a A:=by grind [cO,aS]
theorem cO.kept{s w w' a G}(h:cO s w a G)(H:w'.heap[s]?=w.heap[s]?):cO s w' a G:=by
 intro i E;obtain⟨o,e,B,C,D⟩:=h i E;have A:∀j,w'.cell? ⟨s,j,Æ⟩=w.cell? ⟨s,j,Æ⟩:=λj=>Ú (w:=w) (a:=⟨s,j,Æ⟩) H
 exact⟨o,e,(A _).trans B,(A _).trans C,(A _).trans D⟩
theorem cO.rest{s w o x G}(h:cO s w (Á ↑(s,o)) (x::G)):cO s w (Á ↑(s,o+3)) G:=by
 intro i D;obtain⟨E,e,A,B,C⟩:=h (i+1) (by simp;omega);simp only[Â,Addr.mk.injEq,and_true,true_and]at e;obtain rfl:=e;refine⟨o+3,rfl,?_,?_,?_⟩
 .rw[show o+3+i*3=o+(i+1)*3 by omega];exact A
 .rw[show o+3+i*3+1=o+(i+1)*3+1 by omega];exact B
 .rw[show o+3+i*3+2=o+(i+1)*3+2 by omega];exact C
theorem cO.slid{s w o B x C}(h:cO s w (Á ↑(s,o)) (x::C))(D:ſ C+1<=B):
  cO s w (if B=1 then Á ↑(s,o)else Á ↑(s,o+3)) C:=by
 by_cases A:B=1
 .have:C=[]:=List.eq_nil_of_length_eq_zero (by omega)
  subst this;exact λi hi=>by simp at hi
 .rw[if_neg A];exact h.rest
structure Q where
 op:Int
 tx:ByteArray
 n:Int
 en:Int
 nx:Int
 dp:Int
 lg:Int
def q0:Q:=⟨0,⟨#[]⟩,0,0,0,0,0⟩
def q1(r:Pl):Q:=⟨r.nd.op,r.nd.tx,r.nd.n,r.en,0,0,0⟩
def q2(r:Pl):Q:=⟨r.nd.op,r.nd.tx,r.nd.n,r.en,r.nx,r.dp,r.lg⟩
structure jH(w:Ì)(g j:Nat)(q:Q):Prop where
 c0:w.cell? ⟨g,j*7,Æ⟩=Á (Ï Ò q.op)
 c1:w.cell? ⟨g,j*7+1,Æ⟩=Á (Õ q.tx)
 c2:w.cell? ⟨g,j*7+2,Æ⟩=Á (Ï Ò q.n)
 c3:w.cell? ⟨g,j*7+3,Æ⟩=Á (Ï Ò q.en)
 c4:w.cell? ⟨g,j*7+4,Æ⟩=Á (Ï Ò q.nx)
 c5:w.cell? ⟨g,j*7+5,Æ⟩=Á (Ï Ò q.dp)
 c6:w.cell? ⟨g,j*7+6,Æ⟩=Á (Ï Ò q.lg)
def de(w:Ì)(b:Nat):Prop:=∃cs T,w.heap[b]?=Á (.cells cs T (0,0))
theorem de.frozen{w}{b i:Nat}(h:de w b):w.frozen? (b,i)=false:=by
 obtain⟨A,T,h⟩:=h;simp[World.frozen?,h]
theorem de.lt{w b}(h:de w b):b<w.heap.size:=by grind [de]
theorem de.kept{w w' b}(h:de w b)(B:w'.heap[b]?=w.heap[b]?):de w' b:=by
 obtain⟨A,T,h⟩:=h;exact⟨A,T,B.trans h⟩
theorem de.set{w}{b c i:Nat}{v}(h:de w b):de (w.setCell (c,i) v) b:=by
 by_cases e:c=b
 .subst e;obtain⟨A,T,h⟩:=h;exact⟨A.setIfInBounds i v,T,by simp[World.setCell,Array.getElem?_modify,h]⟩
 .exact h.kept (Below.heap_setCell _ _ _ _ (Ne.symm e))
structure bq(w:Ì)(g n:Nat)(F:Nat->Q):Prop where
 get:∀j,j<n->jH w g j (F j)
 row:de w g
theorem jH.kept{w w' g j q}(h:jH w g j q)(B:w'.heap[g]?=w.heap[g]?):jH w' g j q:=by
 have A:∀k,w'.cell? ⟨g,k,Æ⟩=w.cell? ⟨g,k,Æ⟩:=λk=>Ú (w:=w) (a:=⟨g,k,Æ⟩) B
 exact⟨(A _).trans h.c0,(A _).trans h.c1,(A _).trans h.c2,(A _).trans h.c3,(A _).trans h.c4,(A _).trans h.c5,(A _).trans h.c6⟩
theorem bq.kept{w w' g n}{F:Nat->Q}(h:bq w g n F)(A:w'.heap[g]?=w.heap[g]?):bq w' g n F:=⟨λj B=>(h.get j B).kept A,h.row.kept A⟩
theorem bq.congr{w g n}{F G:Nat->Q}(h:bq w g n F)(e:∀j,j<n->F j=G j):bq w g n G:=⟨λj A=>e j A ▸ h.get j A,h.row⟩
theorem jH.other{w g j k f q v}(h:jH w g k q)(A:f<7)(B:k≠j):jH (w.setCell (g,j*7+f) v) g k q:=
 ⟨(af (by omega)).trans h.c0,(af (by omega)).trans h.c1,(af (by omega)).trans h.c2,(af (by omega)).trans h.c3,(af (by omega)).trans h.c4,(af (by omega)).trans h.c5,(af (by omega)).trans h.c6⟩
def ct(F:Nat->Q)(j:Nat)(q:Q):Nat->Q:=λk=>if k=j then q else F k
theorem dX(F:Nat->Q)(j q):ct F j q j=q:=by simp[ct]
theorem gM{F:Nat->Q}{j k q}(h:k≠j):ct F j q k=F k:=by simp[ct,h]
theorem bq.put{w:Ì}{g n j f:Nat}{F:Nat->Q}{v:Value}{q:Q}(h:bq w g n F)(A:f<7)(B:jH (w.setCell ⟨g,j*7+f,Æ⟩ v) g j q):bq (w.setCell ⟨g,j*7+f,Æ⟩ v) g n (ct F j q) where
 get k hk:=by
  by_cases e:k=j
  .subst e;rw[dX];exact B
  .rw[gM e];exact(h.get k hk).other A e
 row:=h.row.set
section
variable {w:Ì} {g n j:Nat} {F:Nat→Q}
theorem bq.putOp(h:bq w g n F)(A:j<n)(x:Int):bq (w.setCell (g,j*7) x) g n (ct F j {F j with op:=x}):=by
 have k:=h.get j A;exact h.put (f:=0) (by omega) ⟨cF k.c0,(af (by omega)).trans k.c1,(af (by omega)).trans k.c2,(af (by omega)).trans k.c3,(af (by omega)).trans k.c4,(af (by omega)).trans k.c5,(af (by omega)).trans k.c6⟩
theorem bq.putTx(h:bq w g n F)(A:j<n)(x):bq (w.setCell (g,j*7+1) (Õ x)) g n (ct F j {F j with tx:=x}):=by
 have k:=h.get j A;exact h.put (f:=1) (by omega) ⟨(af (by omega)).trans k.c0,cF k.c1,(af (by omega)).trans k.c2,(af (by omega)).trans k.c3,(af (by omega)).trans k.c4,(af (by omega)).trans k.c5,(af (by omega)).trans k.c6⟩
theorem bq.putN(h:bq w g n F)(A:j<n)(x:Int):bq (w.setCell (g,j*7+2) x) g n (ct F j {F j with n:=x}):=by
 have k:=h.get j A;exact h.put (f:=2) (by omega) ⟨(af (by omega)).trans k.c0,(af (by omega)).trans k.c1,cF k.c2,(af (by omega)).trans k.c3,(af (by omega)).trans k.c4,(af (by omega)).trans k.c5,(af (by omega)).trans k.c6⟩
theorem bq.putEn(h:bq w g n F)(A:j<n)(x:Int):bq (w.setCell (g,j*7+3) x) g n (ct F j {F j with en:=x}):=by
 have k:=h.get j A;exact h.put (f:=3) (by omega) ⟨(af (by omega)).trans k.c0,(af (by omega)).trans k.c1,(af (by omega)).trans k.c2,cF k.c3,(af (by omega)).trans k.c4,(af (by omega)).trans k.c5,(af (by omega)).trans k.c6⟩
theorem bq.putNx(h:bq w g n F)(A:j<n)(x:Int):bq (w.setCell (g,j*7+4) x) g n (ct F j {F j with nx:=x}):=by
 have k:=h.get j A;exact h.put (f:=4) (by omega) ⟨(af (by omega)).trans k.c0,(af (by omega)).trans k.c1,(af (by omega)).trans k.c2,(af (by omega)).trans k.c3,cF k.c4,(af (by omega)).trans k.c5,(af (by omega)).trans k.c6⟩
theorem bq.putDp(h:bq w g n F)(A:j<n)(x:Int):bq (w.setCell (g,j*7+5) x) g n (ct F j {F j with dp:=x}):=by
 have k:=h.get j A;exact h.put (f:=5) (by omega) ⟨(af (by omega)).trans k.c0,(af (by omega)).trans k.c1,(af (by omega)).trans k.c2,(af (by omega)).trans k.c3,(af (by omega)).trans k.c4,cF k.c5,(af (by omega)).trans k.c6⟩
theorem bq.putLg(h:bq w g n F)(A:j<n)(x:Int):bq (w.setCell (g,j*7+6) x) g n (ct F j {F j with lg:=x}):=by
 have k:=h.get j A;exact h.put (f:=6) (by omega) ⟨(af (by omega)).trans k.c0,(af (by omega)).trans k.c1,(af (by omega)).trans k.c2,(af (by omega)).trans k.c3,(af (by omega)).trans k.c4,(af (by omega)).trans k.c5,cF k.c6⟩
end
theorem sl(F:Nat->Q)(j p q):ct (ct F j p) j q=ct F j q:=by
 funext k
 simp only[ct]
 split<;>rfl
theorem ka{w:Ì}{b o:Nat}{v}(h:w.cell? (b,o)=Á v)(O):(w.alloc O).cell? (b,o)=Á v:=
 (((Î _ w).alloc Zl O).cell (p:=(b,o)) (World.block_lt_of_cell? w _ h)).trans h
theorem ij{w:Ì}{b o:Nat}(A:b<w.heap.size)(h:w.frozen? (b,o)=false)(O):(w.alloc O).frozen? (b,o)=false:=
 (((Î _ w).alloc Zl O).frozen (p:=(b,o)) A).trans h
theorem kh{i n:Nat}(A:n<=400)(hi:(i:Int)<n):IntKind.i64.wrap ((i:Int)+1)=(i:Int)+1:=by
 rw[IntKind.wrap_i64];omega
set_option maxHeartbeats 4000000
theorem Ri(B g n i:Nat)(op:Int)(w)(C:n<=400)(hi:(i:Int)<n)
  (c0:w.cell? ↑B=Á (Ê ↑g n n)) (E:w.cell? ↑(g,i*7)=Á ↑op) (G:(op==6)=false) (J:(op==9)=false) (H:(op==7)=false) (I:(op==8)=false):
  à prog 228 #[Ç ↑B,↑i] w λe D=>e=È ↑((i:Int)+1)/\∃q,D=w.drewN q:=by
 have A:=kh C hi;go_in;go_wp2;go_ret;exact⟨rfl,0,rfl⟩
theorem TL(D g n i:Nat)(op x:Int)(w)(E:n<=400)(hi:(i:Int)<n)(B:(i:Int)+1<n)
  (c0:w.cell? D=Á (Ê g n n)) (H:w.cell? (g,i*7)=Á ↑op) (I:w.cell? (g,(i+1)*7+3)=Á ↑x) (A:op=7\/op=8):
  à prog 228 #[Ç D,i] w λe G=>e=È x/\∃q,G=w.drewN q:=by
 have C:=kh E hi;rcases A with rfl|rfl
 all_goals
  go_in;go_wp2;go_ret;exact⟨rfl,0,rfl⟩
theorem TM(D g n i j:Nat)(op x:Int)(w)(E:n<=400)(hi:(i:Int)<n)(B:(i:Int)+1<n)(K:(j:Int)<n)
  (c0:w.cell? D=Á (Ê g n n)) (H:w.cell? (g,i*7)=Á ↑op) (I:w.cell? (g,(i+1)*7+3)=Á ↑(j:Int)) (J:w.cell? (g,j*7+3)=Á ↑x) (A:op=6\/op=9):
  à prog 228 #[Ç D,i] w λe G=>e=È x/\∃q,G=w.drewN q:=by
 have C:=kh E hi;rcases A with rfl|rfl
 all_goals
  go_in;go_wp2_with fail
  go_quiet (fail)
  go_wp2;go_ret;exact⟨rfl,_,rfl⟩
def ph(g a b:Nat)(e f:Value)(w w':Ì):Prop:=
 w'.os=w.os/\w'.tape=w.tape/\w'.output=w.output/\w'.heap=((w.setCell ⟨g,a,Æ⟩ e).setCell ⟨g,b,Æ⟩ f).heap
theorem Rr(A g n i:Nat)(x y:Int)(w)(hi:(i:Int)<n)
  (c0:w.cell? A=Á (Ê g n n)) (C D) (E:w.cell? (g,i*7+4)=Á C) (G:w.cell? (g,i*7+5)=Á D) (H:w.frozen? (g,i*7+4)=false) (I:w.frozen? (g,i*7+5)=false):
  à prog 254 #[Ç A,i,x,y] w λe B=>e=È (è #[])/\ph g (i*7+4) (i*7+5) x y w B:=by
 go_in
 go_region_held3 (λB=>B.cell? A=Á (Ê g n n))
  (first|exact c0|exact(af (by omega)).trans c0|exact(af (by omega)).trans ((af (by omega)).trans c0)) (fail)
 all_goals
  go_wp2
  go_end0
  exact⟨rfl,rfl,rfl,rfl,rfl⟩
theorem L6{w:Ì}{E A B C D}(G:Ø ((((w.alloc A).alloc B).alloc C).alloc D).heap.size ((((w.alloc A).alloc B).alloc C).alloc D) E):Ø w w E:=
 ((((Zb.alloc Zl _).alloc (by simp) _).alloc (by simp;omega) _).alloc (by simp;omega) _).trans (G.mono (by simp;omega))
theorem Hp{n w C E A B}(D:Ø n w C)(I:n<=w.heap.size)(G:Ø ((C.alloc A).alloc B).heap.size ((C.alloc A).alloc B) E):Ø n w E:=
 have H:=D.size
 ((D.alloc (by omega) _).alloc (by simp;omega) _).trans (G.mono (by simp;omega))
theorem IB{a}(h:ff a=true):(0<=a.1/\a.1<=1000000)/\(0<=a.2/\a.2<=1000000):=by
 simp only[ff,Bool.and_eq_true]at h;exact⟨xT h.1,xT h.2⟩
abbrev sS(a b:Int × Int):Int × Int:=(a.1+b.1,a.2+b.2)
theorem L4(a b)(w:Ì)(m:ff a=true)(n:ff b=true)(q:ff (sS a b)=true):
  Cb 289 #[sV a,sV b] w (è #[.agg #[(a.1+b.1),(a.2+b.2)],Ô]):=by
 unfold Cb;obtain⟨⟨W,X⟩,⟨Y,Z⟩⟩:=IB m;obtain⟨⟨c,d⟩,⟨f,g⟩⟩:=IB n;have N:=aa m;have O:=aa n;have P:Hid (ff (sS a b)=true):=q;clear q m n;go_in;go_wp2_with fail;refine ai (xP a b (w.heap.size+1+1+1) _ (by simp) N.o O.o (by simp[go_sem]) (by simp[go_sem]) (by simp[go_sem]) (by simp[go_sem])) λe j=>?_
 have D:=L6 j;obtain⟨B,G⟩:=a9 j;have V:w.heap.size+1+1+1<e.heap.size:=by have:=j.size;simp at this;omega
 clear j;have L:e.cell? ↑(w.heap.size+1+1)=Á (Ï Ò 0):=(B _ _ (by simp only[À];omega)).trans (by simp[go_sem]);have M:e.cell? (w.heap.size+1+1,1)=Á (Ï Ò 0):=(B _ _ (by simp only[À];omega)).trans (by simp[go_sem]);have J:e.frozen? ↑(w.heap.size+1+1)=false:=(G _ _ (by simp only[À];omega)).trans (by simp[go_sem]);have K:e.frozen? (w.heap.size+1+1,1)=false:=(G _ _ (by simp only[À];omega)).trans (by simp[go_sem]);have u0:e.cell? w.heap.size=Á ↑a.1:=(B _ _ (by simp only[À];omega)).trans (by simp[go_sem]);have u1:e.cell? (w.heap.size,1)=Á ↑a.2:=(B _ _ (by simp only[À];omega)).trans (by simp[go_sem]);have S:e.cell? ↑(w.heap.size+1)=Á ↑b.1:=(B _ _ (by simp only[À];omega)).trans (by simp[go_sem]);have U:e.cell? (w.heap.size+1,1)=Á ↑b.2:=(B _ _ (by simp only[À];omega)).trans (by simp[go_sem]);clear B G;go_wp2_with fail;refine ai (Rv (sS a b) (e.heap.size+1) _ (by simp) P.o (by simp[go_sem]) (by simp[go_sem])) λl k=>?_
 have E:=Hp D Zl k;have A:=Hp (Î e.heap.size e) Zl k;obtain⟨C,_⟩:=a9 k;clear k;have H:=(A.cell (p:=↑(w.heap.size+1+1)) (show w.heap.size+1+1<e.heap.size by omega)).trans L;have I:l.cell? (w.heap.size+1+1,1)=Á (Ï Ò 0):=(A.cell (p:=(w.heap.size+1+1,1)) (show w.heap.size+1+1<e.heap.size by omega)).trans M;have Q:l.frozen? ↑(w.heap.size+1+1)=false:=(A.frozen (p:=↑(w.heap.size+1+1)) (show w.heap.size+1+1<e.heap.size by omega)).trans J;have R:l.frozen? (w.heap.size+1+1,1)=false:=(A.frozen (p:=(w.heap.size+1+1,1)) (show w.heap.size+1+1<e.heap.size by omega)).trans K;have h:l.cell? e.heap.size=Á ↑(a.1+b.1):=(C _ _ (by simp only[À];omega)).trans (by simp[go_sem]);have i:l.cell? (e.heap.size,1)=Á ↑(a.2+b.2):=(C _ _ (by simp only[À];omega)).trans (by simp[go_sem]);clear C D A L M J K u0 u1 S U;go_wp2;exact bodyPost_ret (v:=è #[.agg #[↑(a.1+b.1),↑(a.2+b.2)],Ô]) (by simp[results,Tryz.results289,go_sem,H,I]) rfl ⟨rfl,(E.setCell (p:=↑(w.heap.size+1+1)) (by simp;omega) _).setCell (p:=↑(w.heap.size+1+1,1)) (by simp;omega) _⟩
