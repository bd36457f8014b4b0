import Derived.Test.YtelcnplcpboonaaGreatDoorPe36
import Derived.Deep.RegionWith
import Derived.Test.YtelcnplcpboonaaGreatDoorPe25
import Derived.Lib.AtoiAllMem
import Derived.BigGuard
open Go.Proofs.Tryz
open List renaming length->ſ
open Go.Value renaming string->À,pointer->Ç,int->É,tuple->Ð,bool->Ù,slice->à,nilIface->â,iface->ë
open List renaming length_append->Á,length_cons->Ä,length_singleton->È,getElem?_eq_getElem->Ì,head?_eq_getElem?->Î,eq_nil_of_length_eq_zero->Ò,length_nil->Ú,append_nil->Ü,append_assoc->á,all_eq_true->ã,length_map->å,length->ê
open Go.Ending renaming returned->Â,panicked->ç
open Go renaming World->Ã,Calls->Õ,CallsIn->é
open Nat renaming le_trans->Å,zero_le->Ý,eq_zero_or_pos->ß,lt_or_ge->è
open Go.ByteArray renaming toList_eq->Æ
open Go.IntKind renaming i64->Ê
open Int renaming toNat_natCast->Ë
open Option renaming some->Í,none->Ï
open Bool renaming false->Ñ,true->Ó,and_eq_true->ä,or_eq_true->æ
open Go.Lib renaming extract_to_end->Ô,indexByte->Ö,cell_of_heap->Ø,extract_eq->Þ
open Go.RowKit renaming Below->Û
namespace Go.Proofs.YtelcnplcpboonaaGreatDoor
open Go Go.RowKit
set_option maxRecDepth 100000
set_option maxHeartbeats 2000000
def fM(M:Nat)(σ:Ss)(b:Bool)(K:Nat)(l:ByteArray)(W:Ã)(e:Ending)(w':Ã):Prop:=∃ans τ b',e=Â (À (ab ans))/\a8 32 w' M τ b'/\fE τ b' (K+l.size)/\(b'=Ñ->b=Ñ/\ck σ (cG (ae l)) ans τ)/\(ſ ans)<=100000000/\am W M W w'
theorem zK{l}(h:0<l.size)(A:l[0]=43):cG (ae l)=.add (ae l).tail:=by
 have e:(ae l).head?=Í 43:=by
  rw[Î,Ì (by rw[aw];exact h)];exact congrArg Í A
 rw[cG,if_pos e]
theorem zC(l):l.extract 1 l.size=ab (ae l).tail:=by
 apply ByteArray.ext;apply Array.ext';rw[Ô];simp[ab,ae]
theorem a8.drew{T w M}{σ:Ss}{b}(h:a8 T w M σ b):a8 T w.drew M σ b:=h.W Zb.drew
theorem Qj{M}{w:Ã}{o:Nat}{v}:am w M w (w.setCell (M,o) v).drew:=(kR (B:=w.heap.size)).trans (am.of Zb.drew)
theorem fE.le{σ:Ss}{b K A}(h:fE σ b K)(B:K<=A):fE σ b A:=⟨h.ok,h.len,h.w1,h.w2,h.fm,Å h.tx B⟩
theorem ST{σ:Ss}{b K}(hK:K<=100000)(l)(n:l.size<=3000)(h:0<l.size)(j:l[0]=43)(M W)(i:a8 32 W M σ b)(g:fE σ b K):
  Õ prog 7 #[Ç (Í ⟨M,0,Ï⟩),À l] W λe m=>fM M σ b K l W e m:=by
 have R:Hid (a8 32 W M σ b):=i;have C:Hid (fE σ b K):=g;have J:Hid (cG (ae l)=.add (ae l).tail):=zK h j
 have G:Hid (ab σ.tx++l.extract 1 l.size++(⟨#[10]⟩:ByteArray)=ab (σ.tx++((ae l).tail++[10]))):=by
  show _=_;have P:(⟨#[10]⟩:ByteArray)=ab [10]:=rfl;rw[zC,P,bn,bn,á]
 have B:Hid (a8 32 (W.setCell ⟨M,0,Ï⟩ (À (ab (σ.tx++((ae l).tail++[10]))))) M ⟨σ.tx++((ae l).tail++[10]),σ.ps,σ.wd⟩ b):=i.setTx g.ok _;obtain⟨A,c,H,_,_,_,I,_⟩:=i.cell;have D:=I 0;have N:W.drew.cell? ⟨M,0,Ï⟩=Í (À (ab σ.tx)):=H;have O:W.drew.frozen? ⟨M,0,Ï⟩=false:=D
 have E:(ab σ.tx).size<=100000:=by
  have:=g.tx
  rw[cg];omega
 have Q:(l.extract 1 l.size).size<=3000:=by rw[ByteArray.size_extract];omega
 have U:(0:Int)<(l.size:Int):=by omega
 have V:(1:Int)<=(l.size:Int):=by omega
 have S:((l[0].toNat:Nat):Int)=43:=by rw[j];rfl
 have L:Hid ((ae l).tail.length+1=l.size):=by
  show _=_;rw[List.length_tail,aw];omega
 clear I i g j;rw[<-G.o]at B;generalize ab σ.tx=T at H N E G B;go_in;have Z:¬9223372036854775807<T.size+(l.extract 1 l.size).size:=by omega
 have a:¬9223372036854775807<T.size+(l.extract 1 l.size).size+1:=by omega
 have d:¬9223372036854775807<T.size+(l.size-1):=by omega
 have f:¬9223372036854775807<T.size+(l.size-1)+1:=by omega
 go_wp2_with fail
 go_region_with (fail)
 all_goals go_wp2
 go_ret;refine⟨eI,_,b,rfl,B.o.drew,?_,λk=>⟨k,by rw[J.o];exact .add _⟩,by decide,Qj⟩;refine⟨C.o.ok,C.o.len,C.o.w1,C.o.w2,C.o.fm,?_⟩;have X:=C.o.tx;have Y:=L.o;simp only[Á,È];omega
theorem zL:cG nR=.drop:=by rw[cG,if_neg (by decide),if_neg (by decide),if_neg (by decide),if_neg (by decide),if_neg (by decide),if_pos rfl]
theorem On{σ:Ss}{b K}(M W)(I:a8 32 W M σ b)(H:fE σ b K):
  Õ prog 7 #[Ç M,À ⟨#[100,114,111,112]⟩] W λe L=>fM M σ b K ⟨#[100,114,111,112]⟩ W e L:=by
 have B:=aa H;have C:=aa (I.setTx H.ok []);obtain⟨A,c,D,_,_,_,E,_⟩:=I.cell;have G:=E 0;generalize ab σ.tx=T at D;go_in;go_wp2;go_ret;refine⟨eI,_,b,rfl,C.o,⟨B.o.ok,B.o.len,B.o.w1,B.o.w2,B.o.fm,Ý _⟩,λJ=>⟨J,?_⟩,by decide,kR⟩;show ck σ (cG nR) eI _;rw[zL];exact .drop
theorem F5{l}(h:cG l=.bad):l.head?≠Í 43/\l.take 5≠ip/\l≠lj/\l≠nV/\l≠lu/\l≠nR:=by
 unfold cG at h
 split at h
 .cases h
 .split at h
  .cases h
  .split at h
   .cases h
   .split at h
    .cases h
    .split at h
     .cases h
     .split at h
      .cases h
      .rename_i h1 h2 h3 h4 h5 h6;exact⟨h1,h2,h3,h4,h5,h6⟩
theorem jh{l u}(h:ae l≠u):(l.toList==u)=false:=by
 rw[Æ];simpa[ae]using h
theorem SV{σ:Ss}{b K}(l)(j:cG (ae l)=.bad)(M W)(m:a8 32 W M σ b)(k:fE σ b K):
  Õ prog 7 #[Ç (Í ⟨M,0,Ï⟩),À l] W λe n=>fM M σ b K l W e n:=by
 have I:Hid (a8 32 W M σ b):=m;have H:Hid (fE σ b K):=k;have G:Hid (cG (ae l)=.bad):=j;obtain⟨J,E,L,N,O,P⟩:=F5 j;have X:(l.toList==[115,101,116])=false:=jh L;have Y:(l.toList==[116,101,120,116])=false:=jh N;have Z:(l.toList==[108,111,111,107])=false:=jh O;have a:(l.toList==[100,114,111,112])=false:=jh P;have c:(l.toList==[119,105,100,101,32])=false:=jh λe=>E (by rw[e];decide)
 have U:¬(0:Int)<(l.size:Int)\/∃h:0<l.size,(0:Int)<(l.size:Int)/\(((l[0].toNat:Nat):Int)==43)=false:=by
  rcases ß l.size with h|h
  .exact .inl (by omega)
  .refine .inr ⟨h,by omega,?_⟩;simp only[beq_eq_false_iff_ne,ne_eq];intro e;refine J ?_;rw[Î,Ì (by rw[aw];exact h)];have D:l[0]=43:=UInt8.toNat_inj.1 (show l[0].toNat=43 by omega);exact congrArg Í D
 have V:¬(5:Int)<(l.size:Int)\/(5:Int)<(l.size:Int)/\((l.extract 0 5).toList==[119,105,100,101,32])=false:=by
  rcases è 5 l.size with h|h
  .refine .inr ⟨by omega,jh λe=>E ?_⟩;rw[<-show ae (l.extract 0 5)=(ae l).take 5 from ?_]
   .exact e
   .show(l.extract 0 5).data.toList=l.data.toList.take 5
    rw[Þ];simp
  .exact .inl (by omega)
 clear m k j J E L N O P;have B:fM M σ b K l W (Â (À ⟨#[98,97,100,10]⟩)) W:=⟨jZ,σ,b,rfl,I.o,H.o.le (by omega),λi=>⟨i,by rw[G.o];exact .bad⟩,by decide,am.refl _ _ _⟩;have A:∀q,fM M σ b K l W (Â (À ⟨#[98,97,100,10]⟩)) (W.drewN q):=λq=>⟨jZ,σ,b,rfl,I.o.W (aP Zb q),H.o.le (by omega),λi=>⟨i,by rw[G.o];exact .bad⟩,by decide,am.of (aP Zb q)⟩
 have Q:Hid (fM M σ b K l W (Â (À ⟨#[98,97,100,10]⟩)) W):=B;have C:Hid (∀q,fM M σ b K l W (Â (À ⟨#[98,97,100,10]⟩)) (W.drewN q)):=A;clear B A;rcases U with S|⟨S,f,g⟩<;>rcases V with R|⟨R,d⟩
 any_goals (exfalso;omega)
 all_goals
  go_in;go_wp2;go_ret
  first|exact Q.o|exact C.o _
set_option maxHeartbeats 4000000
abbrev rg:Prop:=∀(wd:Int)(w:Ã),Õ prog 14 #[É Ê wd] w λe w'=>e=Â (Ù (decide (¬(wd<10\/100<wd))))/\w=w'
theorem MK(t):bS t=0\/bS t=3:=by grind [bS]
theorem nj:∀a:List (List Td),bu a=0\/bu a=3
 | []=>.inl rfl
 | t::r=>by
  rcases MK t with h|h
  .rw[lK h];exact nj r
  .right;rw[qN (by rw[h];decide),h]
theorem F6{l}(A:l.head?≠Í 43)(h:l.take 5=ip):cG l=.wide (l.drop 5):=by rw[cG,if_neg A,if_pos h]
theorem zA(l k):ae (l.extract k l.size)=(ae l).drop k:=by
 show(l.extract k l.size).data.toList=l.data.toList.drop k
 rw[Ô]
theorem rR{l u}(h:ae l=u):(l.toList==u)=true:=by
 rw[Æ];simpa[ae]using h
theorem Oq(hL:jr)(hW:rg){σ:Ss}{b K}(l)(h:(ae l).take 5=ip)(M W)(hS:a8 32 W M σ b)(hO:fE σ b K):
  Õ prog 7 #[Ç (Í ⟨M,0,Ï⟩),À l] W λe a=>fM M σ b K l W e a:=by
 have Af:5<=l.size:=by
  have:=congrArg ê h
  rw[List.length_take,aw]at this;have h5:ſ ip=5:=rfl;omega
 have hz:0<l.size:=by omega
 have H:(ae l).head?=Í 119:=by
  have:=congrArg List.head? h
  rw[List.head?_take]at this;simpa[ip]using this
 have I:l[0]=119:=by
  rw[Î,Ì (by rw[aw];exact hz)]at H;exact Option.some.inj H
 have e0:((l[0].toNat:Nat):Int)=119:=by rw[I];rfl
 have g0:(0:Int)<(l.size:Int):=by omega
 have g5:(5:Int)<=(l.size:Int):=by omega
 have J:Hid (cG (ae l)=.wide ((ae l).drop 5)):=F6 (by rw[H];decide) h
 have hc:((5:Int)<(l.size:Int)/\((l.extract 0 5).toList==[119,105,100,101,32])=Ó)\/(¬(5:Int)<(l.size:Int)/\(l.toList==[119,105,100,101,32])=Ó):=by
  rcases è 5 l.size with q|q
  .refine .inl ⟨by omega,rR ?_⟩
   show(l.extract 0 5).data.toList=_
   rw[Þ];simpa[ae,ip]using h
  .refine .inr ⟨by omega,rR ?_⟩;rw[List.take_of_length_le (by rw[aw];omega)]at h;exact h
 have O:Hid (∀w:Ã,Cw 13 #[À (l.extract 5 l.size)] w (É Ê (gA ((ae l).drop 5)))):=λw=>by
  have:=Vf (l.extract 5 l.size) w
  rw[zA]at this;exact this
 have P:Hid (a8 32 W M σ b):=hS;have B:Hid (fE σ b K):=hO;have s:Hid jr:=hL;have i:Hid rg:=hW;generalize hx:(ae l).drop 5=x at J O;clear hx h hS hO hL hW H I;cases V:gh x with
 | false=>
  have j:gA x=-1:=by rw[gA,V];rfl
  rw[j]at O;have L:Hid (fM M σ b K l W (Â (À ⟨#[98,97,100,10]⟩)) W):=⟨jZ,σ,b,rfl,P.o,B.o.le (by omega),λa=>⟨a,by rw[J.o];exact .wideN V⟩,by decide,am.refl _ _ _⟩;have N:Hid (∀q,fM M σ b K l W (Â (À ⟨#[98,97,100,10]⟩)) (W.drewN q)):=λq=>⟨jZ,σ,b,rfl,P.o.W (aP Zb q),B.o.le (by omega),λa=>⟨a,by rw[J.o];exact .wideN V⟩,by decide,am.of (aP Zb q)⟩
  clear V j s i;rcases hc with⟨p,r⟩|⟨p,r⟩
  all_goals
   go_in;go_wp2_with(go_at_call 13;refine(O.o _).mono ?_;rintro e D⟨rfl,rfl⟩);go_ret
   first|exact L.o|exact N.o _
 | true=>
  have j:gA x=(aY x:Int):=by rw[gA,if_pos V]
  rw[j]at O;have Ab:¬(aY x:Int)<0:=by omega
  have G:Hid (gh x=Ó):=V;clear V j;generalize hm:aY x=m at O Ab;have L:Hid (aY x=m):=hm;clear hm;by_cases X:10<=m/\m<=100
  .have R:Hid (∀w:Ã,Cw 14 #[É Ê (m:Int)] w (Ù Ó)):=λw=>by
    have n:=i.o (m:Int) w;rw[show decide (¬((m:Int)<10\/100<(m:Int)))=Ó by simp;omega]at n;exact n
   have Q:Hid (∀(w:Ã)(A:Option Addr)(c:Nat),a8 32 w M σ b->bP w A σ.ps->Cp 16 #[Ç (Í ⟨M,0,Ï⟩),à A σ.ps.length c,É Ê (m:Int)] w λe a=>∃S f k,e=Â (Ð #[À S,É Ê f])/\js σ.ps m S f k/\a8 32 a M σ (b||!k)/\am w M w a):=λw A c h1 h2=>sE s.o σ.ps B.o.ok B.o.len m X.1 X.2 A c M w h1 B.o.ok h2
   have g:Hid (∀w:Ã,Cw 15 #[À ⟨#[111,107]⟩,É Ê 0,É Ê 0] w (À (ab eI))):=λw=>vm _ (by decide) w
   have Aa:Hid (∀w:Ã,Cw 15 #[À ⟨#[111,107]⟩,É Ê 0,É Ê 3] w (À (ab (bQ 0 3)))):=λw=>oL (.inr (.inr (.inl rfl))) _ 0 (by decide) w
   have C:Hid (10<=m/\m<=100):=X;have Ad:Hid (∀q,a8 32 (W.drewN q) M σ b):=λq=>P.o.W (aP Zb q)
   have Ac:Hid (∀q,am W M W (W.drewN q)):=λq=>am.of (aP Zb q)
   obtain⟨A,c,c0,c1,c2,c3,u,hP⟩:=P.o.cell;have HP:Hid (bP W A σ.ps):=hP;clear X s i hP u c0 c1 c3;generalize o:σ.ps.length=np at c2;have y:Hid (σ.ps.length=np):=o;clear o;rw[y.o]at Q;rcases hc with⟨p,r⟩|⟨p,r⟩
   all_goals
    go_in
    go_wp2_with(first
     | (go_at_call 13;refine(O.o _).mono ?_;rintro e D⟨rfl,rfl⟩)
     | (go_at_call 14;refine(R.o _).mono ?_;rintro e D⟨rfl,rfl⟩))
    refine(Q.o W A c P.o HP.o).mono ?_;rintro e D⟨S,f,k,rfl,hR,U,b1⟩;have a:Hid (a8 32 D M σ (b||!k)):=U;have Y:Hid (am W M W D):=b1;obtain⟨_,_,_,d1,_,_,u,_⟩:=U.cell;have Ae:=u 1;have d:Hid (a8 32 (D.setCell ⟨M,1,Ï⟩ (É Ê (m:Int))) M ⟨σ.tx,σ.ps,m⟩ (b||!k)):=a.o.setWd B.o.ok m;have Z:Hid (am W M W (D.setCell ⟨M,1,Ï⟩ (É Ê (m:Int)))):=Y.o.trans kR;clear U b1 u Q;cases hR with
    | ok hz0=>
     have t:Hid (bu σ.ps=0):=hz0;clear hz0;generalize ab (aJ m σ.ps)=S;go_wp2_with(go_at_call 15;refine(g.o _).mono ?_;rintro e w2⟨rfl,rfl⟩);go_ret;exact⟨eI,_,_,rfl,d.o,⟨B.o.ok,B.o.len,C.o.1,C.o.2,λ_=>t.o,Å B.o.tx (by omega)⟩,λhb=>⟨by simpa using hb,by rw[J.o,<-L.o];exact .wide G.o (by rw[L.o];exact C.o)⟩,by decide,Z.o⟩
    | full hz0=>
     have e3:bu σ.ps=3:=(nj σ.ps).resolve_left hz0
     have t:Hid (b=Ó):=by
      show b=Ó;cases b with
      | true=>rfl
      | false=>exact absurd (B.o.fm rfl) hz0
     rw[e3];clear hz0 e3;go_wp2_with(go_at_call 15;refine(Aa.o _).mono ?_;rintro e w2⟨rfl,rfl⟩);go_ret;exact⟨_,σ,_,rfl,a.o,⟨B.o.ok,B.o.len,B.o.w1,B.o.w2,λh=>(by rw[t.o]at h;cases h),Å B.o.tx (by omega)⟩,λa=>(by rw[t.o]at a;cases a),by decide,Y.o⟩
    | many=>
     go_wp2_with(go_at_call 15;refine(g.o _).mono ?_;rintro e w2⟨rfl,rfl⟩);go_ret;exact⟨eI,_,_,rfl,d.o,⟨B.o.ok,B.o.len,C.o.1,C.o.2,λh=>(by simp at h),Å B.o.tx (by omega)⟩,λa=>(by simp at a),by decide,Z.o⟩
  .have R:Hid (∀w:Ã,Cw 14 #[É Ê (m:Int)] w (Ù Ñ)):=λw=>by
    have n:=i.o (m:Int) w;rw[show decide (¬((m:Int)<10\/100<(m:Int)))=Ñ by simp;omega]at n;exact n
   have z:Hid (∀w:Ã,Cw 15 #[À ⟨#[]⟩,É Ê 0,É Ê 1] w (À (ab (bQ 0 1)))):=λw=>oL (.inl rfl) _ 0 (by decide) w
   have v:Hid (fM M σ b K l W (Â (À (ab (bQ 0 1)))) W):=⟨_,σ,b,rfl,P.o,B.o.le (by omega),λa=>⟨a,by rw[J.o];exact .wideR G.o (by rw[L.o];exact X)⟩,by decide,am.refl _ _ _⟩;have N:Hid (∀q,fM M σ b K l W (Â (À (ab (bQ 0 1)))) (W.drewN q)):=λq=>⟨_,σ,b,rfl,P.o.W (aP Zb q),B.o.le (by omega),λa=>⟨a,by rw[J.o];exact .wideR G.o (by rw[L.o];exact X)⟩,by decide,am.of (aP Zb q)⟩
   clear X s i L G J;generalize ab (bQ 0 1)=E at *;rcases hc with⟨p,r⟩|⟨p,r⟩
   all_goals
    go_in
    go_wp2_with(first
     | (go_at_call 13;refine(O.o _).mono ?_;rintro e D⟨rfl,rfl⟩)
     | (go_at_call 14;refine(R.o _).mono ?_;rintro e D⟨rfl,rfl⟩)
     | (go_at_call 15;refine(z.o _).mono ?_;rintro e D⟨rfl,rfl⟩))
    go_ret
    first|exact v.o|exact N.o _
theorem rV:cG lj=.set:=by rw[cG,if_neg (by decide),if_neg (by decide),if_pos rfl]
theorem tM:cG lu=.look:=by rw[cG,if_neg (by decide),if_neg (by decide),if_neg (by decide),if_neg (by decide),if_pos rfl]
theorem SW(hL:jr)(hP:lY)(hF:q7){σ:Ss}{b K}(hK:K<=100000)(M W)(hS:a8 32 W M σ b)(hO:fE σ b K):
  Õ prog 7 #[Ç (Í ⟨M,0,Ï⟩),À ⟨#[115,101,116]⟩] W λe a=>fM M σ b K ⟨#[115,101,116]⟩ W e a:=by
 have HS:Hid (a8 32 W M σ b):=hS;have I:Hid (fE σ b K):=hO;have HP:Hid lY:=hP;have HF:Hid q7:=hF;have HL:Hid jr:=hL;have HD:Hid (∀(n:Nat)(w:Ã),n<=20->Cw 19 #[É Ê (n:Int)] w (À (ab (aA n)))):=λn w h=>qz n (by omega) w
 obtain⟨_,_,c0,_,_,_,_,_⟩:=hS.cell;have Aj:σ.tx.length<=100000:=by have:=hO.tx;omega
 have Ai:(ab σ.tx).size<=100000:=by rw[cg];exact Aj
 clear hS hO hP hF hL Aj;go_in;go_wp2_with fail;refine(HP.o (ab σ.tx) W).mono ?_;rintro e Z⟨C,k,f,A,c,rfl,hR,hQ,b1⟩;have u:Hid (cJ (ab σ.tx) C k f):=hR;have HQ:Hid (bP Z A C):=hQ;have O:Hid (a8 32 Z M σ b):=HS.o.W b1;have a:Hid (am W M W Z):=am.of b1;have Ac:Hid (W.heap.size<=Z.heap.size):=b1.size;clear hR hQ b1 c0 HS HP;by_cases hf:f=0
 .subst hf;obtain⟨rfl,_,J,P⟩:=lM u.o;have Q:Hid (∀t∈C,ag t=0):=P;obtain⟨_,_,_,d1,_,_,_,_⟩:=O.o.cell;have p:Hid (Cp 16 #[Ç (Í ⟨M,0,Ï⟩),à A (ſ C) c,É Ê (σ.wd:Int)] Z λe a=>∃S f k,e=Â (Ð #[À S,É Ê f])/\js C σ.wd S f k/\a8 32 a M σ (b||!k)/\am Z M Z a):=sE HL.o C P J σ.wd I.o.w1 I.o.w2 A c M Z O.o I.o.ok HQ.o;have N:Hid (∀(w:Ã)(B:Option Addr)(c':Nat),bP w A C->bP w B σ.ps->Cb 18 #[à A (ſ C) c,à B σ.ps.length c'] w (É Ê (cV C σ.ps:Nat))):=λw B c' h1 h2=>HF.o C σ.ps A B c c' w h1 h2 Q.o I.o.ok J I.o.len
  have j:Hid (cV C σ.ps<=20):=Å (ru _ _) J;have Ab:Hid (∀w:Ã,Cw 15 #[À ⟨#[]⟩,É Ê 0,É Ê 3] w (À (ab (bQ 0 3)))):=λw=>oL (.inr (.inr (.inl rfl))) _ 0 (by decide) w
  clear J P HL HF Ai;generalize Ah:ſ C=np at p N;have An:Hid (ſ C=np):=Ah;clear Ah;go_wp2_with fail;refine p.o.mono ?_;rintro e v⟨S,g,Y,rfl,q,r,b2⟩;have m:Hid (a8 32 v M σ (b||!Y)):=r;have d:Hid (am W M W v):=a.o.trans (b2.mono Ac.o);have l:Hid (bP v A C):=HQ.o.offS Q.o O.o b2;have Aq:Hid (W.heap.size<=v.heap.size):=Å Ac.o b2.size;obtain⟨B2,c2,_,_,r2,_,fz,Ad⟩:=r.cell;have Aa:Hid (bP v B2 σ.ps):=Ad;clear r b2 Ad fz d1 p a O HQ;generalize Ag:σ.ps.length=no at r2 N;have As:Hid (σ.ps.length=no):=Ag;clear Ag
  have L:Hid (g=0->Y=Ó/\bu C=0\/Y=Ñ):=λX=>by
   cases q with
   | ok h=>exact .inl ⟨rfl,h⟩
   | full h=>exact absurd X h
   | many=>exact .inr rfl
  have H:Hid (g≠0->Y=Ó/\g=3/\bu C≠0):=λX=>by
   cases q with
   | ok h=>exact absurd rfl X
   | full h=>exact⟨rfl,(nj C).resolve_left h,h⟩
   | many=>exact absurd rfl X
  clear q;by_cases X:g=0
  .subst X;have HE:=(show Hid (Y=Ó/\bu C=0\/Y=Ñ)from L.o rfl);clear L H Ab;go_wp2_with fail;refine ai (N.o v B2 c2 l.o Aa.o) λs b3=>?_
   have o:Hid (a8 32 s M σ (b||!Y)):=m.o.W b3;have Ao:Hid (bP s A C):=l.o.W b3;have y:Hid (am W M W s):=d.o.trans (am.of (b3.mono Aq.o));obtain⟨_,_,_,_,s2,_,fz,_⟩:=o.o.cell;have At:=fz 2
   have Ap:Hid (a8 32 (s.setCell ⟨M,2,Ï⟩ (à A np c)) M ⟨σ.tx,C,σ.wd⟩ (b||!Y)):=by
    have G:=o.o.setPs (c:=c) Q.o Ao.o;rw[An.o]at G;exact G
   have Ak:Hid (am W M W (s.setCell ⟨M,2,Ï⟩ (à A np c))):=y.o.trans kR;have i:Hid (∀w:Ã,Cw 19 #[É Ê (cV C σ.ps:Nat)] w (À (ab (aA (cV C σ.ps))))):=λw=>HD.o _ w j.o
   have U:Hid (∀w:Ã,Cw 15 #[À (ab (aA (cV C σ.ps))),É Ê 0,É Ê 0] w (À (ab (aA (cV C σ.ps)++[10])))):=λw=>by
    have G:=vm (ab (aA (cV C σ.ps))) (by have:=gX 5 (cV C σ.ps) (by have:=j.o;omega);rw[cg];omega) w;have e2:(⟨#[10]⟩:ByteArray)=ab [10]:=rfl;rw[e2,bn]at G;exact G
   clear b3 fz N d m l Aa o y;generalize Af:cV C σ.ps=n at i U;have HN:Hid (cV C σ.ps=n):=Af;clear Af;have Ar:n<=20:=by rw[<-HN.o];exact j.o
   generalize ab (aA n)=D at i U;generalize V:ab (aA n++[10])=R at U;have x:Hid (ab (aA n++[10])=R):=V;clear V
   go_wp2_with(first
    | (go_at_call 19;refine(i.o _).mono ?_;rintro e w4⟨rfl,rfl⟩)
    | (go_at_call 15;refine(U.o _).mono ?_;rintro e w4⟨rfl,rfl⟩))
   go_ret;refine⟨aA n++[10],_,_,by rw[x.o];rfl,Ap.o,⟨Q.o,by have:=(lM u.o).2.2.1;exact this,I.o.w1,I.o.w2,λh=>?_,Å I.o.tx (by omega)⟩,λhb=>?_,?_,Ak.o⟩
   .rcases HE.o with⟨_,G⟩|G
    .exact G
    .rw[G]at h;simp at h
   .rcases HE.o with⟨h8,G⟩|G
    .refine⟨by rw[h8]at hb;simpa using hb,?_⟩;show ck σ (cG lj) _ _;rw[rV,<-HN.o];exact .set u.o G
    .rw[G]at hb;simp at hb
   .have:=gX 5 n (by omega)
    rw[Á,È];omega
  .obtain⟨rfl,rfl,Ae⟩:=H.o X;have z:Hid (bu C≠0):=Ae;clear X Ae L H N;go_wp2_with(go_at_call 15;refine(Ab.o _).mono ?_;rintro e s⟨rfl,rfl⟩);go_ret;refine⟨_,σ,_,rfl,m.o,⟨I.o.ok,I.o.len,I.o.w1,I.o.w2,λh=>I.o.fm (by simpa using h),Å I.o.tx (by omega)⟩,λhb=>⟨by simpa using hb,?_⟩,by decide,d.o⟩;show ck σ (cG lj) _ _;have G:=ck.setF (σ:=σ) u.o z.o;rw[(nj C).resolve_left z.o]at G;rw[rV];exact G
 .obtain⟨he,n,rfl,hn⟩:=xY u.o hf;have HT:Hid (∀w:Ã,Cw 15 #[À ⟨#[]⟩,É Ê (n:Int),É Ê f] w (À (ab (bQ n f)))):=λw=>oL he _ n (by omega) w
  have Al:Hid (f≠0):=hf;have Au:(f==0)=false:=by simpa using hf
  have Am:Hid ((bQ n f).length<=100000000):=by
   show _<=_;have h1:=qM f;have h2:=gX 5 n (by omega);unfold bQ;rw[Ë];simp only[Á,È]
   split
   .simp only[Ä];omega
   .simp only[Ú];omega
  clear hf he hn Ai HL HF;generalize (ſ C)=np;generalize hE:ab (bQ n f)=E at HT;have HE:Hid (ab (bQ n f)=E):=hE;clear hE;go_wp2_with(go_at_call 15;refine(HT.o _).mono ?_;rintro e s⟨rfl,rfl⟩);go_ret;refine⟨bQ n f,σ,b,by rw[HE.o];rfl,O.o,I.o.le (by omega),λhb=>⟨hb,?_⟩,Am.o,a.o⟩;show ck σ (cG lj) _ _;rw[rV];exact .setE u.o Al.o
structure km(w:Ã)(k:Nat):Prop where
 tre:∀o z s,w.cell? ⟨k,o,Ï⟩=Í (É Ê z)->w.cell? ⟨k,o+1,Ï⟩=Í (À s)->False
 str:∀cs f,w.heap[k]?=Í (.cells cs 9 f)->∀o s,w.cell? ⟨k,o,Ï⟩=Í (À s)->s.size=0
 map:∀es c,w.heap[k]?≠Í (.map es c)
theorem km.bare{w k}(h:jW w k):km w k:=by
 have B:∀o v,w.cell? ⟨k,o,Ï⟩=Í v->False:=by
  intro o v C;obtain⟨x,D,A⟩:=cells_of_cell C;rcases h x D with⟨y,rfl⟩|⟨y,rfl⟩<;>cases A
 refine⟨λo z s E _=>B o _ E,λH f _ o s G=>(B o _ G).elim,λI c E=>?_⟩;rcases h _ E with⟨y,e⟩|⟨y,e⟩<;>cases e
section
variable {S:Nat→Prop} {w w':Ã} {T:TypeId} {d n:Nat} {qs:List (List Td)}
theorem aG.ex{a I}(h:aG w a I)(H:Ex S w w')(J:∀k,S k->km w k):aG w' a I:=by
 intro i E;obtain⟨b,o,e,G,B,C,D⟩:=h i E;have A:¬S b:=λK=>(J b K).tre _ _ _ B C
 have:=H.size
 exact⟨b,o,e,by omega,H.cell (p:=⟨b,_,Ï⟩) B A,H.cell (p:=⟨b,_,Ï⟩) C A,H.cell (p:=⟨b,_,Ï⟩) D A⟩
theorem fG.ex{Y mv}(h:fG w Y mv qs n)(W:Ex S w w')(X:∀k,S k->km w k):fG w' Y mv qs n:=by
 have L:=W.size
 have G:∀b o l c,Y=à (Í ⟨b,o,Ï⟩) l c->0<l->¬S b:=λb o l c e V C=>by
  obtain⟨D,f,q⟩:=h.ty b o l c e V;obtain⟨A,P,B,M⟩:=h.ord;rw[e]at B;simp only[Value.slice.injEq]at B;obtain⟨rfl,rfl,rfl⟩:=B;obtain⟨O,U,E,_,N⟩:=M 0 (by simpa using V);simp only[Option.some.injEq,Addr.mk.injEq,and_true]at E;obtain⟨rfl,rfl⟩:=E;have H:=(X b C).str _ _ q _ _ N;rw[List.getElem_map,cH,cg]at H;simp[dh]at H
 refine⟨h.ok,h.pg,h.ni,h.len,h.w1,h.w2,?_,?_,λb o l c e V=>?_⟩
 .obtain⟨A,c,e,q⟩:=h.ord;refine⟨A,c,e,λi hi=>?_⟩;obtain⟨b,o,rfl,K,I⟩:=q i hi;exact⟨b,o,rfl,by omega,W.cell (p:=⟨b,_,Ï⟩) I (G b o _ c e (by rw[å]at hi;omega))⟩
 .rcases h.kn with e|⟨b,e,q⟩
  .exact .inl e
  .refine .inr ⟨b,e,(q.kept (W.block b q.lt ?_)).up λ_ _ q=>q.ex W X⟩;intro C;obtain⟨R,Q,J⟩:=q.isMap;exact(X b C).map _ _ J
 .obtain⟨D,f,q⟩:=h.ty b o l c e V;exact⟨D,f,(W.block b (Array.getElem?_eq_some_iff.1 q).1 (G b o l c e V)).trans q⟩
theorem cq.ex(h:cq T w d qs n)(G:Ex S w w')(I:∀k,S k->km w k)(H:¬S d):cq T w' d qs n:=by
 have C:=h.lt;obtain⟨E,D,A,B⟩:=h;exact⟨E,D,(G.block d C H).trans A,B.ex G I⟩
end
structure bG(w:Ã)(M d:Nat)(σ:Ss):Prop where
 se:w.heap[M]?=Í (.cells #[Ç (Í ⟨d,0,Ï⟩),À (ab σ.tx)] 62 (0,0))
 sh:cq 93 w d σ.ps σ.wd
 ne:M≠d
section
variable {S:Nat→Prop} {w w':Ã} {M d:Nat} {σ:Ss}
theorem bG.lt(h:bG w M d σ):M<w.heap.size:=(Array.getElem?_eq_some_iff.1 h.se).1
theorem bG.cell0(h:bG w M d σ):w.cell? M=Í (Ç d):=by rw[Ø h.se];rfl
theorem bG.cell1(h:bG w M d σ):w.cell? (M,1)=Í (À (ab σ.tx)):=by rw[Ø h.se];rfl
theorem bG.frozen(h:bG w M d σ)(o:Nat):w.frozen? (M,o)=false:=Lib.frozen_of_heap h.se o
theorem bG.noD(h:bG w M d σ):km w M:=by
 refine⟨λo z s A _=>?_,λB f A _ _ _=>?_,λC c A=>?_⟩
 .rw[Ø h.se]at A;rcases o with _|_|o<;>simp at A
 .rw[h.se]at A;cases A
 .rw[h.se]at A;cases A
theorem bG.ex(h:bG w M d σ)(A:Ex S w w')(D:∀k,S k->km w k)(B:¬S M)(C:¬S d):bG w' M d σ:=⟨(A.block M h.lt B).trans h.se,h.sh.ex A D C,h.ne⟩
theorem bG.W(h:bG w M d σ)(A:Û w w w'):bG w' M d σ:=h.ex (S:=λ_=>False) (.of A) (λ_ h=>h.elim) id id
theorem bG.desk(h:bG w M d σ)(B:am w d w w'){ps n}(A:cq 93 w' d ps n):bG w' M d ⟨σ.tx,ps,n⟩:=⟨(B.block M h.lt h.ne).trans h.se,A,h.ne⟩
theorem bG.text(h:bG w M d σ)(t):bG (w.setCell (M,1) (À (ab t))) M d ⟨t,σ.ps,σ.wd⟩:=by
 refine⟨?_,h.sh.ex (S:=λk=>k=M) (Ex.at (S:=λk=>k=M) (p:=(M,1)) (show M=M from rfl) (À (ab t))) (λk A=>A ▸ h.noD) (λe=>h.ne e.symm),h.ne⟩
 have:=h.se
 simp[World.setCell,Array.getElem?_modify,this]
end
def ek(M d k:Nat):Prop:=k=M\/k=d
theorem am.ex{d M}{w:Ã}{A}(h:am w d w A):Ex (ek M d) w A:=⟨h.os,h.tape,h.output,h.size,λk B C=>h.block k B λe=>C (.inr e)⟩
theorem wK:∀(a b:List UInt8)(l:Nat),cL a b l<=(l:Int)+ſ a+1
 | [],[],l=>by rw[cL];omega
 | [],c::_,l=>by rw[cL];split<;>simp<;>omega
 | c::_,[],l=>by rw[cL];split<;>simp<;>omega
 | x::a,y::b,l=>by
  rw[cL]
  split
  .have:=wK a b (if x=10 then l+1 else l)
   have A:(if x=10 then l+1 else l)<=l+1:=by split<;>omega
   generalize(if x=10 then l+1 else l)=z at this A⊢
   simp only[Ä];omega
  .simp only[Ä];omega
theorem wJ:∀(a b:List UInt8)(l:Nat),-1<=cL a b l
 | [],[],l=>by rw[cL];omega
 | [],c::_,l=>by rw[cL];split<;>omega
 | c::_,[],l=>by rw[cL];split<;>omega
 | x::a,y::b,l=>by
  rw[cL]
  split
  .exact wJ a b _
  .omega
theorem Oo(hL:jr)(hP:lY)(hF:qZ){σ:Ss}{b K}(hK:K<=100000)(M W)(hS:a8 32 W M σ b)(hO:fE σ b K):
  Õ prog 7 #[Ç (Í ⟨M,0,Ï⟩),À ⟨#[108,111,111,107]⟩] W λe a=>fM M σ b K ⟨#[108,111,111,107]⟩ W e a:=by
 have HS:Hid (a8 32 W M σ b):=hS;have C:Hid (fE σ b K):=hO;have HP:Hid lY:=hP;have HF:Hid qZ:=hF;have HL:Hid jr:=hL;have HD:Hid (∀(n:Nat)(w:Ã),n<=200000->Cw 19 #[É Ê (n:Int)] w (À (ab (aA n)))):=λn w h=>qz n (by omega) w
 obtain⟨_,_,c0,_,_,_,_,_⟩:=hS.cell;have r:σ.tx.length<=100000:=by have:=hO.tx;omega
 have q:(ab σ.tx).size<=100000:=by rw[cg];exact r
 clear hS hO hP hF hL r;go_in;go_wp2_with fail;refine(HP.o (ab σ.tx) W).mono ?_;rintro e Y⟨B,k,f,A,c,rfl,hR,hQ,b1⟩;have HR:Hid (cJ (ab σ.tx) B k f):=hR;have HQ:Hid (bP Y A B):=hQ;have I:Hid (a8 32 Y M σ b):=HS.o.W b1;have Z:Hid (am W M W Y):=am.of b1;have Ad:Hid (W.heap.size<=Y.heap.size):=b1.size;clear hR hQ b1 c0 HS HP;by_cases hf:f=0
 .subst hf;obtain⟨rfl,_,O,L⟩:=lM HR.o;have s:Hid (∀t∈B,ag t=0):=L;obtain⟨_,_,_,d1,_,_,_,_⟩:=I.o.cell;have j:Hid (Cp 16 #[Ç (Í ⟨M,0,Ï⟩),à A (ſ B) c,É Ê (σ.wd:Int)] Y λe a=>∃S f k,e=Â (Ð #[À S,É Ê f])/\js B σ.wd S f k/\a8 32 a M σ (b||!k)/\am Y M Y a):=sE HL.o B L O σ.wd C.o.w1 C.o.w2 A c M Y I.o C.o.ok HQ.o;have d:Hid (∀(S:ByteArray)(w:Ã),S.size<=100000000->Cb 20 #[À (ab σ.tx),À S] w (É Ê (cL σ.tx (ae S) 0))):=λS w h=>HF.o (ab σ.tx) S (by omega) h w
  have Aj:Hid (σ.tx.length<=100000):=(show σ.tx.length<=100000 by rw[<-cg];exact q);have z:Hid (ſ B<=20):=O;have Ac:Hid (∀w:Ã,Cw 15 #[À ⟨#[]⟩,É Ê 0,É Ê 3] w (À (ab (bQ 0 3)))):=λw=>oL (.inr (.inr (.inl rfl))) _ 0 (by decide) w
  clear O L HL HF q;generalize Ag:ſ B=np at j;have Ao:Hid (ſ B=np):=Ag;clear Ag;go_wp2_with fail;refine j.o.mono ?_;rintro e w2⟨S,g,P,rfl,J,p,b2⟩;have i:Hid (a8 32 w2 M σ (b||!P)):=p;have a:Hid (am W M W w2):=Z.o.trans (b2.mono Ad.o);have Ap:Hid (bP w2 A B):=HQ.o.offS s.o I.o b2;have Ak:Hid (W.heap.size<=w2.heap.size):=Å Ad.o b2.size;obtain⟨_,_,r0,_,_,_,_,_⟩:=p.cell;clear p b2 d1 j Z I HQ
  have m:Hid (g=0->S.size<=100000000):=λN=>by
   cases J with
   | ok h=>
    rw[cg];have h1:=qO σ.wd B s.o h;have h2:=Nat.mul_le_mul_right 2000001 z.o;omega
   | full h=>exact Ý _
   | many=>exact Ý _
  have l:Hid (g=0->P=Ó->S=ab (aJ σ.wd B)):=λN hk=>by
   cases J with
   | ok h=>rfl
   | full h=>exact absurd N h
   | many=>cases hk
  have H:Hid (g=0->P=Ó/\bu B=0\/P=Ñ):=λN=>by
   cases J with
   | ok h=>exact .inl ⟨rfl,h⟩
   | full h=>exact absurd N h
   | many=>exact .inr rfl
  have G:Hid (g≠0->P=Ó/\g=3/\bu B≠0):=λN=>by
   cases J with
   | ok h=>exact absurd rfl N
   | full h=>exact⟨rfl,(nj B).resolve_left h,h⟩
   | many=>exact absurd rfl N
  clear J;by_cases N:g=0
  .subst N;have HE:=(show Hid (P=Ó/\bu B=0\/P=Ñ)from H.o rfl);have Ah:=m.o rfl;have X:Hid (P=Ó->S=ab (aJ σ.wd B)):=l.o rfl;clear H G Ac m l;go_wp2_with fail;refine ai (d.o S w2 Ah) λw3 b3=>?_
   have Ab:Hid (a8 32 w3 M σ (b||!P)):=i.o.W b3;have u:Hid (am W M W w3):=a.o.trans (am.of (b3.mono Ak.o));have An:=wK σ.tx (ae S) 0;have Am:=wJ σ.tx (ae S) 0;have r:=Aj.o;have Aa:Hid (fE σ (b||!P) (K+(⟨#[108,111,111,107]⟩:ByteArray).size)):=⟨C.o.ok,C.o.len,C.o.w1,C.o.w2,λh=>C.o.fm (by cases b<;>simp_all),Å C.o.tx (by omega)⟩
   have R:Hid ((b||!P)=Ñ->b=Ñ/\ck σ (cG lu) (fd (cL σ.tx (ae S) 0)) σ):=λhb=>by
    rcases HE.o with⟨h8,V⟩|V
    .refine⟨by rw[h8]at hb;simpa using hb,?_⟩;rw[tM,X.o h8];exact .look HR.o V
    .rw[V]at hb;simp at hb
   clear b3 d a i HE X Ah r0;generalize cL σ.tx (ae S) 0=v at *;by_cases hv:v<0
   .have e1:fd v=[45,49,10]:=by rw[fd,if_pos hv]
    go_wp2;go_ret;exact⟨[45,49,10],σ,_,rfl,Ab.o,Aa.o,λhb=>by rw[<-e1];exact R.o hb,by decide,u.o⟩
   .obtain⟨n,rfl⟩:∃n:Nat,v=(n:Int):=⟨v.toNat,by omega⟩;have hn:n<=200000:=by omega
    have e1:fd (n:Int)=aA n++[10]:=by rw[fd,if_neg hv,Ë]
    have x:Hid (∀w:Ã,Cw 19 #[É Ê (n:Int)] w (À (ab (aA n)))):=λw=>HD.o _ w hn
    have Al:=gX 5 n (by omega)
    have o:Hid (∀w:Ã,Cw 15 #[À (ab (aA n)),É Ê 0,É Ê 0] w (À (ab (aA n++[10])))):=λw=>by
     have V:=vm (ab (aA n)) (by rw[cg];omega) w;have e2:(⟨#[10]⟩:ByteArray)=ab [10]:=rfl;rw[e2,bn]at V;exact V
    have U:Hid ((aA n++[10]).length<=100000000):=(show _<=_ by rw[Á,È];omega);rw[e1]at R;clear An Am e1 Al;generalize ab (aA n)=D at x o;generalize Ae:aA n++[10]=Q at o R U;clear Ae
    go_wp2_with(first
     | (go_at_call 19;refine(x.o _).mono ?_;rintro e w4⟨rfl,rfl⟩)
     | (go_at_call 15;refine(o.o _).mono ?_;rintro e w4⟨rfl,rfl⟩))
    go_ret;exact⟨Q,σ,_,rfl,Ab.o,Aa.o,R.o,U.o,u.o⟩
  .obtain⟨rfl,rfl,Af⟩:=G.o N;have y:Hid (bu B≠0):=Af;clear N Af H G d m l;go_wp2_with(go_at_call 15;refine(Ac.o _).mono ?_;rintro e w3⟨rfl,rfl⟩);go_ret;refine⟨_,σ,_,rfl,i.o,⟨C.o.ok,C.o.len,C.o.w1,C.o.w2,λh=>C.o.fm (by simpa using h),Å C.o.tx (by omega)⟩,λhb=>⟨by simpa using hb,?_⟩,by decide,a.o⟩;show ck σ (cG lu) _ _;have V:=ck.lookF (σ:=σ) HR.o y.o;rw[(nj B).resolve_left y.o]at V;rw[tM];exact V
 .obtain⟨he,n,rfl,hn⟩:=xY HR.o hf;have HT:Hid (∀w:Ã,Cw 15 #[À ⟨#[]⟩,É Ê (n:Int),É Ê f] w (À (ab (bQ n f)))):=λw=>oL he _ n (by omega) w
  have Ai:Hid (f≠0):=hf;have Aq:(f==0)=false:=by simpa using hf
  have U:Hid ((bQ n f).length<=100000000):=by
   show _<=_;have h1:=qM f;have h2:=gX 5 n (by omega);unfold bQ;rw[Ë];simp only[Á,È]
   split
   .simp only[Ä];omega
   .simp only[Ú];omega
  clear hf he hn q HL HF;generalize (ſ B)=np;generalize hE:ab (bQ n f)=E at HT;have HE:Hid (ab (bQ n f)=E):=hE;clear hE;go_wp2_with(go_at_call 15;refine(HT.o _).mono ?_;rintro e w3⟨rfl,rfl⟩);go_ret;refine⟨bQ n f,σ,b,by rw[HE.o];rfl,I.o,C.o.le (by omega),λhb=>⟨hb,?_⟩,U.o,Z.o⟩;show ck σ (cG lu) _ _;rw[tM];exact .lookE HR.o Ai.o
def nu(g:Nat)(w:Ã):Prop:=∃t p,w.cell? ⟨g,0,Ï⟩=Í (ë t p)
theorem nu.W{g w w'}(h:nu g w)(A:Û w w w'):nu g w':=by
 obtain⟨t,p,h⟩:=h;exact⟨t,p,(A.cell (p:=g) (World.block_lt_of_cell? _ _ h)).trans h⟩
structure fo(w:Ã):Prop where
 tabs:eo w
 hnd:gR w
 syn:nu 2 w
 ran:nu 3 w
theorem fo.W{w w'}(h:fo w)(A:Û w w w'):fo w':=⟨h.tabs.W A,h.hnd.W A,h.syn.W A,h.ran.W A⟩
abbrev kU(ans:List UInt8):PanicEntry:={v:=ë 66 (.agg #[À (ab ans)]),recovered:=Ñ}
theorem zr(s p)(D:p.size<=s.size)(E:((s.extract 0 p.size).toList==p.toList)=Ó)(w):
  Cw 41 #[À s,À p] w (Ð #[À (s.extract p.size s.size),Ù Ó]):=by
 unfold Cw;have C:(p.size:Int)<=(s.size:Int):=by omega
 have B:Hid (Cw 78 #[À s,À p] w (Ù Ó)):=by
  show Õ _ _ _ _ _;go_in;go_wp2;go_ret;exact⟨rfl,rfl⟩
 have A:Hid (Cw 57 #[À s,À p] w (Ð #[À (s.extract p.size s.size),Ù Ó])):=by
  show Õ _ _ _ _ _;go_in;go_wp2_with fail;refine an B.o ?_;go_wp2;go_ret2;exact⟨rfl,rfl⟩
 go_in;go_wp2_with fail;refine an A.o ?_;go_wp2;go_ret2;exact⟨rfl,rfl⟩
theorem FJ(s p)(h:s.size<p.size\/p.size<=s.size/\((s.extract 0 p.size).toList==p.toList)=Ñ)(w):
  Cw 41 #[À s,À p] w (Ð #[À s,Ù Ñ]):=by
 unfold Cw;have B:Hid (Cw 78 #[À s,À p] w (Ù Ñ)):=by
  show Õ _ _ _ _ _;rcases h with h|⟨D,E⟩
  .have C:¬(p.size:Int)<=(s.size:Int):=by omega
   go_in;go_wp2;go_ret;exact⟨rfl,rfl⟩
  .have C:(p.size:Int)<=(s.size:Int):=by omega
   go_in;go_wp2;go_ret;exact⟨rfl,rfl⟩
 have A:Hid (Cw 57 #[À s,À p] w (Ð #[À s,Ù Ñ])):=by
  show Õ _ _ _ _ _;go_in;go_wp2_with fail;refine an B.o ?_;go_wp2;go_ret2;exact⟨rfl,rfl⟩
 go_in;go_wp2_with fail;refine an A.o ?_;go_wp2;go_ret2;exact⟨rfl,rfl⟩
theorem RS(n:Int)(E:-1<=n)(G:n<=999999999)(w:Ã)(D:gH w):Cb 62 #[n] w (À (ab (if n<0 then [45,49]else aA n.toNat))):=by
 unfold Cb;refine(FY n (by omega) (by omega) w D).mono ?_;rintro e H⟨rfl,k,C,rfl⟩;refine⟨?_,Lib.below_grow _ _ Zl _ _⟩;by_cases A:n<0
 .obtain rfl:n=-1:=by omega
  rw[if_pos A,Lib.itoa,if_pos A];have B:aA 1=[49]:=by rw[aA,dif_pos (by decide)];rfl
  rw[show((-1:Int)).natAbs=1 from rfl,vE,B];rfl
 .rw[if_neg A,Lib.itoa,if_neg A,vE];rfl
theorem N6{f}(h:eN f)(k:Nat)(X:k<=999999)(w:Ã)(S:fo w):Cb 58 #[(k:Int),aF f] w (À (ab (bQ k f))):=by
 unfold Cb;have G:=aa (VL f w S.hnd);have C:Hid (∀W,Cw 28 #[f] W (À (ab (ig f)))):=λW=>zb h W
 have K:Hid (∀W,Û w w W->Cb 62 #[(k:Int)] W (À (ab (aA k)))):=λW U=>qu k (by omega) (by omega) W (S.W U).tabs.pow
 have P:=qM f;have L:(ab (ig f)).size<=20:=by rw[cg];exact P
 have Q:f≠0:=by rcases h with rfl|rfl|rfl|rfl|rfl<;>decide
 have O:(ab (aA k)).size<=6:=by
  rw[cg];exact gX 5 k (by omega)
 by_cases J:f=5
 .subst J
  have B:Hid (ab (ig 5)++(⟨#[32]⟩:ByteArray)++ab (aA k)++(⟨#[10]⟩:ByteArray)=ab (bQ k 5)):=by
   show _=_;have M:(⟨#[32]⟩:ByteArray)=ab [32]:=rfl;have I:(⟨#[10]⟩:ByteArray)=ab [10]:=rfl;rw[M,I,bn,bn,bn,bQ,if_pos rfl,Ë];simp
  generalize ab (bQ k 5)=R at B⊢;generalize ab (ig 5)=E at C B L;generalize ab (aA k)=D at K B O;generalize aF 5=EV at G⊢;go_in;go_wp2_with fail;refine ai G.o λV b1=>?_
  have A:=aa b1;go_wp2_with fail;refine an (C.o _) ?_;go_wp2_with fail;refine ai (K.o _ A.o) λY b2=>?_
  have H:=aa (aH A.o Zl b2);go_wp2;go_ret;exact⟨by rw[<-B.o];rfl,H.o⟩
 .have N:(f==5)=false:=by simpa using J
  have B:Hid (ab (ig f)++(⟨#[10]⟩:ByteArray)=ab (bQ k f)):=by
   show _=_;have I:(⟨#[10]⟩:ByteArray)=ab [10]:=rfl;rw[I,bn,bQ,if_neg J];simp
  generalize ab (bQ k f)=R at B⊢;generalize ab (ig f)=E at C B L;generalize aF f=EV at G⊢;go_in;go_wp2_with fail;refine ai G.o λV b1=>?_
  have A:=aa b1;go_wp2_with fail;refine an (C.o _) ?_;go_wp2;go_ret;exact⟨by rw[<-B.o];rfl,A.o⟩
theorem AU(k:Int)(w):Cw 42 #[k,â] w (Ð #[]):=by
 unfold Cw;go_in;go_wp2
 go_end0
 exact⟨rfl,rfl⟩
theorem AR{f}(h:eN f)(k:Nat)(C:k<=999999)(w:Ã)(D:fo w):Õ prog 42 #[(k:Int),aF f] w λe G=>e=ç [kU (bQ k f)]/\Û w w G:=by
 have A:=aa (N6 h k C w D);have B:f≠0:=by rcases h with rfl|rfl|rfl|rfl|rfl<;>decide
 rw[cN B]at A⊢;generalize bQ (k:Int) f=E at A⊢;go_in;go_wp2_with fail;refine ai A.o λH b1=>?_
 go_wp2;exact⟨rfl,rfl,b1⟩
theorem DP(n k:Int)(H:-1<=n)(I:n<=999999999)(w:Ã)(J:fo w):Cb 45 #[n,k,â] w (À (ab (fd n))):=by
 unfold Cb;have C:=aa (AU k w);have B:=aa (RS n H I w J.tabs.pow)
 have A:Hid (ab (if n<0 then [45,49]else aA n.toNat)++(⟨#[10]⟩:ByteArray)=ab (fd n)):=by
  show _=_;rw[show(⟨#[10]⟩:ByteArray)=ab [10]from rfl,bn,fd]
  split<;>rfl
 have E:(ab (if n<0 then [45,49]else aA n.toNat)).size<=10:=by
  rw[cg]
  split
  .decide
  .exact gX 9 _ (by omega)
 generalize ab (fd n)=R at A⊢;generalize ab (if n<0 then [45,49]else aA n.toNat)=D at B A E;go_in;go_wp2_with fail;refine C.o.mono ?_;rintro e G⟨rfl,rfl⟩;go_wp2_with fail;refine ai B.o λG b1=>?_
 go_wp2;go_ret;exact⟨by rw[<-A.o];rfl,b1⟩
theorem DO{f}(h:eN f)(n:Int)(k:Nat)(B:k<=999999)(w:Ã)(C:fo w):Õ prog 45 #[n,(k:Int),aF f] w λe D=>e=ç [kU (bQ k f)]/\Û w w D:=by
 have A:=aa (AR h k B w C);generalize aF f=EV at A⊢;generalize bQ (k:Int) f=E at A⊢;go_in;go_wp2_with fail;refine ai A.o λG b1=>?_
 go_wp2;exact⟨rfl,rfl,b1⟩
end Go.Proofs.YtelcnplcpboonaaGreatDoor
namespace Go.Proofs.YtelcnplcpboonaaGreatDoor
open Go Go.RowKit Go.Shelf
attribute [local go_sem] Oper.semAt_some
set_option maxRecDepth 100000
set_option maxHeartbeats 2000000
theorem yD{q}(h:q.size≠0):ae q≠[]:=λe=>h (by have:=congrArg ê e;rw[aw]at this;exact this)
theorem Lw{q}(h:Ö q.data.toList 10=-1)(A:q.size≠0):rl (ae q)=[ae q]:=yj (vL _ h) (yD A)
theorem MP{q}(i:Nat)(h:Ö q.data.toList 10=i):rl (ae q)=ae (q.extract 0 i)::rl (ae (q.extract (i+1) q.size)):=by
 obtain⟨H,D,E⟩:=wO _ i h
 have A:ae (q.extract 0 i)=q.data.toList.take i:=by
  show(q.extract 0 i).data.toList=_
  rw[Þ];simp
 have B:ae (q.extract (i+1) q.size)=q.data.toList.drop (i+1):=by
  show(q.extract (i+1) q.size).data.toList=_
  rw[Ô]
 have C:ae q=cB [q.data.toList.take i]++q.data.toList.drop (i+1):=by
  rw[kK,KS];simpa using E
 rw[C,wY _ (by intro l G;rw[List.mem_singleton.1 G];exact D),A,B];rfl
def eJ(pre:List gb):List (List UInt8):=pre.map λx=>ae x.1
theorem qx(A x):eJ (A++[x])=eJ A++[ae x.1]:=by simp[eJ]
def o8(s:ByteArray)(pre:List gb):Prop:=eJ pre=rl (ae s)
def ny(s:ByteArray)(pre:List gb)(x:gb):Prop:=∃r,rl (ae s)=eJ pre++ae x.1::r
theorem wS(s):(cB (rl s)).length<=ſ s+1:=by
 obtain⟨A,r,rfl,B,C⟩:=Ie s;rw[IE B C]
 split
 .rw[Ü,Á];omega
 .rw[qv,Á,Á,Á];simp;omega
theorem KR(A C):cB (A++C)=cB A++cB C:=by simp[cB]
theorem ny.len{s B x}(h:ny s B x):(cB (eJ B)).length+x.1.size<=s.size/\(ſ B)<=s.size:=by
 obtain⟨r,e⟩:=h;have C:=wS (ae s);rw[e,KR,kK,aw,Á,Á,Ä,aw]at C
 have D:∀A:List (List UInt8),ſ A<=(cB A).length:=by
  intro A
  induction A with
  | nil=>exact Nat.le_refl _
  | cons l A ih=>rw[kK,Á,Ä,Ä];omega
 have E:=D (eJ B);rw[eJ,å]at E;exact⟨by omega,by unfold eJ at C;omega⟩
theorem N5(F n)(y:∀f,F.fn f)(V:F.round=Ï)(hn:1<=n)
  (I:∀s w,Ö s.data.toList 10=-1->é F (n-1) prog 23 #[À s,À ⟨#[10]⟩] w λe d=>e=Â (Ð #[À s,À ⟨#[]⟩,Ù Ñ])/\∃n,d=w.drewN n)
  (M:∀(s:ByteArray)w(i:Nat),Ö s.data.toList 10=i->i+1<=s.size->s.size<=100000000->é F (n-1) prog 23 #[À s,À ⟨#[10]⟩] w λe d=>e=Â (Ð #[À (s.extract 0 i),À (s.extract (i+1) s.size),Ù Ó])/\∃n,d=w.drewN n)
  (l g:Nat) (s) (z:s.size<=100000000) (J:List gb->Ã->Prop) (W) (h:∀x A k,J x A->J x (A.drewN k))
  (j:∀a x A,J a A->ny s a x->YieldAt F (n-1) prog l (ke x) A λe p=>e=Â (Ù Ó)/\J (a++[x]) p)
  (a:W.cell? g=Í (À s)) (u:J [] W):
  é F n prog 22 #[.func (.yield l) #[] #[],Ç g] W λe t=>(∃v,e=Â v)/\∃m:List gb,o8 s m/\J m t:=by
 refine callsIn_of_wp func22 rfl (y 22) ?_ V;simp only[ntmps22,List.size_toArray,Ä,Ú,Nat.reduceAdd,Nat.reduceSub,Array.replicate_succ,Array.replicate_zero,List.push_toArray,List.append_toArray,List.nil_append,List.cons_append]
 gi_wp2
 gi_loopw [3] (λr wr=>∃(pre:List gb)(q:ByteArray),r=À q/\q.size<=100000000/\rl (ae s)=eJ pre++rl (ae q)/\J pre wr)
  (λr _=>match r with| À q=>q.size|_=>0)
 case atStart=>
  exact⟨[],s,rfl,z,rfl,u⟩
 case round=>
  obtain⟨pre,q,rfl,R,X,H⟩:=hrel;by_cases C:q.size=0
  .have S:(q.toList==[])=true:=by
    have:q.data.toList=[]:=Ò (by rw[<-Lib.size_eq];exact C)
    rw[Æ,this];rfl
   have D:Hid (o8 s pre):=by
    show eJ pre=_;rw[X,show ae q=[]from Ò (by rw[aw];exact C),rB,Ü]
   gi_wp2
   go_end0
   exact⟨⟨_,rfl⟩,pre,D.o,H⟩
  .have S:(q.toList==[])=false:=by
    rw[beq_eq_false_iff_ne,Æ];exact yD C
   rcases zI q.data.toList with K|⟨i,K⟩
   .have D:Hid (rl (ae s)=eJ pre++[ae q]):=by
     rw[<-Lw K C];exact X
    gi_wp2_with fail
    refine(I q wr K).mono ?_;rintro e c⟨rfl,k,rfl⟩;have E:J pre (wr.drewN k):=h _ _ _ H;obtain⟨fn,O,B,L,Y,P⟩:=j pre ⟨q,R⟩ _ E ⟨_,D.o⟩;dsimp only[ke]at Y
    gi_wp2
    refine P.mono ?_;rintro e Z⟨rfl,G⟩
    gi_wp2
    go_roundw
    case rel=>exact⟨pre++[⟨q,R⟩],⟨#[]⟩,rfl,Ý _,by rw[D.o,qx,show ae (⟨#[]⟩:ByteArray)=[]from rfl,rB,Ü],G⟩
    case measure=>
     show(⟨#[]⟩:ByteArray).size<q.size
     rw[show(⟨#[]⟩:ByteArray).size=0 from rfl];omega
   .obtain⟨Q,_⟩:=zU q i K
    have D:Hid (rl (ae s)=eJ pre++(ae (q.extract 0 i)::rl (ae (q.extract (i+1) q.size)))):=by
     rw[<-MP i K];exact X
    have N:(q.extract 0 i).size<=100000000:=by simp;omega
    have U:(q.extract (i+1) q.size).size<=100000000:=by simp;omega
    have b:(q.extract (i+1) q.size).size<q.size:=by simp;omega
    gi_wp2_with fail
    refine(M q wr i K Q R).mono ?_;rintro e c⟨rfl,k,rfl⟩;have E:J pre (wr.drewN k):=h _ _ _ H;obtain⟨fn,O,B,L,Y,P⟩:=j pre ⟨q.extract 0 i,N⟩ _ E ⟨_,D.o⟩;dsimp only[ke]at Y
    gi_wp2
    refine P.mono ?_;rintro e Z⟨rfl,G⟩
    gi_wp2
    go_roundw
    case rel=>exact⟨pre++[⟨q.extract 0 i,N⟩],q.extract (i+1) q.size,rfl,U,by rw[D.o,qx,á];rfl,G⟩
    case measure=>exact b
theorem JN(s w):
  Õ prog 9 #[À s] w λe A=>e=Â (.func (.func 22) #[] #[Ç w.heap.size])/\A=w.alloc (.cells #[À s] 9):=by
 go_in;go_wp2;go_ret;exact⟨rfl,rfl⟩
theorem JO(n)(R:2<=n)(B s)(P:s.size<=100000000)(w:Ã)(D:B<w.heap.size)(O:w.cell? B=Í (À s)):
  ∀(l:Nat)(J:List gb->Ã->Prop)(W:Ã),Û w w W->(∀s A k,J s A->J s (A.drewN k))->
   (∀a x A,J a A->ny s a x->YieldAt Fence.wide (n-1-1) prog l (ke x) A λe C=>e=Â (Ù Ó)/\J (a++[x]) C)->J [] W->
   é Fence.wide (n-1) prog 22 (#[.func (.yield l) #[] #[]]++#[Ç B]) W λe C=>(∃v,e=Â v)/\∃E,o8 s E/\J E C:=
 λl J W M L N G=>N5 Fence.wide (n-1) (λ_=>trivial) rfl (by omega) (λs w h=>callsIn_wide.2 (zq s w h)) (λs w i H I K=>callsIn_wide.2 (FI s w i H I K)) l B s P J W L N ((M.cell (p:=B) D).trans O) G
end Go.Proofs.YtelcnplcpboonaaGreatDoor
namespace Go.Proofs.YtelcnplcpboonaaGreatDoor
open Go Go.RowKit
set_option maxRecDepth 100000
set_option maxHeartbeats 4000000
theorem Kj(n):(aA n).all ay=true:=by
 rw[ã];exact λc A=>qq n c A
theorem MD{n}(h:n<=9999):gh (aA n)=true:=by
 have B:=gX 3 n (by omega);have C:=qL n;have D:=List.length_pos_iff.2 C;unfold gh;simp only[ä,decide_eq_true_eq,æ,bne_iff_ne,ne_eq];refine⟨⟨⟨D,B⟩,Kj n⟩,?_⟩;rcases ß n with rfl|A
 .exact .inl (by rw[Jq (by omega)];rfl)
 .obtain⟨c,z,e,E⟩:=CB n A;rw[e];exact .inr (by simpa using E)
theorem AA{l}(h:gh l=Ó):(∀b∈l,ay b=Ó)/\l≠[]/\(ſ l)<=4/\aA (aY l)=l/\aY l<=9999:=by
 unfold gh at h;simp only[ä,decide_eq_true_eq,æ,bne_iff_ne,ne_eq]at h;obtain⟨⟨⟨C,D⟩,E⟩,B⟩:=h;have G:∀b∈l,ay b=true:=ã.1 E;have A:l≠[]:=λe=>by rw[e]at C;exact absurd C (by decide)
 have H:=ur (ſ l) l rfl E;have I:10 ^ (ſ l)<=10 ^ 4:=Nat.pow_le_pow_right (by decide) D;refine⟨G,A,D,Kk _ l rfl G A ?_,by omega⟩;rcases B with B|B
 .exact .inr B
 .refine .inl λe=>B ?_
  cases l with
  | nil=>exact absurd rfl A
  | cons c r=>simpa using e
theorem SE(x:ByteArray)(H:x.size<=3000)(w:Ã)(G:fo w):Õ prog 61 #[À x] w λe E=>((∃v:Int,e=Â (Ð #[É Ê v,â])/\-9223372036854775808<=v/\v<=9223372036854775807)\/∃z t N,e=Â (Ð #[É Ê z,ë t (Ç (Í ⟨N,0,Ï⟩))]))/\Û w w E:=by
 cases h:Lib.atoiAll x.data.toList with
 | ok v=>
  obtain⟨C,D⟩:=Lib.atoiAll_bounds h;refine(Rf x (by omega) v h w).mono ?_;rintro e E⟨rfl,rfl|⟨t,rfl⟩⟩
  .exact⟨.inl ⟨v,rfl,C,D⟩,Below.refl _ _⟩
  .exact⟨.inl ⟨v,rfl,C,D⟩,Lib.bytesWorld_below _ _ _⟩
 | «syntax»=>
  obtain⟨t,p,B⟩:=G.syn;refine(Na x (by omega) h _ w B (.inr ⟨_,_,rfl⟩)).mono ?_;rintro e E⟨N,rfl,_,_,A⟩;exact⟨.inr ⟨_,_,N,rfl⟩,A⟩
 | range=>
  obtain⟨t,p,B⟩:=G.ran;refine(M9 x (by omega) h _ w B (.inr ⟨_,_,rfl⟩)).mono ?_;rintro e E⟨N,rfl,_,_,A⟩;exact⟨.inr ⟨_,_,N,rfl⟩,A⟩
theorem N8(x)(h:gh (ae x)=Ó)(w:Ã)(M:fo w):Cb 44 #[À x] w (aY (ae x):Nat):=by
 unfold Cb;obtain⟨H,C,J,G,I⟩:=AA h;have D:=aa (zg (ae x) H C (by omega) w)
 have E:Hid (∀W,Û w w W->Cb 62 #[((aY (ae x):Nat):Int)] W (À x)):=λW K=>by
  refine ai (qu ((aY (ae x):Nat):Int) (by omega) (by omega) W (M.W K).tabs.pow) λN L=>?_
  refine⟨?_,L⟩;rw[Ë,G];rfl
 generalize aY (ae x)=n at D E I⊢;go_in;go_wp2_with fail;refine ai D.o λO b1=>?_
 have A:=aa b1;go_wp2_with fail;refine ai (E.o _ A.o) λP b2=>?_
 have B:=aa (aH A.o Zl b2);go_wp2;go_ret;exact⟨rfl,B.o⟩
theorem N7(x)(h:gh (ae x)=Ñ)(V:x.size<=3000)(w:Ã)(S:fo w):Õ prog 44 #[À x] w λe U=>e=ç [kU jZ]/\Û w w U:=by
 have G:Hid (Cp 61 #[À x] w λe U=>((∃v:Int,e=Â (Ð #[É Ê v,â])/\-9223372036854775808<=v/\v<=9223372036854775807)\/∃z t N,e=Â (Ð #[É Ê z,ë t (Ç (Í ⟨N,0,Ï⟩))]))/\Û w w U):=SE x V w S;have K:Hid (fo w):=S;have J:Hid (gh (ae x)=Ñ):=h;clear h V S;go_in;go_wp2_with fail;refine G.o.mono ?_;rintro e B⟨M,I⟩;have A:Hid (Û w w B):=I;clear I G;rcases M with⟨v,rfl,Q,R⟩|⟨z,t,N,rfl⟩
 .by_cases O:v<0
  .go_wp2;exact⟨rfl,rfl,A.o⟩
  .by_cases P:9999<v
   .go_wp2;exact⟨rfl,rfl,A.o⟩
   .obtain⟨n,rfl⟩:∃n:Nat,v=(n:Int):=⟨v.toNat,by omega⟩;have H:Hid (Cb 62 #[É Ê (n:Int)] B (À (ab (aA n)))):=qu (n:Int) (by omega) (by omega) B (K.o.W A.o).tabs.pow
    have E:((ab (aA n)).toList==x.toList)=false:=by
     rw[beq_eq_false_iff_ne,Æ,Æ];intro e;have L:aA n=ae x:=e
     have:=MD (n:=n) (by omega)
     rw[L,J.o]at this;cases this
    generalize ab (aA n)=D at H E;go_wp2_with fail;refine ai H.o λX b2=>?_
    have C:Hid (Û w w X):=aH A.o Zl b2;clear b2;go_wp2;exact⟨rfl,rfl,C.o⟩
 .go_wp2;exact⟨rfl,rfl,A.o⟩
