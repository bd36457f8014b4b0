import Derived.Test.YtelcnplcpboonaaGreatDoorPe06
import Derived.Test.YtelcnplcpboonaaGreatDoorPe05
open Go.Proofs.Tryz
open List renaming length->ſ
open Go.RowKit renaming intOf->À,Below->Æ
open List renaming length_append->Á,getElem_mem->Ç,length_map->É,length_drop->Ë,map_append->Í
open Go.Value renaming string->Â,slice->È,int->Ì
open Nat renaming zero_le->Ã,le_refl->Ê
open Go.RowKit.Below renaming refl->Ä
open Int renaming toNat_natCast->Å
namespace Go.Proofs.YtelcnplcpboonaaGreatDoor
open Go Go.RowKit
set_option maxRecDepth 100000
set_option maxHeartbeats 2000000
theorem NX(x)(w:World):Cb 73 #[fk x] w (eU x):=by
 unfold Cb;obtain⟨A,J,n⟩:=x;have B:∀O:Obj,Æ w w (w.alloc O):=λO=>(Ä _ w).alloc Zl O
 by_cases C:A=3
 .subst C;go_in;go_wp2;go_ret;exact⟨by simp[eU],B _⟩
 by_cases D:A=4
 .subst D;go_in;go_wp2;go_ret;exact⟨by simp[eU],B _⟩
 by_cases E:A=5
 .subst E;go_in;go_wp2;go_ret;exact⟨by simp[eU,aE],B _⟩
 by_cases G:A=6
 .subst G;go_in;go_wp2;go_ret;exact⟨by simp[eU,aE],B _⟩
 by_cases H:A=7
 .subst H;go_in;go_wp2;go_ret;exact⟨by simp[eU,aE],B _⟩
 by_cases I:A=8
 .subst I;go_in;go_wp2;go_ret;exact⟨by simp[eU,aE],B _⟩
 have K:Hid (eU ⟨A,J,n⟩=0):=by show eU ⟨A,J,n⟩=0;simp[eU,aE,C,D,E,G,H,I]
 go_in;go_wp2;go_ret;exact⟨by rw[K.o];rfl,B _⟩
theorem Ja(ds a cap)(hl:ſ ds<=400)(hk:∀x∈ds,aq x=0):∀(f i:Nat)(w:World),aG w a ds->ſ ds-i<f->i<=1000->
  Cb 55 #[È a (ſ ds) cap,Ì .i64 i] w (Ì .i64 (kr (bJ ds i 1))):=by
 unfold Cb;have S:Hid (∀x∈ds,aq x=0):=hk;clear hk;intro f
 induction f with
 | zero=>intro i w _ h;omega
 | succ f ih=>
  intro i w V y hi;have U:Hid (aG w a ds):=V
  have c:Hid (∀(i:Nat)(w:World),aG w a ds->ſ ds-i<f->i<=1000->
   Calls prog 55 #[È a (ſ ds) cap,Ì .i64 i] w λe a=>e=.returned (Ì .i64 (kr (bJ ds i 1)))/\Æ w w a):=ih
  clear V ih;by_cases C:i<ſ ds
  .obtain⟨b,o,n,v,d,g,l⟩:=U.o i C;have M:Hid (bJ ds i 1=bJ ds (i+1) (aE ds[i])):=xQ _ _ 0 C;have P:=Ic (S.o _ (Ç C));have H:Hid (eU ds[i]=(aE ds[i]:Int)):=Id (S.o _ (Ç C));have r:(i:Int)<(ſ ds:Int):=by omega
   have N:¬(ſ ds:Int)<=(i:Int):=by omega
   subst n;generalize ds[i]=x at d g l M P H;generalize Q:aE x=p at M P H;clear Q;obtain⟨Y,Z,X⟩:=x
   have L:Hid (∀W:World,Cb 73 #[.agg #[Ì .i64 Y,Â Z,Ì .i64 X]] W (Ì .i64 (p:Int))):=λW=>by
    have:=NX ⟨Y,Z,X⟩ W
    rw[H.o]at this;exact this
   clear H;go_in;go_wp2_with fail;refine ai (L.o _) λw1 b1=>?_
   go_wp2_with fail
   go_loopw [1,5] (λz m wr=>Æ w w wr/\∃q:Nat,q<=6/\m=Ì .i64 q/\((∃k:Nat,i<k/\k<=ſ ds/\z=Ì .i64 k/\bJ ds i 1=bJ ds k q)\/(z=Ì .i64 (-1)/\bJ ds i 1=none))) (λ_ m _=>(À m).toNat)
   case atStart=>exact⟨b1,p,P,rfl,.inl ⟨i+1,by omega,by omega,by go_num,M.o⟩⟩
   case round=>
    obtain⟨B,q,hq,rfl,⟨k,t,u,rfl,E⟩|⟨rfl,E⟩⟩:=hrel
    .have D:Hid (bJ ds i 1=bJ ds k q):=E;have A:Hid (Æ w w wr):=B;clear E B;by_cases I:q=0
     .subst I;have K:Hid (bJ ds i 1=some k):=D.o.trans (CE _ _);go_wp2;go_ret;exact⟨by rw[K.o];rfl,A.o⟩
     .obtain⟨G,rfl⟩:∃G,q=G+1:=⟨q-1,by omega⟩;have R:Hid (bJ ds i 1=(bJ ds k 1).bind λj=>bJ ds j G):=D.o.trans (by rw[Nat.add_comm G 1,Uc]);clear I;go_wp2_with fail;refine ai (c.o k _ (U.o.W A.o) (by omega) (by omega)) λw2 b2=>?_
      have J:Hid (Æ w w w2):=aH A.o Zl b2;clear b2;go_wp2
      go_roundw
      case rel=>
       refine⟨J.o,G,by omega,by go_num,?_⟩;cases O:bJ ds k 1 with
       | none=>exact .inr ⟨rfl,by rw[R.o,O];rfl⟩
       | some j=>
        have s:=Ks O;exact .inl ⟨j,by omega,by omega,rfl,by rw[R.o,O];rfl⟩
      case measure=>simp[À]
    .have D:Hid (bJ ds i 1=none):=E;have A:Hid (Æ w w wr):=B;clear E B;by_cases I:q=0
     .subst I;go_wp2;go_ret;exact⟨by rw[D.o];rfl,A.o⟩
     .go_wp2;go_ret;exact⟨by rw[D.o];rfl,A.o⟩
  .have D:Hid (bJ ds i 1=none):=oH _ _ _ (by omega);have N:(ſ ds:Int)<=(i:Int):=by omega
   go_in;go_wp2;go_ret;exact⟨by rw[D.o];rfl,Ä _ _⟩
theorem JM(ws a e w)(f:bN w a ws):
  Cw 71 #[È a (ſ ws) e] w (dF ws):=by
 unfold Cw;have P:=aa f;by_cases Z:60<(ſ ws:Int)
 .have A:Hid (dF ws=3):=sw (by omega);go_in;go_wp2;go_ret;exact⟨by rw[A.o];rfl,rfl⟩
 go_in;go_wp2
 go_loopw [3] (λi wr=>wr=w/\∃k:Nat,k<=ſ ws/\i=k/\∀j(h:j<ſ ws),j<k->dY ws[j]=true) (λi _=>ſ ws-(À i).toNat)
 case atStart=>exact⟨rfl,0,Ã _,rfl,λj _ M=>by omega⟩
 case round=>
  obtain⟨rfl,k,b,rfl,I⟩:=hrel;have N:=aa I;by_cases J:k<ſ ws
  .obtain⟨W,d,R,S,Q⟩:=P.o k J;subst R
   have H:Hid (dY ws[k]=true->∀j(h:j<ſ ws),j<k+1->dY ws[j]=true):=λC j h M=>by
    by_cases E:j=k
    .subst E;exact C
    .exact N.o j h (by omega)
   have B:Hid (dY ws[k]=false->dF ws=5):=λC=>BR (by omega) J C
   generalize ws[k]=s at Q H B;by_cases X:(s.size:Int)<1
   .have A:=aa (B.o (by simp[dY];omega));go_wp2;go_ret;exact⟨by rw[A.o];rfl,rfl⟩
   by_cases Y:20<(s.size:Int)
   .have A:=aa (B.o (by simp[dY];omega));go_wp2;go_ret;exact⟨by rw[A.o];rfl,rfl⟩
   go_wp2
   go_loopw [4] (λi g=>g=wr/\∃m:Nat,m<=s.size/\i=m/\∀j(h:j<s.size),j<m->gE s[j]=true) (λi _=>s.size-(À i).toNat)
   case atStart=>exact⟨rfl,0,Ã _,rfl,λj _ M=>by omega⟩
   case round=>
    obtain⟨rfl,m,c,rfl,D⟩:=hrel;have G:=aa D;by_cases K:m<s.size
    .have V:(m:Int)<(s.size:Int):=by omega
     cases C:gE s[m]with
     | false=>
      have A:=aa (B.o (GN K C));have L:=Jf C;rcases L with L|⟨L,U⟩
      .go_wp2;go_ret;exact⟨by rw[A.o];rfl,rfl⟩
      .go_wp2;go_ret;exact⟨by rw[A.o];rfl,rfl⟩
     | true=>
      have O:=aa C;obtain⟨L,U⟩:=BP C;go_wp2
      go_roundw
      case rel=>
       refine⟨by trivial,m+1,by omega,by go_num,?_⟩;intro j h M;by_cases E:j=m
       .subst E;exact O.o
       .exact G.o j h (by omega)
      case measure=>simp[À];omega
    .have A:=aa (H.o (AF (by omega) (by omega) λj h=>G.o j h (by omega)));go_wp2
     go_roundw
     case rel=>exact⟨by trivial,k+1,by omega,by go_num,A.o⟩
     case measure=>simp[À];omega
  .have A:=aa (BQ (by omega) λj h=>N.o j h (by omega));go_wp2;go_ret;exact⟨by rw[A.o];rfl,rfl⟩
set_option maxHeartbeats 4000000
theorem iV(s w):Cw 33 #[Â s] w (.bool (aL s)):=by
 unfold Cw;by_cases P:(s.size:Int)<1
 .have B:Hid (aL s=false):=I9 (by omega);go_in;go_wp2;go_ret;exact⟨by rw[B.o];rfl,rfl⟩
 by_cases Q:8<(s.size:Int)
 .have B:Hid (aL s=false):=JH (by omega);go_in;go_wp2;go_ret;exact⟨by rw[B.o];rfl,rfl⟩
 by_cases D:s=⟨#[108,101,116]⟩
 .subst D;go_in;go_wp2;go_ret;exact⟨by rfl,rfl⟩
 have N:Hid (¬s=⟨#[108,101,116]⟩):=D
 have J:¬s.toList=[108,101,116]:=by
  rw[ByteArray.toList_eq];intro e;exact D (wR.1 e)
 have L:(s.toList==[108,101,116])=false:=beq_false_of_ne J;have M:(⟨#[108,101,116]⟩:ByteArray).toList=[108,101,116]:=by rw[ByteArray.toList_eq]
 clear D;go_in;go_wp2
 go_loopw [3] (λi wr=>wr=w/\∃k:Nat,k<=s.size/\i=Ì .i64 k/\∀j(h:j<s.size),j<k->aI s[j]=true) (λi _=>s.size-(À i).toNat)
 case atStart=>exact⟨rfl,0,Ã _,rfl,λj _ S=>by omega⟩
 case round=>
  obtain⟨rfl,k,R,rfl,A⟩:=hrel;have K:Hid (∀j(h:j<s.size),j<k->aI s[j]=true):=A;clear A;by_cases I:k<s.size
  .cases C:aI s[k]with
   | false=>
    have B:Hid (aL s=false):=DF I C;have G:Hid (aI s[k]=false):=C;clear C;go_wp2_with(go_at_call 51;refine(pT _ _).mono ?_;rintro e O⟨rfl,rfl⟩;rw[G.o]);go_ret;exact⟨by rw[B.o];rfl,rfl⟩
   | true=>
    have G:Hid (aI s[k]=true):=C
    have E:Hid (∀j(h:j<s.size),j<k+1->aI s[j]=true):=λj h S=>by
     by_cases H:j=k
     .subst H;exact C
     .exact K.o j h (by omega)
    clear C;go_wp2_with(go_at_call 51;refine(pT _ _).mono ?_;rintro e O⟨rfl,rfl⟩;rw[G.o])
    go_roundw
    case rel=>exact⟨by trivial,k+1,by omega,by go_num,E.o⟩
    case measure=>simp[À];omega
  .have B:Hid (aL s=true):=DE (by omega) (by omega) N.o λj h=>K.o j h (by omega)
   go_wp2;go_ret;exact⟨by rw[B.o];rfl,rfl⟩
theorem Tb(s)(i e:Nat)(A:i<=e)(B:e<=s.size)(W):(Instr.slice 9 (Â s) (some ↑(i:Int)) (some ↑((e:Nat):Int)) none).run prog W=.ok (Â (ab (((ae s).drop i).take (e-i)))) W:=by
 have h:=run_slice_string (P:=prog) (w:=W) 9 s .i64 .i64 (i:Int) (e:Int) Tryz.underlying9 (by omega) (by omega) (by omega);rw[Å,Å,m8]at h;exact h
structure sK(s:ByteArray)(w:World)(fr i:Nat)(dn:List (List UInt8))(A:Option Addr)(c:Nat)(wr:World):Prop where
 b:Æ w w wr
 le:fr<=i
 li:i<=s.size
 ln:ſ dn<=fr
 no:∀j(h:j<s.size),fr<=j->j<i->s[j]≠32
 eq:bV (ae s)=dn++bV ((ae s).drop fr)
 ro:wr.ownsRow w.heap.size 9 1 (È A (ſ dn) c) (ſ dn) (strCells (dn.map ab))
theorem AE{s C i}(h:C<=i)(hi:i<=s.size)(no:∀j(h:j<s.size),C<=j->j<i->s[j]≠32):∀b∈((ae s).drop C).take (i-C),b≠32:=by
 intro b A;obtain⟨j,B,rfl⟩:=List.getElem_of_mem A;rw[List.length_take,Ë,aw]at B;rw[List.getElem_take,List.getElem_drop];exact no (C+j) (by omega) (by omega) (by omega)
theorem U2{s B i}(h:B<=i)(hi:i<s.size):(ae s).drop B=((ae s).drop B).take (i-B)++s[i]::(ae s).drop (i+1):=by
 have A:=(List.take_append_drop (i-B) ((ae s).drop B)).symm;rw[List.drop_drop,show B+(i-B)=i by omega,fv hi]at A;exact A
theorem GM{s A}:((ae s).drop A).take (s.size-A)=(ae s).drop A:=by
 rw[List.take_of_length_le (by rw[Ë,aw];exact Ê _)]
theorem so(s)(w:World)(Aa:s.size<=1000000000000):Calls prog 31 #[Â s] w λe a=>(∃A c,e=.returned (È A (ar (ae s)).length c)/\cP w (È A (ar (ae s)).length c) ((ar (ae s)).map ab) a)/\Æ w w a:=by
 by_cases l:s.size=0
 .have o:Hid (ar (ae s)=[]):=by
   show ar (ae s)=[];rw[ar,if_pos (List.eq_nil_of_length_eq_zero (by rw[aw];exact l))]
  have q:((s.size:Int)==0)=true:=beq_iff_eq.2 (by omega);clear l;go_in;go_wp2;go_ret;rw[o.o];exact⟨⟨none,0,rfl,World.ownsRow_nil _ _ _ _⟩,Ä _ _⟩
 .have o:Hid (ar (ae s)=bV (ae s)):=by
   show ar (ae s)=_;rw[ar,if_neg];intro e
   have:=congrArg List.length e
   rw[aw,List.length_nil]at this;exact l this
  have q:((s.size:Int)==0)=false:=beq_false_of_ne (by omega);clear l;obtain⟨i0,X,a,d,g⟩:=info_parts j7;go_in;go_wp2
  go_loopw [3,4,5] (λx f i wr=>∃(E k:Nat)(H:List (List UInt8))(A:Option Addr)(c:Nat),x=È A (ſ H) c/\f=(E:Int)/\i=(k:Int)/\sK s w E k H A c wr) (λ_ _ i _=>s.size-(À i).toNat)
  case atStart=>exact⟨0,0,[],none,0,rfl,rfl,rfl,{b:=Ä _ _,le:=Ê _,li:=Ã _,ln:=Ê _,no:=λj _ _ h=>by omega,eq:=rfl,ro:=World.ownsRow_nil _ _ _ _}⟩
  case round=>
   obtain⟨E,k,H,A,c,rfl,rfl,rfl,R⟩:=hrel;have G:Hid (sK s w E k H A c wr):=R;have L:=R.le;have N:=R.li;have y:=R.ln;have Y:=R.b.size;clear R;by_cases O:k<s.size
   .have v:(k:Int)<(s.size:Int):=by omega
    cases S:(s[k]==32)with
    | true=>
     have r:((s[k].toNat:Int)==32)=true:=by rw[show(32:Int)=((32:Nat):Int)from rfl,fC _ 32 (by decide)];exact S
     have Q:=Tb s E k L N
     have I:Hid (bV (ae s)=(H++[((ae s).drop E).take (k-E)])++bV ((ae s).drop (k+1))):=by
      show _=_;have M:=U2 L O;rw[beq_iff_eq.1 S]at M;rw[G.o.eq,List.append_assoc]
      congr 1
      conv=>lhs;rw[M]
      rw[AX _ _ (AE L N G.o.no)];rfl
     generalize((ae s).drop E).take (k-E)=W at Q I
     clear S;go_wp2_with(at_builtin;refine wpList_append_lies _ rfl _ _ 72 rfl w.heap.size 9 i0 _ 1 16 Tryz.underlying72 X a d g rfl (by decide) _ _ _ rfl (World.ownsRow.alloc G.o.ro _) wr.heap.size 1 1 [Â (ab W)] rfl rfl (cell_one_new wr _ _) (by intro u Z;simp at Z;subst Z;rfl) (by decide) (by unfold maxLen;omega) (by omega) (by simp;omega) (wr.heap.size+1) (by simp) ?_);intro U D m C B J K
     have p:Hid (sK s w (k+1) (k+1) (H++[W]) U D m):=by
      refine{b:=(G.o.b.alloc Y (.cells #[Â (ab W)] 9)).grown B (by simp;omega) (λj a=>(World.ownsRow.lt G.o.ro j a).1),le:=Ê _,li:=O,ln:=by simp;omega,no:=λj _ _ h=>by omega,eq:=I.o,ro:=?_};rw[Á,Í,lB];exact C
     clear C B J K;go_wp2
     go_roundw
     case rel=>exact⟨k+1,k+1,H++[W],some ↑U,D,by rw[Á];rfl,by go_num,by go_num,p.o⟩
     case measure=>simp[À];omega
    | false=>
     have r:((s[k].toNat:Int)==32)=false:=by rw[show(32:Int)=((32:Nat):Int)from rfl,fC _ 32 (by decide)];exact S
     have p:Hid (sK s w E (k+1) H A c wr):=by
      refine{b:=G.o.b,le:=by omega,li:=O,ln:=y,no:=λj h M h2=>?_,eq:=G.o.eq,ro:=G.o.ro};by_cases t:j=k
      .subst t;simpa using S
      .exact G.o.no j h M (by omega)
     clear S;go_wp2
     go_roundw
     case rel=>exact⟨E,k+1,H,A,c,rfl,rfl,by go_num,p.o⟩
     case measure=>simp[À];omega
   .obtain rfl:k=s.size:=by omega
    have v:¬(s.size:Int)<(s.size:Int):=by omega
    have Q:∀W:World,(Instr.slice 9 (Â s) (some ↑(E:Int)) none none).run prog W=.ok (Â (ab ((ae s).drop E))) W:=λW=>by
     have h:=run_slice_string_l (P:=prog) W 9 s Tryz.underlying9 .i64 (E:Int) (by omega) (by omega);rw[Å,m8,GM]at h;exact h
    have I:Hid (ar (ae s)=H++[(ae s).drop E]):=by
     show _=_;rw[o.o,G.o.eq,AY];have M:=AE L N G.o.no;rw[GM]at M;exact M
    generalize(ae s).drop E=W at Q I
    go_wp2_with(at_builtin;refine wpList_append_lies _ rfl _ _ 72 rfl w.heap.size 9 i0 _ 1 16 Tryz.underlying72 X a d g rfl (by decide) _ _ _ rfl (World.ownsRow.alloc G.o.ro _) wr.heap.size 1 1 [Â (ab W)] rfl rfl (cell_one_new wr _ _) (by intro u Z;simp at Z;subst Z;rfl) (by decide) (by unfold maxLen;omega) (by omega) (by simp;omega) (wr.heap.size+1) (by simp) ?_);intro U D m C B J K;have V:=(G.o.b.alloc Y (.cells #[Â (ab W)] 9)).grown B (by simp;omega) (λj a=>(World.ownsRow.lt G.o.ro j a).1)
    have z:cP w (È U (ſ H+1) D) ((H++[W]).map ab) m:=by
     show m.ownsRow _ _ _ _ _ _;rw[É,Á,Í,lB];exact C
    have HO:=aa z;have n:=aa V;clear C B J K z V;go_wp2;go_ret;rw[I.o,Á];exact⟨⟨some ↑U,D,rfl,HO.o⟩,n.o⟩
set_option maxHeartbeats 16000000
theorem Wb(ds a cap)(w:World)(hN:aG w a ds)(t:∀x∈ds,x.tx.size<=1000000000000):Cb 53 #[È a (ſ ds) cap] w (ag ds):=by
 unfold Cb;have HN:Hid (aG w a ds):=hN;have Ab:Hid (∀x∈ds,x.tx.size<=1000000000000):=t;clear hN t;by_cases Aj:40<(ſ ds:Int)
 .have A:Hid (ag ds=3):=BL (by omega);go_in;go_wp2;go_ret;exact⟨by rw[A.o];rfl,Ä _ _⟩
 go_in;go_wp2
 go_loopw [3] (λi wr=>Æ w w wr/\∃k:Nat,k<=ſ ds/\i=Ì .i64 k/\∀x∈ds.take k,aq x=0) (λi _=>ſ ds-(À i).toNat)
 case atStart=>exact⟨Ä _ _,0,Ã _,rfl,λx hx=>by simp at hx⟩
 case round=>
  obtain⟨l,k,hk,rfl,J⟩:=hrel;have y:Hid (∀x∈ds.take k,aq x=0):=J;have Q:Hid (Æ w w wr):=l;have Ah:=l.size;clear J l;by_cases L:k<ſ ds
  .obtain⟨b,o,ea,hb,u,c2,c3⟩:=(HN.o.W Q.o) k L;have Ad:(k:Int)<(ſ ds:Int):=by omega
   have C:Hid (aq ds[k]≠0->ag ds=aq ds[k]):=λh=>BM (by omega) L y.o h
   have E:Hid (aq ds[k]=0->∀x∈ds.take (k+1),aq x=0):=λh=>BK L y.o h
   have d:ds[k].tx.size<=1000000000000:=Ab.o _ (Ç L);have B:Hid (∀O:Obj,Æ w w (wr.alloc O)):=λO=>Q.o.alloc Ah O
   subst ea;generalize ds[k]=x at u c2 c3 C E d;obtain⟨R,tx,n⟩:=x;simp only at u c2 c3 d;by_cases G:R<1
   .skip
    have A:Hid (ag ds=1):=by
     show ag ds=1;have e:=Im (tx:=tx) (n:=n) G;rw[C.o (by rw[e];decide),e]
    clear C E;go_wp2;go_ret;exact⟨by rw[A.o];rfl,B.o _⟩
   by_cases D:9<R
   .skip
    have A:Hid (ag ds=1):=by
     show ag ds=1;have e:=Io (tx:=tx) (n:=n) G D;rw[C.o (by rw[e];decide),e]
    clear C E;go_wp2;go_ret;exact⟨by rw[A.o];rfl,B.o _⟩
   have Ag:R=1\/R=2\/R=3\/R=4\/R=5\/R=6\/R=7\/R=8\/R=9:=by omega
   clear G D;rcases Ag with rfl|rfl|rfl|rfl|rfl|rfl|rfl|rfl|rfl
   .skip
    by_cases G:n<0
    .skip
     have A:Hid (ag ds=1):=by
      show ag ds=1;have e:=Ip (tx:=tx) (n:=n) G;rw[C.o (by rw[e];decide),e]
     clear C E;go_wp2;go_ret;exact⟨by rw[A.o];rfl,B.o _⟩
    .skip
     by_cases D:999999<n
     .skip
      have A:Hid (ag ds=1):=by
       show ag ds=1;have e:=Iq (tx:=tx) (n:=n) G D;rw[C.o (by rw[e];decide),e]
      clear C E;go_wp2;go_ret;exact⟨by rw[A.o];rfl,B.o _⟩
     .skip
      by_cases S:0<(tx.size:Int)
      .skip
       have A:Hid (ag ds=2):=by
        show ag ds=2;have e:=Ir (tx:=tx) (n:=n) G D S;rw[C.o (by rw[e];decide),e]
       clear C E;go_wp2;go_ret;exact⟨by rw[A.o];rfl,B.o _⟩
      .skip
       have A:=aa (E.o (Is (tx:=tx) (n:=n) G D S));clear C E;go_wp2
       go_roundw
       case rel=>exact⟨B.o _,k+1,by omega,by go_num,A.o⟩
       case measure=>simp[À];omega
   .skip
    by_cases G:n=0
    .skip
     cases D:aL tx with
     | true=>
      have A:=aa (E.o (Iu (tx:=tx) (n:=n) G D));have P:Hid (aL tx=true):=D;clear C E D;go_wp2_with(go_at_call 33;refine(iV _ _).mono ?_;rintro e M⟨rfl,rfl⟩;rw[P.o])
      go_roundw
      case rel=>exact⟨B.o _,k+1,by omega,by go_num,A.o⟩
      case measure=>simp[À];omega
     | false=>
      have A:Hid (ag ds=5):=by
       show ag ds=5;have e:=Iw (tx:=tx) (n:=n) G D;rw[C.o (by rw[e];decide),e]
      have P:Hid (aL tx=false):=D;clear C E D;go_wp2_with(go_at_call 33;refine(iV _ _).mono ?_;rintro e M⟨rfl,rfl⟩;rw[P.o]);go_ret;exact⟨by rw[A.o];rfl,B.o _⟩
    .skip
     have A:Hid (ag ds=2):=by
      show ag ds=2;have e:=It (tx:=tx) (n:=n) G;rw[C.o (by rw[e];decide),e]
     clear C E;go_wp2;go_ret;exact⟨by rw[A.o];rfl,B.o _⟩
   .skip
    by_cases G:n<0
    .skip
     have A:Hid (ag ds=1):=by
      show ag ds=1;have e:=Ix (tx:=tx) (n:=n) G;rw[C.o (by rw[e];decide),e]
     clear C E;go_wp2;go_ret;exact⟨by rw[A.o];rfl,B.o _⟩
    .skip
     by_cases D:6<n
     .skip
      have A:Hid (ag ds=1):=by
       show ag ds=1;have e:=Gm (tx:=tx) (n:=n) G D;rw[C.o (by rw[e];decide),e]
      clear C E;go_wp2;go_ret;exact⟨by rw[A.o];rfl,B.o _⟩
     .skip
      cases S:aL tx with
      | true=>
       have A:=aa (E.o (Gn (tx:=tx) (n:=n) G D S));have P:Hid (aL tx=true):=S;clear C E S;go_wp2_with(go_at_call 33;refine(iV _ _).mono ?_;rintro e M⟨rfl,rfl⟩;rw[P.o])
       go_roundw
       case rel=>exact⟨B.o _,k+1,by omega,by go_num,A.o⟩
       case measure=>simp[À];omega
      | false=>
       have A:Hid (ag ds=5):=by
        show ag ds=5;have e:=Gp (tx:=tx) (n:=n) G D S;rw[C.o (by rw[e];decide),e]
       have P:Hid (aL tx=false):=S;clear C E S;go_wp2_with(go_at_call 33;refine(iV _ _).mono ?_;rintro e M⟨rfl,rfl⟩;rw[P.o]);go_ret;exact⟨by rw[A.o];rfl,B.o _⟩
   .skip
    by_cases G:n<0
    .skip
     have A:Hid (ag ds=1):=by
      show ag ds=1;have e:=Gq (tx:=tx) (n:=n) G;rw[C.o (by rw[e];decide),e]
     clear C E;go_wp2;go_ret;exact⟨by rw[A.o];rfl,B.o _⟩
    .skip
     by_cases D:6<n
     .skip
      have A:Hid (ag ds=1):=by
       show ag ds=1;have e:=Gr (tx:=tx) (n:=n) G D;rw[C.o (by rw[e];decide),e]
      clear C E;go_wp2;go_ret;exact⟨by rw[A.o];rfl,B.o _⟩
     .skip
      by_cases S:0<(tx.size:Int)
      .skip
       have A:Hid (ag ds=2):=by
        show ag ds=2;have e:=Gs (tx:=tx) (n:=n) G D S;rw[C.o (by rw[e];decide),e]
       clear C E;go_wp2;go_ret;exact⟨by rw[A.o];rfl,B.o _⟩
      .skip
       have A:=aa (E.o (Gt (tx:=tx) (n:=n) G D S));clear C E;go_wp2
       go_roundw
       case rel=>exact⟨B.o _,k+1,by omega,by go_num,A.o⟩
       case measure=>simp[À];omega
   .skip
    by_cases G:n=0
    .skip
     by_cases D:0<(tx.size:Int)
     .skip
      have A:Hid (ag ds=2):=by
       show ag ds=2;have e:=Gv (tx:=tx) (n:=n) G D;rw[C.o (by rw[e];decide),e]
      clear C E;go_wp2;go_ret;exact⟨by rw[A.o];rfl,B.o _⟩
     .skip
      have A:=aa (E.o (Gw (tx:=tx) (n:=n) G D));clear C E;go_wp2
      go_roundw
      case rel=>exact⟨B.o _,k+1,by omega,by go_num,A.o⟩
      case measure=>simp[À];omega
    .skip
     have A:Hid (ag ds=2):=by
      show ag ds=2;have e:=Gu (tx:=tx) (n:=n) G;rw[C.o (by rw[e];decide),e]
     clear C E;go_wp2;go_ret;exact⟨by rw[A.o];rfl,B.o _⟩
   .skip
    by_cases G:n=0
    .skip
     by_cases D:0<(tx.size:Int)
     .skip
      have A:Hid (ag ds=2):=by
       show ag ds=2;have e:=Gy (tx:=tx) (n:=n) G D;rw[C.o (by rw[e];decide),e]
      clear C E;go_wp2;go_ret;exact⟨by rw[A.o];rfl,B.o _⟩
     .skip
      have A:=aa (E.o (Gz (tx:=tx) (n:=n) G D));clear C E;go_wp2
      go_roundw
      case rel=>exact⟨B.o _,k+1,by omega,by go_num,A.o⟩
      case measure=>simp[À];omega
    .skip
     have A:Hid (ag ds=2):=by
      show ag ds=2;have e:=Gx (tx:=tx) (n:=n) G;rw[C.o (by rw[e];decide),e]
     clear C E;go_wp2;go_ret;exact⟨by rw[A.o];rfl,B.o _⟩
   .skip
    by_cases G:n=0
    .skip
     cases D:aL tx with
     | true=>
      have A:=aa (E.o (GB (tx:=tx) (n:=n) G D));have P:Hid (aL tx=true):=D;clear C E D;go_wp2_with(go_at_call 33;refine(iV _ _).mono ?_;rintro e M⟨rfl,rfl⟩;rw[P.o])
      go_roundw
      case rel=>exact⟨B.o _,k+1,by omega,by go_num,A.o⟩
      case measure=>simp[À];omega
     | false=>
      have A:Hid (ag ds=5):=by
       show ag ds=5;have e:=GC (tx:=tx) (n:=n) G D;rw[C.o (by rw[e];decide),e]
      have P:Hid (aL tx=false):=D;clear C E D;go_wp2_with(go_at_call 33;refine(iV _ _).mono ?_;rintro e M⟨rfl,rfl⟩;rw[P.o]);go_ret;exact⟨by rw[A.o];rfl,B.o _⟩
    .skip
     have A:Hid (ag ds=2):=by
      show ag ds=2;have e:=GA (tx:=tx) (n:=n) G;rw[C.o (by rw[e];decide),e]
     clear C E;go_wp2;go_ret;exact⟨by rw[A.o];rfl,B.o _⟩
   .skip
    by_cases G:n=0
    .skip
     by_cases D:0<(tx.size:Int)
     .skip
      have A:Hid (ag ds=2):=by
       show ag ds=2;have e:=GE (tx:=tx) (n:=n) G D;rw[C.o (by rw[e];decide),e]
      clear C E;go_wp2;go_ret;exact⟨by rw[A.o];rfl,B.o _⟩
     .skip
      have A:=aa (E.o (GF (tx:=tx) (n:=n) G D));clear C E;go_wp2
      go_roundw
      case rel=>exact⟨B.o _,k+1,by omega,by go_num,A.o⟩
      case measure=>simp[À];omega
    .skip
     have A:Hid (ag ds=2):=by
      show ag ds=2;have e:=GD (tx:=tx) (n:=n) G;rw[C.o (by rw[e];decide),e]
     clear C E;go_wp2;go_ret;exact⟨by rw[A.o];rfl,B.o _⟩
   .skip
    by_cases G:n=0
    .skip
     by_cases D:cX tx=0
     .skip
      have A:=aa (E.o (GH (tx:=tx) (n:=n) G D));have P:Hid (cX tx=0):=D;clear C E D;have U:Hid (dF ((ar (ae tx)).map ab)=cX tx):=rfl;generalize cX tx=nf at *;go_wp2_with fail;refine(so tx _ d).mono ?_;rintro e M⟨⟨q,g,rfl,X⟩,Z⟩;have r:Æ w w M:=(B.o _).trans (Z.mono (by simp;omega));have V:Hid (bN M q ((ar (ae tx)).map ab)):=jR X;have Y:(ar (ae tx)).length=((ar (ae tx)).map ab).length:=by rw[É]
      rw[Y];clear X Y Z
      generalize(ar (ae tx)).map ab=ws at V U⊢
      go_wp2_with fail;refine an (JM ws q g _ V.o) ?_;rw[U.o];rw[P.o];go_wp2
      go_roundw
      case rel=>exact⟨r,k+1,by omega,by go_num,A.o⟩
      case measure=>simp[À];omega
     .skip
      have A:Hid (ag ds=cX tx):=by
       show ag ds=cX tx;have e:=GI (tx:=tx) (n:=n) G D;rw[C.o (by rw[e];exact D),e]
      have Al:(cX tx != 0)=true:=by simp[D]
      clear C E D;have U:Hid (dF ((ar (ae tx)).map ab)=cX tx):=rfl;generalize cX tx=nf at *;go_wp2_with fail;refine(so tx _ d).mono ?_;rintro e M⟨⟨q,g,rfl,X⟩,Z⟩;have r:Æ w w M:=(B.o _).trans (Z.mono (by simp;omega));have V:Hid (bN M q ((ar (ae tx)).map ab)):=jR X;have Y:(ar (ae tx)).length=((ar (ae tx)).map ab).length:=by rw[É]
      rw[Y];clear X Y Z
      generalize(ar (ae tx)).map ab=ws at V U⊢
      go_wp2_with fail;refine an (JM ws q g _ V.o) ?_;rw[U.o];go_wp2;go_ret;exact⟨by rw[A.o];rfl,r⟩
    .skip
     have A:Hid (ag ds=2):=by
      show ag ds=2;have e:=GG (tx:=tx) (n:=n) G;rw[C.o (by rw[e];decide),e]
     clear C E;go_wp2;go_ret;exact⟨by rw[A.o];rfl,B.o _⟩
  .obtain rfl:k=ſ ds:=by omega
   have N:Hid (∀x∈ds,aq x=0):=by
    have h:=y.o;rw[List.take_length]at h;exact h
   have Ad:¬(ſ ds:Int)<(ſ ds:Int):=by omega
   by_cases hz:ſ ds=0
   .have A:Hid (ag ds=2):=by
     show ag ds=2;rw[tF (by omega) N.o,oH ds 0 0 (by omega),if_neg (by simp)]
    have Ai:((ſ ds:Int)==0)=true:=beq_iff_eq.2 (by omega);clear hz;go_wp2;go_ret;exact⟨by rw[A.o];rfl,Q.o⟩
   .have Ai:((ſ ds:Int)==0)=false:=beq_false_of_ne (by omega);have f:Hid (Cb 55 #[È a (ſ ds) cap,Ì .i64 0] wr (kr (bJ ds 0 1))):=Ja ds a cap (by omega) N.o (ſ ds+1) 0 wr (HN.o.W Q.o) (by omega) (by omega);by_cases m:bJ ds 0 1=some (ſ ds)
    .have Aa:Hid (kr (bJ ds 0 1)=(ſ ds:Int)):=by show kr _=_;rw[m];rfl
     have HT:Hid (ag ds=if gK ds=true then 0 else 2):=by
      show ag ds=_;rw[tF (by omega) N.o];simp only[m,true_and]
     have Ak:((ſ ds:Int) != (ſ ds:Int))=false:=by simp
     clear m hz;go_wp2_with fail;refine ai f.o λM Z=>?_
     rw[Aa.o];have c:Hid (Æ w w M):=aH Q.o Zl Z;clear Z;go_wp2
     go_loopw [8] (λi a=>a=M/\∃k:Nat,k<=ſ ds/\i=(k:Int)/\∀j(h:j<ſ ds),j<k->decide (7<=ds[j].op)=decide (j=0)) (λi _=>ſ ds-(À i).toNat)
     case atStart=>exact⟨rfl,0,Ã _,rfl,λj _ h=>by omega⟩
     case round=>
      obtain⟨rfl,k,hk,rfl,J⟩:=hrel;have s:Hid (∀j(h:j<ſ ds),j<k->decide (7<=ds[j].op)=decide (j=0)):=J;clear J;by_cases L:k<ſ ds
      .obtain⟨b,o,ea,hb,u,_,_⟩:=(HN.o.W c.o) k L;have Ae:(k:Int)<(ſ ds:Int):=by omega
       subst ea
       have H:Hid (decide (7<=ds[k].op)=decide (k=0)->∀j(h:j<ſ ds),j<k+1->decide (7<=ds[j].op)=decide (j=0)):=λhsame j h hj=>by
        by_cases Ac:j=k
        .subst Ac;exact hsame
        .exact s.o j h (by omega)
       have K:Hid (¬decide (7<=ds[k].op)=decide (k=0)->ag ds=2):=λhsame=>by
        rw[HT.o,if_neg];intro h;exact hsame (BB.1 h k L)
       generalize ds[k].op=R at u H K;by_cases v:7<=R
       .by_cases I:k=0
        .have A:=aa (H.o (by simp[v,I]));have p:((k:Int)==0)=true:=beq_iff_eq.2 (by omega);clear I H K;go_wp2
         go_roundw
         case rel=>exact⟨by trivial,k+1,by omega,by go_num,A.o⟩
         case measure=>simp[À];omega
        .have A:=aa (K.o (by simp[v,I]));have p:((k:Int)==0)=false:=beq_false_of_ne (by omega);clear I H K;go_wp2;go_ret;exact⟨by rw[A.o];rfl,c.o⟩
       .by_cases I:k=0
        .have A:=aa (K.o (by simp[v,I]));have p:((k:Int)==0)=true:=beq_iff_eq.2 (by omega);clear I H K;go_wp2;go_ret;exact⟨by rw[A.o];rfl,c.o⟩
        .have A:=aa (H.o (by simp[v,I]));have p:((k:Int)==0)=false:=beq_false_of_ne (by omega);clear I H K;go_wp2
         go_roundw
         case rel=>exact⟨by trivial,k+1,by omega,by go_num,A.o⟩
         case measure=>simp[À];omega
      .have A:Hid (ag ds=0):=by
        show ag ds=0;rw[HT.o,if_pos (BB.2 λj h=>s.o j h (by omega))]
       have Ae:¬(k:Int)<(ſ ds:Int):=by omega
       go_wp2;go_ret;exact⟨by rw[A.o];rfl,c.o⟩
    .have A:Hid (ag ds=2):=by
      show ag ds=2;rw[tF (by omega) N.o,if_neg (λh=>m h.1)]
     have Af:(kr (bJ ds 0 1) != (ſ ds:Int))=true:=by
      cases h:bJ ds 0 1 with
      | none=>
       simp only[kr,bne_iff_ne,ne_eq];omega
      | some j=>
       rw[h]at m;have hj:j≠ſ ds:=λe=>m (by rw[e])
       simp only[kr,bne_iff_ne,ne_eq];omega
     generalize kr (bJ ds 0 1)=z at f Af;clear m hz;go_wp2_with fail;refine ai f.o λM Z=>?_
     have r:=aH Q.o Zl Z;go_wp2;go_ret;exact⟨by rw[A.o];rfl,r⟩
