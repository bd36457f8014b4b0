import Derived.Test.YtelcnplcpboonaaGreatDoorPe13
import Derived.Laws.Strings2
import Derived.Test.YtelcnplcpboonaaGreatDoorPe07
import Derived.Test.YtelcnplcpboonaaGreatDoorPe15
import Derived.Lib.AppendIntMem
import Derived.Lib.ItoaNum
import Derived.Lib.AppendZerosOnto
import Derived.Lib.SliceRun
open Go.Proofs.Tryz
open List renaming length->ſ
open Go.Value renaming string->À,int->Á,slice->Æ,agg->Ó,pointer->Ô,tuple->Ú,bool->Ý,nilIface->á
open Go.IntKind renaming i64->Â
open Go.Obj renaming cells->Ã
open Go.World renaming size_alloc->Ä
open List renaming length_append->Å,length_cons->Î,append_assoc->Ð,eq_nil_of_length_eq_zero->Ò,drop_eq_nil_of_le->Õ,take_of_length_le->Ö,flatten_append->Ü,length_nil->Þ,length->ã
open Option renaming none->Ç,some->É
open Go renaming World->È,Calls->Ø,heap_alloc_new->ß,grownCap->à
open Go.Ending renaming returned->Ê
open Go.RowKit.Below renaming refl->Ë
open Go.RowKit renaming Below->Ì,intOf->Ù
open UInt8 renaming ofNat->Í
open Nat renaming le_refl->Ï,zero_le->Û,add_zero->â
open Go.World.ownsRow renaming lt->Ñ
namespace Go.Proofs.YtelcnplcpboonaaGreatDoor
open Go Go.RowKit
set_option maxRecDepth 100000
set_option maxHeartbeats 1000000
theorem Hv(d:Nat)(h:d<=9)(W):(Instr.slice 9 (À ⟨#[48,49,50,51,52,53,54,55,56,57]⟩) (É ↑(d:Int)) (É ↑((d:Int)+1)) Ç).run prog W=.ok (À (ab [Í (48+d)])) W:=by
 rw[run_slice_string (P:=prog) (w:=W) 9 _ Â Â (d:Int) ((d:Int)+1) Tryz.underlying9 (by omega) (by omega) (by show(d:Int)+1<=10;omega)];have e:((d:Int)+1).toNat=d+1:=by omega
 rw[e,Int.toNat_natCast]
 match d,h with
 | 0,_=>rfl
 | 1,_=>rfl
 | 2,_=>rfl
 | 3,_=>rfl
 | 4,_=>rfl
 | 5,_=>rfl
 | 6,_=>rfl
 | 7,_=>rfl
 | 8,_=>rfl
 | 9,_=>rfl
theorem bn(a b):ab a++ab b=ab (a++b):=by
 apply ByteArray.ext;simp[ab]
theorem Jq{n}(h:n<=9):aA n=[Í (48+n)]:=by rw[aA,dif_pos h]
theorem T9{n}(h:¬n<=9):aA n=aA (n / 10)++[Í (48+n % 10)]:=by rw[aA,dif_neg h]
theorem cg(l):(ab l).size=ſ l:=by
 rw[<-aw];rfl
theorem qz(n:Nat)(R:n<=999999)(w):Cw 19 #[(n:Int)] w (À (ab (aA n))):=by
 unfold Cw;have H:=gX 5 n (by omega);go_in;go_wp2_with fail
 go_loopw [0,3] (λx s wr=>wr=w/\∃(m:Nat)(t:List UInt8),x=(m:Int)/\s=À (ab t)/\m<=n/\aA n=aA m++t) (λx _ _=>(Ù x).toNat)
 case atStart=>exact⟨rfl,n,[],rfl,rfl,Ï _,by simp⟩
 case round=>
  obtain⟨rfl,m,t,rfl,rfl,P,I⟩:=hrel;have J:Hid (aA n=aA m++t):=I
  have C:(ab t).size<=100:=by
   have:=congrArg ã I
   rw[Å]at this;rw[cg];omega
  clear I H;by_cases E:m<=9
  .have G:¬(9:Int)<(m:Int):=by omega
   have D:=Hv m E;have B:(ab [Í (48+m)]).size<=1:=by rw[cg];exact Ï _
   have A:Hid (ab [Í (48+m)]++ab t=ab (aA n)):=by
    show _=_;rw[J.o,Jq E,bn]
   generalize ab [Í (48+m)]=dg at D B A;generalize ab t=ts at C A;go_wp2;go_ret;exact⟨by rw[<-A.o];rfl,rfl⟩
  .have G:(9:Int)<(m:Int):=by omega
   have D:=Hv (m % 10) (by omega);have M:((m % 10:Nat):Int)=(m:Int) % 10:=by omega
   have N:((m / 10:Nat):Int)=(m:Int) / 10:=by omega
   rw[M]at D;have B:(ab [Í (48+m % 10)]).size<=1:=by rw[cg];exact Ï _
   have A:Hid (ab [Í (48+m % 10)]++ab t=ab ([Í (48+m % 10)]++t)):=bn _ _
   have K:Hid (aA n=aA (m / 10)++([Í (48+m % 10)]++t)):=by
    show _=_;rw[J.o,T9 E,Ð]
   have L:=aa N;generalize ab [Í (48+m % 10)]=dg at D B A;generalize O:ab t=ts at C A;go_wp2;exact⟨⟨by trivial,m / 10,_,by rw[L.o],by rw[A.o],by omega,K.o⟩,by simp[Ù];omega⟩
def pm(p k:Int)(s:Bool):Bool:=(decide (p=6)&&decide (k=5))||(s&&(decide (p=5)||decide (p=6))&&decide (k=p))
theorem FB(p x:Td)(s)(h:p.op=5\/p.op=6):pm p.op x.op s=decide (da x<(if p.op=5 then(if s then 1 else 0)else(if s then 2 else 1))):=by grind [pm,da]
theorem JL(p x s)(w:È):Cb 72 #[fk p,fk x,Ý s] w (Ý (pm p.op x.op s)):=by
 unfold Cb;obtain⟨B,K,J⟩:=p;obtain⟨C,M,L⟩:=x;unfold fk;simp only;go_in;have A:Hid (∀N O:Obj,Ì w w ((w.alloc N).alloc O)):=λN O=>(Zb.alloc Zl _).alloc (by rw[Ä];omega) _
 go_wp2
 all_goals go_ret
 all_goals refine⟨?_,?_⟩
 all_goals first|exact A.o _ _|(simp_all[pm];done)|(by_cases D:C=5<;>by_cases E:C=6<;>by_cases H:B=5<;>by_cases I:B=6<;>by_cases G:C=B<;>simp_all[pm])
set_option maxHeartbeats 4000000
theorem Pd(ps a cap)(w:È)(hP:bP w a ps)(y:∀t∈ps,∀x∈t,x.tx.size<=1000000000000):Cb 36 #[Æ a (ſ ps) cap] w (Ú #[((aW ps).1:Int),(aW ps).2]):=by
 unfold Cb;have HP:=aa hP;have Ab:=aa y;clear hP y;by_cases Ag:20<(ſ ps:Int)
 .have c:Hid (aW ps=(0,3)):=by show aW ps=_;rw[aW,if_pos (by omega)]
  go_in;go_wp2;go_ret2;exact⟨by rw[c.o];rfl,Ë _ _⟩
 have HF:Hid (aW ps=fB 0 0 ps):=by show aW ps=_;rw[aW,if_neg (by omega)]
 go_in;go_wp2
 go_loopw [4] (λi wr=>Ì w w wr/\∃k:Nat,k<=ſ ps/\i=Á Â k/\aW ps=fB (fQ ps k) k (ps.drop k)/\∀j(h:j<ſ ps),j<k->ag ps[j]=0) (λi _=>ſ ps-(Ù i).toNat)
 case atStart=>exact⟨Ë _ _,0,Û _,rfl,HF.o,λj _ h=>by omega⟩
 case round=>
  obtain⟨s,k,hk,rfl,hF,X⟩:=hrel;have J:=aa s;have HG:=aa hF;have HA:=aa X;clear s hF X;by_cases P:k<ſ ps
  .obtain⟨b,o,a',c',ea,hb,V,c2,hT⟩:=(HP.o.W J.o) k P;subst ea;have v:(k:Int)<(ſ ps:Int):=by omega
   have S:=Wb ps[k] a' c' wr hT (Ab.o _ (List.getElem_mem P))
   have Q:Hid (ag ps[k]=0->∀j(h:j<ſ ps),j<k+1->ag ps[j]=0):=λh0 j h hj=>by
    by_cases Ac:j=k
    .subst Ac;exact h0
    .exact HA.o j h (by omega)
   have K:Hid (ag ps[k]=0->0<ps[k].length/\∃U n,a'=É ⟨U,n,Ç⟩/\U<wr.heap.size/\wr.cell? ⟨U,n,Ç⟩=É (Á Â (aR ps[k]))):=λh0=>by
    have A:=qG h0;obtain⟨U,n,e1,f,d1,_,_⟩:=hT 0 A;exact⟨A,U,n,e1,f,by rw[qR A];simpa using d1⟩
   have H:Hid (ag ps[k]≠0->aW ps=(k,ag ps[k])):=λh=>HG.o.trans (DM P h)
   have D:Hid (ag ps[k]=0->aR ps[k]=9/\fQ ps k=9->aW ps=(k,2)):=λh h2=>HG.o.trans (DN P h h2)
   have C:Hid (ag ps[k]=0->¬(aR ps[k]=9/\fQ ps k=9)->aW ps=fB (fQ ps (k+1)) (k+1) (ps.drop (k+1))):=λh h2=>HG.o.trans (JK P h h2)
   have M:Hid (∀j,k=j+1->∃a z d,wr.cell? ⟨b,o+j,Ç⟩=É (Æ a z d)/\0<z/\∃I p,a=É ⟨I,p,Ç⟩/\I<wr.heap.size/\wr.cell? ⟨I,p,Ç⟩=É (Á Â (fQ ps k))):=λj hj=>by
    have l:j<ſ ps:=by omega
    obtain⟨bj,oj,aj,cj,ej,_,q1,_,qT⟩:=(HP.o.W J.o) j l;simp only[Option.some.injEq,Addr.mk.injEq,and_true]at ej;obtain⟨rfl,rfl⟩:=ej;have A:=qG (HA.o j l (by omega));obtain⟨I,p,e2,g,d2,_,_⟩:=qT 0 A;refine⟨aj,ps[j].length,cj,q1,A,I,p,e2,g,?_⟩;rw[hj,xG l,qR A];simpa using d2
   have N:=aa S;clear hT S c2;generalize ps[k].length=nl at V N K;generalize aR ps[k]=op0 at K D C;generalize ag ps[k]=E at N Q K H D C;by_cases u:E=0
   .subst u;obtain⟨Am,U,n,rfl,f,d1⟩:=K.o rfl;have Y:=aa (Q.o rfl);have L:=aa (D.o rfl);have B:=aa (C.o rfl);clear D C;have Af:(0:Int)<(nl:Int):=by omega
    have Z:=aa V;have Aa:=aa d1;clear K H Q V d1;by_cases m:k=0
    .have r:=aa (B.o (by simp[fQ,m]));have Ad:¬(0:Int)<(k:Int):=by omega
     have V:=Z.o;clear L B m;go_wp2_with fail;refine ai N.o λw2 I=>?_
     have G:=aa (aH J.o Zl I);clear I V;go_wp2
     go_roundw
     case rel=>exact⟨G.o,k+1,by omega,by go_num,r.o,Y.o⟩
     case measure=>simp[Ù];omega
    .obtain⟨j,rfl⟩:∃j,k=j+1:=⟨k-1,by omega⟩;obtain⟨a1,z,d,q1,Ak,I,p,rfl,g,d2⟩:=M.o j rfl;have O:((j+1:Nat):Int)=(j:Int)+1:=by omega
     have Ad:(0:Int)<(j:Int)+1:=by omega
     have Ai:(j:Int)<(ſ ps:Int):=by omega
     have Aj:(j:Int)+1<(ſ ps:Int):=by omega
     have Ae:(0:Int)<(z:Int):=by omega
     have q:Hid (∀W:È,Ì wr wr W->W.cell? (b,o+(j+1))=É (Æ (É ↑(U,n)) nl c')/\W.cell? (U,n)=É ↑op0/\W.cell? (b,o+j)=É (Æ (É ↑(I,p)) z d)/\W.cell? (I,p)=É ↑(fQ ps (j+1))):=λW hW=>
      ⟨((a9 hW).1 _ _ hb).trans Z.o,((a9 hW).1 _ _ f).trans Aa.o,((a9 hW).1 _ _ hb).trans q1,((a9 hW).1 _ _ g).trans d2⟩
     have V:=Z.o;generalize fQ ps (j+1)=pv at L B q;rw[O]at v⊢;clear q1 d2 M O m;go_wp2_with fail;refine ai N.o λw2 e=>?_
     have G:=aa (aH J.o Zl e);obtain⟨k1,k2,k3,k4⟩:=q.o w2 e;clear e V;by_cases h9:op0=9
     .subst h9;by_cases R:pv=9
      .subst R;have c:=aa (L.o ⟨rfl,rfl⟩);clear L B;go_wp2;go_ret2;exact⟨by rw[c.o];rfl,G.o⟩
      .have r:=aa (B.o (λh=>R h.2));have Ao:(pv==9)=false:=by simp[R]
       clear L B R;go_wp2
       go_roundw
       case rel=>exact⟨G.o,j+1+1,by omega,by go_num,r.o,Y.o⟩
       case measure=>simp[Ù];omega
     .have r:=aa (B.o (λh=>h9 h.1));have An:(op0==9)=false:=by simp[h9]
      clear L B h9;go_wp2
      go_roundw
      case rel=>exact⟨G.o,j+1+1,by omega,by go_num,r.o,Y.o⟩
      case measure=>simp[Ù];omega
   .have c:=aa (H.o u);have Ah:(E==0)=false:=by simp[u]
    have Al:(E != 0)=true:=by simp[u]
    clear K H Q D C u;go_wp2_with fail;refine ai N.o λw2 I=>?_
    have G:=aa (aH J.o Zl I);clear I V;go_wp2;go_ret2;exact⟨by rw[c.o];rfl,G.o⟩
  .have c:Hid (aW ps=(0,0)):=by
    show aW ps=_;rw[HG.o,Õ (by omega)];rfl
   have v:¬(k:Int)<(ſ ps:Int):=by omega
   go_wp2;go_ret2;exact⟨by rw[c.o];rfl,J.o⟩
def cY(B:Nat)(v:Value)(xs:List Nd)(w:È):Prop:=w.ownsRow B 150 3 v (ſ xs) (eV xs)
theorem cY.nods{B w A n c C}(h:cY B (Æ A n c) C w):aS w A C:=(AN h).2.2
theorem cY.none{B w A n c H}(h:cY B (Æ A n c) H w):n=ſ H/\(A=Ç->n=0/\c=0):=by
 rcases h.2 with⟨C,E⟩|⟨g,G,D,C,_⟩
 .simp only[Value.slice.injEq]at C;obtain⟨rfl,rfl,rfl⟩:=C;exact⟨E.symm,λ_=>⟨rfl,rfl⟩⟩
 .simp only[Value.slice.injEq]at C;obtain⟨rfl,rfl,rfl⟩:=C;exact⟨rfl,λe=>by cases e⟩
theorem rN{w G rest o a}{Q:Exit->Act->È->Prop}(J:o.guard=Ç)(s x)
  (i:o.op=.call {callee:=.builtin .append,args:=#[s,x],argTypes:=#[117,117]})
  (B v Z) (k:a.eval s=v) (C:cY B v Z w)
  (d n ws) (q:ſ ws=n) (wc) (l:a.eval x=Æ d n wc) (f:aS w d ws) (K:d=Ç->n=0/\wc=0)
  (m) (p:ſ Z+n=m) (r:m<=1000000) (E:B<=w.heap.size)
  (h:∀A c Y,cY B (Æ A m c) (Z++ws) Y->w.grownBy Y v.ownBlock->wpList prog G Q rest (a.put o.dst (Æ A m c)) Y):wpList prog G Q (o::rest) a w:=by
 subst q p;obtain⟨V,U,O,P,R⟩:=info_parts Ij
 have S:∀H Y,cY B H (Z++ws) Y->w.grownBy Y v.ownBlock->wpList prog G Q rest (a.put o.dst H) Y:=by
  intro H Y I M
  obtain⟨A,c,rfl⟩:∃A c,H=Æ A (ſ Z+ſ ws) c:=by
   rcases I.2 with⟨L,D⟩|⟨g,c,W,L,_⟩
   .rw[Å]at D;exact⟨.none,0,by rw[L,D]⟩
   .rw[Å]at L;exact⟨_,c,L⟩
  exact h A c Y I M
 cases d with
 | none=>
  obtain⟨D,rfl⟩:=K rfl;obtain rfl:ws=[]:=Ò D;refine wpList_append_own_none J s x 117 i B 150 V 3 Tryz.underlying117 U v (ſ Z) (eV Z) k C l ?_;refine S v w ?_ ⟨rfl,rfl,rfl,Ï _,λ_ _ _=>rfl⟩;rw[List.append_nil];exact C
 | some ad=>
  have N:ws=[]\/∃b o,ad=⟨b,o,Ç⟩:=by
   rcases Nat.eq_zero_or_pos (ſ ws) with D|D
   .exact .inl (Ò D)
   .obtain⟨b,o,e,_⟩:=f 0 D;exact .inr ⟨b,o,by simpa using e⟩
  refine wpList_append_own w J s x 117 i B 150 V _ 3 32 Tryz.underlying117 U O P R rfl (by decide) v (ſ Z) (eV Z) k C ad (ſ ws) wc (eV ws) l (xq ws) ?_ (PD ws) (by unfold maxLen;omega) (by omega) E ?_
  .rcases N with rfl|⟨b,o,rfl⟩
   .intro j u X;simp[eV]at X
   .exact Sh f
  .intro H Y I M _;rw[<-PB]at I;refine S H Y ?_ M;show Y.ownsRow _ _ _ _ _ _;rw[Å];exact I
theorem cY.down{B B' v H w}(h:cY B v H w)(I:B'<=B):cY B' v H w:=by
 refine⟨h.1,?_⟩;rcases h.2 with D|⟨g,c,C,E,G,A⟩
 .exact .inl D
 .exact .inr ⟨g,c,C,E,by omega,A⟩
theorem cY.kept{B v I w w'}(h:cY B v I w)(J:∀g,B<=g->g<w.heap.size->w'.heap[g]?=w.heap[g]?):cY B v I w':=by
 refine⟨h.1,?_⟩;rcases h.2 with G|⟨g,c,C,H,D,E,A⟩
 .exact .inl G
 .exact .inr ⟨g,c,C,H,D,(J g D (Array.getElem?_eq_some_iff.1 E).1).trans E,A⟩
theorem cY.one(w:È)(x):cY w.heap.size (Æ (É ⟨w.heap.size,0,Ç⟩) 1 1) [x] (w.alloc (Ã #[x.op,À x.tx,x.n] 150)):=by
 have A:(w.alloc (Ã #[x.op,À x.tx,x.n] 150)).heap[w.heap.size]?=É (Ã #[x.op,À x.tx,x.n] 150 (0,0)):=by
  show(w.heap.push _)[w.heap.size]?=_
  simp
 exact⟨rfl,.inr ⟨w.heap.size,1,_,rfl,Ï _,A,Ï _,by unfold maxLen;decide,rfl,rfl⟩⟩
def aM(w:È)(v:Value)(xs:List Nd):Prop:=∃A c,v=Æ A (ſ xs) c/\aS w A xs/\(A=Ç->ſ xs=0/\c=0)
theorem aM.W{w w' v D}(h:aM w v D)(E:Ì w w w'):aM w' v D:=by
 obtain⟨A,c,e,B,C⟩:=h;exact⟨A,c,e,B.W E,C⟩
theorem cY.val{B w A c C}(h:cY B (Æ A (ſ C) c) C w):aM w (Æ A (ſ C) c) C:=⟨A,c,rfl,h.nods,h.none.2⟩
def bK(w:È)(xs:List Nd)(e:Ending)(w':È):Prop:=∃A c,e=Ê (Æ A (ſ xs) c)/\cY w.heap.size (Æ A (ſ xs) c) xs w'/\Ì w w w'
theorem bK.val{w:È}{E e D}(h:bK w E e D):∃v,e=Ê v/\aM D v E/\Ì w w D:=by
 obtain⟨A,c,e,B,C⟩:=h;exact⟨_,e,B.val,C⟩
theorem bK.from{w}{D:È}{H e G}(h:bK w H e G)(E:Ì D D w):bK D H e G:=by
 obtain⟨A,c,e,B,C⟩:=h;exact⟨A,c,e,B.down E.size,aH E Zl C⟩
theorem iW(s w):Ø prog 94 #[À s] w λe C=>bK w [⟨1,s,0⟩] e C:=by
 have B:=aa (cY.one w ⟨1,s,0⟩);have A:Hid (∀O:Obj,Ì w w (w.alloc O)):=λO=>(Ë _ w).alloc Zl O
 go_in;go_wp2;go_ret;exact⟨_,1,rfl,B.o,A.o _⟩
theorem lE(x){Y v}(w)(b:aM w v Y)(a:ſ Y<=100000):Ø prog 96 #[Ó #[x.op,À x.tx,x.n],v] w λe d=>bK w (x::Y) e d:=by
 obtain⟨A,c,rfl,U,E⟩:=b;obtain⟨C,D,B⟩:=x;have X:Hid (aS w A Y):=U;have I:Hid (A=Ç->ſ Y=0/\c=0):=E;clear U E;generalize V:ſ Y=n at a I⊢;have H:Hid (ſ Y=n):=V;clear V
 have R:Hid (cY w.heap.size (Æ ↑(w.heap.size+1) 1 1) [⟨C,D,B⟩] ((w.alloc (Ã #[↑C,À D,↑B] 150)).alloc (Ã #[↑C,À D,↑B] 150))):=by
  have h:=(cY.one (w.alloc (Ã #[↑C,À D,↑B] 150)) ⟨C,D,B⟩).down (B':=w.heap.size) (by rw[Ä];omega);rw[Ä]at h;exact h
 have G:Hid (Ì w w ((w.alloc (Ã #[↑C,À D,↑B] 150)).alloc (Ã #[↑C,À D,↑B] 150))):=((Ë _ w).alloc Zl _).alloc (by rw[Ä];omega) _;have N:Hid (aS ((w.alloc (Ã #[↑C,À D,↑B] 150)).alloc (Ã #[↑C,À D,↑B] 150)) A Y):=X.o.W G.o;simp only;go_in;go_wp2_with(at_builtin;refine rN rfl _ _ rfl w.heap.size _ [⟨C,D,B⟩] rfl R.o A n Y H.o c rfl N.o I.o (1+n) rfl (by omega) (by simp only[Ä];omega) ?_);intro Q S P J L;have K:Ì w w P:=G.o.grown L (by simp only[Ä];omega) (λk Z=>(Ñ R.o k Z).1);have O:Hid (cY w.heap.size (Æ Q (1+n) S) (⟨C,D,B⟩::Y) P):=J;have M:Hid (Ì w w P):=K;clear J L K;go_wp2;go_ret;have e:(⟨C,D,B⟩::Y:List Nd).length=1+n:=by rw[Î,H.o];omega
 exact⟨Q,S,by rw[e];rfl,by rw[e];exact O.o,M.o⟩
theorem gl{t x v u}(w)(hx:aM w v t)(hy:aM w u x)(z:ſ t+ſ x<=100000):Ø prog 97 #[v,u] w λe a=>bK w (⟨6,⟨#[]⟩,0⟩::(t++x)) e a:=by
 obtain⟨A,c,rfl,i,D⟩:=hx;obtain⟨R,f,rfl,h,B⟩:=hy;have q:Hid (aS w A t):=i;have p:Hid (aS w R x):=h;have K:Hid (A=Ç->ſ t=0/\c=0):=D;have I:Hid (R=Ç->ſ x=0/\f=0):=B;clear i D h B;generalize l:ſ t=n at z K⊢;generalize j:ſ x=m at z I⊢;have G:Hid (ſ t=n):=l;have H:Hid (ſ x=m):=j;clear l j;have Z:Hid (cY w.heap.size (Æ w.heap.size 1 1) [⟨6,⟨#[]⟩,0⟩] (w.alloc (Ã #[Á Â 6,À ⟨#[]⟩,Á Â 0] 150))):=cY.one w ⟨6,⟨#[]⟩,0⟩;have E:Hid (Ì w w (w.alloc (Ã #[Á Â 6,À ⟨#[]⟩,Á Â 0] 150))):=(Ë _ w).alloc Zl _;have J:Hid (aS (w.alloc (Ã #[Á Â 6,À ⟨#[]⟩,Á Â 0] 150)) A t):=q.o.W E.o;go_in;go_wp2_with(at_builtin;refine rN rfl _ _ rfl w.heap.size _ [⟨6,⟨#[]⟩,0⟩] rfl Z.o A n t G.o c rfl J.o K.o (1+n) rfl (by omega) (by simp only[Ä];omega) ?_);intro o r S M P;have C:Ì w w S:=E.o.grown P (by simp only[Ä];omega) (λk y=>(Ñ Z.o k y).1);have L:Hid (cY w.heap.size (Æ o (1+n) r) (⟨6,⟨#[]⟩,0⟩::t) S):=M;have U:Hid (Ì w w S):=C;have Y:Hid (aS S R x):=p.o.W C;have s:=C.size
 have X:Hid ((⟨6,⟨#[]⟩,0⟩::t:List Nd).length+m=1+n+m):=by
  show _=_;rw[Î,G.o];omega
 clear M P C Z E J;go_wp2_with(at_builtin;refine rN rfl _ _ rfl w.heap.size _ (⟨6,⟨#[]⟩,0⟩::t) rfl L.o R m x H.o f rfl Y.o I.o (1+n+m) X.o (by omega) (by omega) ?_);intro d g b N Q;have O:Ì w w b:=U.o.grown Q (by omega) (λk y=>(Ñ L.o k y).1);have a:Hid (cY w.heap.size (Æ d (1+n+m) g) (⟨6,⟨#[]⟩,0⟩::(t++x)) b):=N;have V:Hid (Ì w w b):=O;clear N Q O;go_wp2;go_ret;have e:(⟨6,⟨#[]⟩,0⟩::(t++x):List Nd).length=1+n+m:=by rw[Î,Å,G.o,H.o];omega
 exact⟨d,g,by rw[e];rfl,by rw[e];exact a.o,V.o⟩
structure iP(ds:List Td):Prop where
 l:ſ ds<=40
 k:∀x∈ds,aq x=0
def cW(op:Int)(sec:Bool):Nat:=if op=5 then(if sec then 1 else 0)else(if sec then 2 else 1)
theorem jq{D p y k n r}(h:D.drop p=(Fo.cons y k n).N++r)(B:(Fo.cons y k n).ok):
  ∃E:p<ſ D,D[p]=y/\D.drop (p+1)=k.N++(n.N++r)/\bJ D p 1=É (p+1+ſ k.N)/\D.drop (p+1+ſ k.N)=n.N++r:=by
 have E:p<ſ D:=by
  rcases Nat.lt_or_ge p (ſ D) with C|C
  .exact C
  .rw[Õ C,Fo.N]at h;cases h
 have A:=h;rw[List.drop_eq_getElem_cons E,Fo.N,List.cons_append,List.cons.injEq,Ð]at A;refine⟨E,A.1,A.2,?_,?_⟩
 .have e:=wM k B.2.1 (n.N++r) 0;rw[pV,â,B.1,<-A.2]at e;rw[xQ D p 0 E,A.1,bJ,â (aE y),e];rfl
 .rw[<-List.drop_drop,A.2,List.drop_left]
theorem qt{B a cap p}(C:iP B){q}(h:bJ B p 1=É q)(E:p<ſ B)(W:È)(D:aG W a B):
  Cb 55 #[Æ a (ſ B) cap,(p:Int)] W (q:Int):=by
 unfold Cb;have A:=C.l
 have:=Ja B a cap (by omega) C.k (ſ B+1) p W D (by omega) (by omega)
 rw[h]at this;exact this
abbrev nB(ds:List Td)(a:Option Addr)(cap i:Nat)(D:Tr)(W:È):Prop:=
 Ø prog 68 #[Æ a (ſ ds) cap,Á Â (i:Int)] W λe w'=>bK W D.N e w'
theorem Mr{l x D}(h:da x<l):(bm l x D).N=⟨6,⟨#[]⟩,0⟩::([⟨1,⟨#[40]⟩,0⟩]++(⟨6,⟨#[]⟩,0⟩::(D.N++[⟨1,⟨#[41]⟩,0⟩]))):=by
 rw[bm,if_pos h];rfl
theorem Qr{l x D}(h:¬da x<l):(bm l x D).N=D.N:=by rw[bm,if_neg h]
theorem JA{ds a cap p i}(W)(hN:aG W a ds)(hp:p<ſ ds)(hi:i<ſ ds)(Ae:ds[p].op=5\/ds[p].op=6)(E D)(hz:ſ D.N<=10000)(hT:nB ds a cap i D W):
  Ø prog 95 #[Æ a (ſ ds) cap,(p:Int),(i:Int),Ý E] W λe a=>bK W (bm (cW ds[p].op E) ds[i] D).N e a:=by
 have HN:=aa hN;have j:=aa hT
 have I:Hid (∀a:È,Cb 72 #[fk ds[p],fk ds[i],Ý E] a (Ý (decide (da ds[i]<cW ds[p].op E)))):=λW'=>by
  have:=JL ds[p] ds[i] E W'
  rw[FB _ _ _ Ae]at this;exact this
 have Ao:(p:Int)<(ſ ds:Int):=by omega
 have An:(i:Int)<(ſ ds:Int):=by omega
 have Z:Hid (da ds[i]<cW ds[p].op E->(bm (cW ds[p].op E) ds[i] D).N=⟨6,⟨#[]⟩,0⟩::([⟨1,⟨#[40]⟩,0⟩]++(⟨6,⟨#[]⟩,0⟩::(D.N++[⟨1,⟨#[41]⟩,0⟩])))):=Mr;have J:Hid (¬da ds[i]<cW ds[p].op E->(bm (cW ds[p].op E) ds[i] D).N=D.N):=Qr
 have f:Hid (∀c,Ì W W c->∃b o,a=É ↑(b,o)/\b<c.heap.size/\(c.cell? ↑(b,o+p*3)=É (↑ds[p].op)/\c.cell? ↑(b,o+p*3+1)=É (À ds[p].tx)/\c.cell? ↑(b,o+p*3+2)=É (↑ds[p].n))/\(c.cell? ↑(b,o+i*3)=É (↑ds[i].op)/\c.cell? ↑(b,o+i*3+1)=É (À ds[i].tx)/\c.cell? ↑(b,o+i*3+2)=É (↑ds[i].n))):=λW' O=>by
  obtain⟨A,op,e1,Ak,U,V,X⟩:=(HN.o.W O) p hp;obtain⟨bi,oi,e2,Am,P,Q,S⟩:=(HN.o.W O) i hi;rw[e1]at e2;simp only[Option.some.injEq,Addr.mk.injEq,and_true]at e2;obtain⟨rfl,rfl⟩:=e2;exact⟨A,op,e1,Ak,⟨U,V,X⟩,⟨P,Q,S⟩⟩
 generalize(bm (cW ds[p].op E) ds[i] D).N=R at Z J⊢
 generalize Al:cW ds[p].op E=l at Z J I;unfold nB at j;generalize D.N=xs at Z J j hz;clear hN hT Ae Al HN;generalize ds[p]=xp at f I;generalize ds[i]=xi at f I Z J;generalize da xi=pr at Z J I;obtain⟨r,s,q⟩:=xp;obtain⟨k,m,K⟩:=xi;by_cases O:pr<l
 .have HR:=(show Hid (_=_)from Z.o O);have c:=aa (decide_eq_true O);clear O Z J;go_in;go_wp2_with fail;refine j.o.mono ?_;rintro e G H;obtain⟨v1,rfl,M,d⟩:=H.val;have Aa:=aa M;obtain⟨A,op,rfl,C,⟨U,V,X⟩,P,Q,S⟩:=f.o G d;have L:Hid (Cp 72 #[fk ⟨r,s,q⟩,fk ⟨k,m,K⟩,Ý E] G.drew λe a=>e=Ê (Ý (decide (pr<l)))/\Ì G G a):=(I.o G.drew).mono λ_ _ h=>⟨h.1,(Ë G.heap.size G).drew.trans h.2⟩
  have d1:G.drew.cell? ↑(A,op+p*3)=É ↑r:=U;have d2:G.drew.cell? ↑(A,op+p*3+1)=É (À s):=V;have d3:G.drew.cell? ⟨A,op+p*3+2,Ç⟩=É (Á Â q):=X;have d4:G.drew.cell? ⟨A,op+i*3,Ç⟩=É (Á Â k):=P;have d5:G.drew.cell? ⟨A,op+i*3+1,Ç⟩=É (À m):=Q;have d6:G.drew.cell? ⟨A,op+i*3+2,Ç⟩=É (Á Â K):=S;have Y:=aa d;clear f I j d M H;go_wp2_with fail
  go_region_held3 (λa=>a.cell? ⟨A,op+p*3,Ç⟩=É (Á Â r)/\a.cell? ⟨A,op+p*3+1,Ç⟩=É (À s)/\a.cell? ⟨A,op+p*3+2,Ç⟩=É (Á Â q)/\a.cell? ⟨A,op+i*3,Ç⟩=É (Á Â k)/\a.cell? ⟨A,op+i*3+1,Ç⟩=É (À m)/\a.cell? ⟨A,op+i*3+2,Ç⟩=É (Á Â K))
   (first|with_reducible exact⟨d1,d2,d3,d4,d5,d6⟩|with_reducible exact⟨U,V,X,P,Q,S⟩|with_reducible exact⟨(B.cell (p:=⟨A,_,Ç⟩) C).trans U,(B.cell (p:=⟨A,_,Ç⟩) C).trans V,(B.cell (p:=⟨A,_,Ç⟩) C).trans X,(B.cell (p:=⟨A,_,Ç⟩) C).trans P,(B.cell (p:=⟨A,_,Ç⟩) C).trans Q,(B.cell (p:=⟨A,_,Ç⟩) C).trans S⟩)
   ((go_at_call 72;refine L.o.mono ?_;rintro e w2⟨rfl,B⟩;rw[c.o]))
  all_goals
   have Ab:=aa (Aa.o.W B);have t:=aa (aH Y.o Zl B);clear B;go_wp2_with fail;refine(iW _ _).mono ?_;rintro e w3 h3;obtain⟨v3,rfl,n3,b3⟩:=h3.val;have u:=aa (aH t.o Zl b3);have Ac:=aa n3;have w:=aa (Ab.o.W b3);clear h3 n3 b3 t Ab;go_wp2_with fail;refine(iW _ _).mono ?_;rintro e w4 h4;obtain⟨v4,rfl,n4,b4⟩:=h4.val;have v:=aa (aH u.o Zl b4);have Ad:=aa n4;have x:=aa (w.o.W b4);have y:=aa (Ac.o.W b4);clear h4 n4 b4 u Ac w;go_wp2_with fail;refine(gl _ x.o Ad.o (by simp;omega)).mono ?_;rintro e w5 h5;obtain⟨v5,rfl,n5,b5⟩:=h5.val;have Af:=aa (aH v.o Zl b5);have Aj:=aa n5;have Ag:=aa (y.o.W b5);clear h5 n5 b5 v Ad x y;go_wp2_with fail;refine(gl _ Ag.o Aj.o (by simp;omega)).mono ?_;rintro e w6 h6
   have Ah:Hid (bK W R e w6):=by
    show bK W R e w6;rw[HR.o];exact h6.from Af.o
   obtain⟨v6,rfl,_,_⟩:=h6.val;clear h6;go_wp2;go_ret;exact Ah.o
 .have HR:=(show Hid (_=_)from J.o O);have c:=aa (decide_eq_false O);clear O Z J;go_in;go_wp2_with fail;refine j.o.mono ?_;rintro e G H;have z:=aa H;obtain⟨v1,rfl,M,d⟩:=H.val;have Aa:=aa M;obtain⟨A,op,rfl,C,⟨U,V,X⟩,P,Q,S⟩:=f.o G d;have L:Hid (Cp 72 #[fk ⟨r,s,q⟩,fk ⟨k,m,K⟩,Ý E] G.drew λe a=>e=Ê (Ý (decide (pr<l)))/\Ì G G a):=(I.o G.drew).mono λ_ _ h=>⟨h.1,(Ë G.heap.size G).drew.trans h.2⟩
  have d1:G.drew.cell? ↑(A,op+p*3)=É ↑r:=U;have d2:G.drew.cell? ↑(A,op+p*3+1)=É (À s):=V;have d3:G.drew.cell? ↑(A,op+p*3+2)=É ↑q:=X;have d4:G.drew.cell? ↑(A,op+i*3)=É ↑k:=P;have d5:G.drew.cell? ↑(A,op+i*3+1)=É (À m):=Q;have d6:G.drew.cell? ↑(A,op+i*3+2)=É ↑K:=S;have Y:=aa d;clear f I j d M H;go_wp2_with fail
  go_region_held3 (λa=>a.cell? ⟨A,op+p*3,Ç⟩=É (Á Â r)/\a.cell? ⟨A,op+p*3+1,Ç⟩=É (À s)/\a.cell? ⟨A,op+p*3+2,Ç⟩=É (Á Â q)/\a.cell? ⟨A,op+i*3,Ç⟩=É (Á Â k)/\a.cell? ⟨A,op+i*3+1,Ç⟩=É (À m)/\a.cell? ⟨A,op+i*3+2,Ç⟩=É (Á Â K))
   (first|with_reducible exact⟨d1,d2,d3,d4,d5,d6⟩|with_reducible exact⟨U,V,X,P,Q,S⟩|with_reducible exact⟨(B.cell (p:=⟨A,_,Ç⟩) C).trans U,(B.cell (p:=⟨A,_,Ç⟩) C).trans V,(B.cell (p:=⟨A,_,Ç⟩) C).trans X,(B.cell (p:=⟨A,_,Ç⟩) C).trans P,(B.cell (p:=⟨A,_,Ç⟩) C).trans Q,(B.cell (p:=⟨A,_,Ç⟩) C).trans S⟩)
   ((go_at_call 72;refine L.o.mono ?_;rintro e w2⟨rfl,B⟩;rw[c.o]))
  all_goals
   obtain⟨A9,c9,e9,o9,b9⟩:=z.o;have Ai:Hid (bK W R (Ê v1) w2):=⟨A9,c9,by rw[HR.o];exact e9,by rw[HR.o];exact o9.kept λg _ h=>B.block g h,aH b9 Zl B⟩;clear B o9 b9;go_wp2;go_ret;exact Ai.o
theorem vE(n):Lib.decDigits n=aA n:=by
 induction n using Nat.strongRecOn with
 | ind n ih=>
  rw[Lib.decDigits,aA];by_cases h:n<10
  .rw[dif_pos h,dif_pos (by omega)]
  .rw[dif_neg h,dif_neg (by omega),ih (n / 10) (by omega)]
theorem qu(n:Int)(C:0<=n)(D:n<=999999)(w:È)(B:gH w):Cb 62 #[n] w (À (ab (aA n.toNat))):=by
 unfold Cb;refine(FY n (by omega) (by omega) w B).mono ?_;rintro e E⟨rfl,k,A,rfl⟩;refine⟨?_,Lib.below_grow _ _ Zl _ _⟩;rw[Lib.itoa,if_neg (by omega),vE];rfl
abbrev iJ(w0:È)(b:Nat)(x:Td)(k:Fo):Prop:=∀(bs:List UInt8)(rest:List Td)(w:È),ſ bs+(bh x k.R).length<=500000->a7 w0 b bs (x::(k.N++rest)) w->
 Ø prog 168 #[Ô (É ⟨b,0,Ç⟩)] w λe a=>e=Ê (Ú #[])/\a7 w0 b (bs++bh x k.R) rest a
def mf(w0:È)(b:Nat):Fo->Prop
 | .nil=>True
 | .cons x k n=>iJ w0 b x k/\mf w0 b n
theorem VS{Z b}(f:gH Z)(n)(a:0<=n)(d:n<=999999)(tx):iJ Z b ⟨1,tx,n⟩ .nil:=by
 intro M C w P O;obtain⟨A,c,h⟩:=O;have J:=aa (mJ h);have I:Hid (bh ⟨1,tx,n⟩ Fo.nil.R=aA n.toNat):=rfl;rw[I.o]at P⊢;have K:=aa f;go_in;go_wp2_with fail;refine J.o.mono ?_;rintro e B⟨rfl,Q,U,H⟩;have E:Hid (∀W:È,Ì B B W->Cp 62 #[n] W λe D=>e=Ê (À (ab (aA n.toNat)))/\Ì W W D):=λW Y=>qu n a d W ((K.o.W H.bl).W Y)
 have G:Hid (∀W:È,Ì B B W->Cp 10 #[Ô b,À (ab (aA n.toNat))] W λe D=>(∃z,e=Ê (Ú #[z,á]))/\a7 Z b (M++aA n.toNat) C D):=λW Y=>by
  refine(mL (H.grew Y) (ab (aA n.toNat)) (by omega) (by rw[<-aw,Qm];omega)).mono ?_;rintro e D⟨rfl,h,_⟩;exact⟨⟨_,rfl⟩,_,_,h⟩
 generalize ab (aA n.toNat)=S at E G;go_wp2_with fail
 go_region_with (first|(go_at_call 62;refine(E.o _ (jp B _)).mono ?_;rintro e V⟨rfl,L⟩)|(go_at_call 10;refine(G.o _ (aH (jp B _) Zl L)).mono ?_;rintro e X⟨⟨z,rfl⟩,N⟩))
 all_goals
  go_wp2
  go_end0
  exact⟨rfl,N⟩
theorem Tj{S b}(tx n):iJ S b ⟨2,tx,n⟩ .nil:=by
 intro I B w M L;obtain⟨A,c,h⟩:=L;have G:=aa (mJ h);have E:Hid (bh ⟨2,tx,n⟩ Fo.nil.R=ae tx):=rfl;rw[E.o]at M⊢;go_in;go_wp2_with fail;refine G.o.mono ?_;rintro e C⟨rfl,N,O,J⟩
 have H:Hid (∀W:È,Ì C C W->Cp 10 #[Ô b,À tx] W λe D=>(∃z,e=Ê (Ú #[z,á]))/\a7 S b (I++ae tx) B D):=λW U=>by
  refine(mL (J.grew U) tx (by omega) (by rw[<-aw];omega)).mono ?_;rintro e D⟨rfl,h,_⟩;exact⟨⟨_,rfl⟩,_,_,h⟩
 go_wp2_with fail
 go_region_with (go_at_call 10;refine(H.o _ (jp C _)).mono ?_;rintro e P⟨⟨z,rfl⟩,K⟩)
 all_goals
  go_wp2
  go_end0
  exact⟨rfl,K⟩
abbrev tV(w0:È)(b:Nat)(F:Fo)(o z:UInt8):Prop:=∀(bs:List UInt8)(rest:List Td)(w:È),ſ bs+(cm F.R).length+2<=500000->a7 w0 b bs (F.N++rest) w->
 Ø prog 207 #[Ô (É ⟨b,0,Ç⟩),Á Â (F.len:Int),Á .u8 (o.toNat:Int),Á .u8 (z.toNat:Int)] w λe a=>e=Ê (Ú #[])/\a7 w0 b (bs++o::(cm F.R++[z])) rest a
theorem Ti{O b F}(tx)(hK:tV O b F 91 93):iJ O b ⟨4,tx,(F.len:Int)⟩ F:=by
 intro D B w E L;obtain⟨A,c,h⟩:=L;have I:=aa (mJ h);have H:Hid (bh ⟨4,tx,(F.len:Int)⟩ F.R=91::(cm F.R++[93])):=rfl;rw[H.o]at E⊢;have G:=aa hK;simp only[Î,Å,Þ]at E;go_in;go_wp2_with fail;refine I.o.mono ?_;rintro e C⟨rfl,M,N,K⟩;have J:Hid (∀W:È,Ì C C W->Cp 207 #[Ô b,(F.len:Int),Á .u8 91,Á .u8 93] W λe U=>e=Ê (Ú #[])/\a7 O b (D++91::(cm F.R++[93])) B U):=λW S=>G.o D B W (by omega) ⟨_,_,K.grew S⟩
 go_wp2_with fail;refine ai (J.o _ (aC C _)) λV P=>?_
 go_wp2
 go_end0
 exact⟨rfl,P⟩
theorem Th{d b F}(tx)(hK:tV d b F 40 41):iJ d b ⟨3,tx,(F.len:Int)⟩ F:=by
 intro I B w P K;obtain⟨A,c,h⟩:=K;have O:=aa (mJ h);have M:Hid (bh ⟨3,tx,(F.len:Int)⟩ F.R=ae tx++40::(cm F.R++[41])):=rfl;rw[M.o]at P⊢;have L:=aa hK;simp only[Î,Å,Þ]at P;go_in;go_wp2_with fail;refine O.o.mono ?_;rintro e D⟨rfl,Z,a,J⟩
 have Q:Hid (∀W:È,Ì D D W->Cp 10 #[Ô b,À tx] W λe H=>(∃z,e=Ê (Ú #[z,á]))/\a7 d b (I++ae tx) (F.N++B) H/\Lib.OthersKept 5 (É b) W H):=λW g=>by
  refine(mL (J.grew g) tx (by omega) (by rw[<-aw];omega)).mono ?_;rintro e H⟨rfl,h,V⟩;exact⟨⟨_,rfl⟩,⟨_,_,h⟩,V⟩
 have E:Hid (∀W:È,a7 d b (I++ae tx) (F.N++B) W->Cp 207 #[Ô b,(F.len:Int),Á .u8 40,Á .u8 41] W λe H=>e=Ê (Ú #[])/\a7 d b ((I++ae tx)++40::(cm F.R++[41])) B H):=λW K=>L.o _ B W (by rw[Å];omega) K
 have U:b<D.heap.size:=J.x.lt;clear J O L;generalize F.len=fn at E M⊢;go_wp2_with fail
 go_region_with (go_at_call 10;refine(Q.o _ (jp D _)).mono ?_;rintro e Y⟨⟨z,rfl⟩,S,G⟩)
 all_goals
  have C:Y.heap[D.heap.size]?=É (Ã #[Á Â 3,À tx,(fn:Int)] 81 (0,0)):=G _ _ (ß D _) (by simp;omega) (λc i e=>by cases e);have X:=po C;clear C G;go_wp2_with fail;refine ai (E.o _ S) λj f=>?_
  go_wp2
  go_end0
  rw[Ð]at f;exact⟨rfl,f⟩
def tU(ds:List Td)(a:Option Addr)(cap:Nat)(F:Fo)(D:Tr):Prop:=∀i r,ds.drop i=F.N++r->∀W:È,aG W a ds->nB ds a cap i D W
def qY(ds:List Td)(a:Option Addr)(cap:Nat):Fo->Prop
 | .nil=>True
 | .cons x k n=>tU ds a cap (.cons x k n) (ap x k.D)/\qY ds a cap n
def ju(w:È)(b:Nat)(o:Int)(t:ByteArray)(n:Int):Prop:=b<w.heap.size/\w.cell? ⟨b,0,Ç⟩=É (Á Â o)/\w.cell? ⟨b,1,Ç⟩=É (À t)/\w.cell? ⟨b,2,Ç⟩=É (Á Â n)
theorem ju.W{w w' b o t n}(h:ju w b o t n)(E:Ì w w w'):ju w' b o t n:=by
 obtain⟨A,B,C,D⟩:=h
 have:=E.size
 exact⟨by omega,((a9 E).1 _ _ A).trans B,((a9 E).1 _ _ A).trans C,((a9 E).1 _ _ A).trans D⟩
theorem ju.new(w:È)(o:Int)(t)(n:Int)(C):ju (w.alloc (Ã #[o,À t,n] C)) w.heap.size o t n:=by
 have A:(w.alloc (Ã #[o,À t,n] C)).heap[w.heap.size]?=É (Ã #[o,À t,n] C (0,0)):=by
  show(w.heap.push _)[w.heap.size]?=_
  simp
 have B:∀k,(w.alloc (Ã #[Á Â o,À t,Á Â n] C)).cell? ⟨w,k,Ç⟩=(match (w.alloc (Ã #[Á Â o,À t,Á Â n] C)).heap[w.heap.size]? with
  | some (Ã c _ _)=>c[k]?
  | _=>Ç):=λ_=>rfl
 exact⟨by rw[Ä];omega,by rw[B,A];rfl,by rw[B,A];rfl,by rw[B,A];rfl⟩
structure cc(W:È)(x:Td)(w:È):Prop where
 b:Ì W W w
 n:ju w W.heap.size x.op x.tx x.n
 bl:aM w (Æ (É ⟨W.heap.size+1,0,Ç⟩) 1 1) [⟨2,⟨#[]⟩,0⟩]
 sf:aM w (Æ (É ⟨W.heap.size+1+1,0,Ç⟩) 1 1) [⟨3,⟨#[]⟩,0⟩]
 gr:ju w (W.heap.size+1+1+1) 8 ⟨#[]⟩ 0
 dp:ju w (W.heap.size+1+1+1+1) 7 ⟨#[]⟩ 2
theorem cc.W{W x w w'}(h:cc W x w)(A:Ì w w w'):cc W x w':=
 ⟨aH h.b Zl A,h.n.W A,h.bl.W A,h.sf.W A,h.gr.W A,h.dp.W A⟩
abbrev l9(W:È)(o:Int)(t:ByteArray)(n:Int):È:=((((W.alloc (Ã #[Á Â o,À t,Á Â n] 81)).alloc (Ã #[Á Â 2,À ⟨#[]⟩,Á Â 0] 150)).alloc (Ã #[Á Â 3,À ⟨#[]⟩,Á Â 0] 150)).alloc (Ã #[Á Â 8,À ⟨#[]⟩,Á Â 0] 150)).alloc (Ã #[Á Â 7,À ⟨#[]⟩,Á Â 2] 150)
theorem pE(W x):cc W x (l9 W x.op x.tx x.n):=by
 have s:∀(w:È)(O:Obj),Ì w w (w.alloc O):=λw O=>(Ë _ w).alloc Zl O
 have G:=((((ju.new W x.op x.tx x.n 81).W (s _ (Ã #[Á Â 2,À ⟨#[]⟩,Á Â 0] 150))).W (s _ (Ã #[Á Â 3,À ⟨#[]⟩,Á Â 0] 150))).W (s _ (Ã #[Á Â 8,À ⟨#[]⟩,Á Â 0] 150))).W (s _ (Ã #[Á Â 7,À ⟨#[]⟩,Á Â 2] 150));generalize M:Ã #[x.op,À x.tx,x.n] 81=O at G;have I:(W.alloc O).heap.size=W.heap.size+1:=Ä _ _;have C:=(cY.one (W.alloc O) ⟨2,⟨#[]⟩,0⟩).val;have J:((W.alloc O).alloc (Ã #[Á Â 2,À ⟨#[]⟩,Á Â 0] 150)).heap.size=W.heap.size+1+1:=by rw[Ä,I]
 rw[I]at C;have A:=((C.W (s _ (Ã #[Á Â 3,À ⟨#[]⟩,Á Â 0] 150))).W (s _ (Ã #[Á Â 8,À ⟨#[]⟩,Á Â 0] 150))).W (s _ (Ã #[Á Â 7,À ⟨#[]⟩,Á Â 2] 150));have H:=(cY.one ((W.alloc O).alloc (Ã #[Á Â 2,À ⟨#[]⟩,Á Â 0] 150)) ⟨3,⟨#[]⟩,0⟩).val;rw[J]at H;have K:(((W.alloc O).alloc (Ã #[Á Â 2,À ⟨#[]⟩,Á Â 0] 150)).alloc (Ã #[Á Â 3,À ⟨#[]⟩,Á Â 0] 150)).heap.size=W.heap.size+1+1+1:=by rw[Ä,J]
 have B:=(H.W (s _ (Ã #[Á Â 8,À ⟨#[]⟩,Á Â 0] 150))).W (s _ (Ã #[Á Â 7,À ⟨#[]⟩,Á Â 2] 150));have E:=ju.new (((W.alloc O).alloc (Ã #[Á Â 2,À ⟨#[]⟩,Á Â 0] 150)).alloc (Ã #[Á Â 3,À ⟨#[]⟩,Á Â 0] 150)) 8 ⟨#[]⟩ 0 150;rw[K]at E;have N:((((W.alloc O).alloc (Ã #[Á Â 2,À ⟨#[]⟩,Á Â 0] 150)).alloc (Ã #[Á Â 3,À ⟨#[]⟩,Á Â 0] 150)).alloc (Ã #[Á Â 8,À ⟨#[]⟩,Á Â 0] 150)).heap.size=W.heap.size+1+1+1+1:=by rw[Ä,K]
 have D:=ju.new ((((W.alloc O).alloc (Ã #[Á Â 2,À ⟨#[]⟩,Á Â 0] 150)).alloc (Ã #[Á Â 3,À ⟨#[]⟩,Á Â 0] 150)).alloc (Ã #[Á Â 8,À ⟨#[]⟩,Á Â 0] 150)) 7 ⟨#[]⟩ 2 150;rw[N]at D
 have L:Ì W W (l9 W x.op x.tx x.n):=by
  refine(((((Ë _ W).alloc Zl _).alloc ?_ _).alloc ?_ _).alloc ?_ _).alloc ?_ _<;>simp only[Ä]<;>omega
 subst M;exact⟨L,G,A,B,E.W (s _ _),D⟩
theorem zw{p a j}(u:iP p){x k n}(E:(Fo.cons x k n).ok)(s:ma x)(q:x.op=1\/x.op=2):tU p a j (.cons x k n) (ap x k.D):=by
 intro i r O W N;obtain⟨c,M,_,_,_⟩:=jq O E;obtain⟨b,o,rfl,f,U,V,X⟩:=N i c;have g:=u.l;have Z:(i:Int)<(ſ p:Int):=by omega
 rw[M]at U V X;have B:Hid (cc W x (l9 W x.op x.tx x.n)):=pE W x;obtain⟨h,J,Y⟩:=x;simp only at U V X B q;rcases iE s with⟨A,Q,G,H,_⟩|⟨A,_,I,_⟩|⟨A,_⟩|⟨A,_⟩|⟨A,_⟩|⟨A,_⟩
 .simp only at A G H;subst A;obtain⟨m,rfl⟩:∃m:Nat,Y=(m:Int):=⟨Y.toNat,by omega⟩;have L:Hid (ap ⟨1,J,(m:Int)⟩ k.D=bD (aA m)):=by show _=_;simp[ap]
  have P:m<=999999:=by omega
  clear M O E s q Q G H N;unfold nB;rw[L.o];have S:Hid (∀W:È,Cw 19 #[(m:Int)] W (À (ab (aA m)))):=λW=>qz m P W
  show Ø _ _ _ _ λe t=>bK W [⟨1,ab (aA m),0⟩] e t
  generalize ab (aA m)=T at S⊢;go_in;go_wp2_with fail;refine an (S.o _) ?_;go_wp2_with fail;refine(iW _ _).mono ?_;rintro e R C;have K:Hid (bK W [⟨1,T,0⟩] e R):=C.from B.o.b;obtain⟨d,rfl,_,_⟩:=C.val;clear C;go_wp2;go_ret;exact K.o
 .simp only at A I;subst A I;have L:Hid (ap ⟨2,J,0⟩ k.D=bD (ae J)):=by show _=_;simp[ap]
  clear M O E s q N;unfold nB;rw[L.o];show Ø _ _ _ _ λe t=>bK W [⟨1,J,0⟩] e t
  go_in;go_wp2_with fail;refine(iW _ _).mono ?_;rintro e R C;have K:Hid (bK W [⟨1,J,0⟩] e R):=C.from B.o.b;obtain⟨d,rfl,_,_⟩:=C.val;clear C;go_wp2;go_ret;exact K.o
 .simp only at A;omega
 .simp only at A;omega
 .simp only at A;omega
 .simp only at A;omega
theorem R7(n:Nat)(O:0<n)(P:n<=1000000)(w:È):
  Ø prog 283 #[Æ Ç 0 0,(n:Int)] w λe N=>∃c,e=Ê (Æ w.heap.size 0 c)/\cY w.heap.size (Æ w.heap.size 0 c) [] N/\Ì w w N:=by
 obtain⟨I,K,H,L,D⟩:=info_parts Ij
 have A:∀M,(Builtin.append_ #[117,3] M #[Æ Ç 0 0,(n:Int)]).run prog w=
   .ok (Æ w.heap.size n (à w n 0 150)) (w.drew.alloc (Ã (#[]++Builtin.zeroCells (Ó #[Á Â 0,À ⟨#[]⟩,Á Â 0]).cells n++Builtin.zeroCells (Ó #[Á Â 0,À ⟨#[]⟩,Á Â 0]).cells (à w n 0 150-n)) 150)):=λM=>by
  have C:(Builtin.firstCells I.size 0 (Æ Ç 0 0)).run prog w.drew=.ok ([]:List Value).toArray w.drew:=run_firstCells_none w.drew I.size 0 0 0;have h:=Lib.run_append_grow_zeros w 117 3 M 150 I _ Â Â Tryz.underlying117 Tryz.underlying3 K H Ç 0 0 [] C n O (by omega) (by omega) (by omega) (by rw[D];omega) (growslice_fits (by omega) (by rw[D];omega));simp only[Nat.zero_add]at h;exact h
 have E:n<=à w n 0 150:=grownCap_ge w _ _ _;have B:=grownCap_le_maxLen w n 0 150 (by unfold maxLen;omega);generalize à w n 0 150=G at A E B
 have J:Hid (cY w.heap.size (Æ w.heap.size 0 G) [] (w.drew.alloc (Ã (#[]++Builtin.zeroCells (Ó #[Á Â 0,À ⟨#[]⟩,Á Â 0]).cells n++Builtin.zeroCells (Ó #[Á Â 0,À ⟨#[]⟩,Á Â 0]).cells (G-n)) 150))):=by
  refine⟨rfl,.inr ⟨w.heap.size,G,_,rfl,Ï _,ß w.drew _,Û _,B,?_,rfl⟩⟩;simp only[Array.size_append,size_zeroCells,Array.size_empty];show 0+n*3+(G-n)*3=G*3;omega
 generalize(#[]++Builtin.zeroCells (Ó #[Á Â 0,À ⟨#[]⟩,Á Â 0]).cells n++Builtin.zeroCells (Ó #[Á Â 0,À ⟨#[]⟩,Á Â 0]).cells (G-n))=Z at A J
 go_in;go_wp2_with(at_builtin;refine Lib.wpList_append_run _ rfl _ _ _ _ rfl _ _ rfl rfl _ _ (A _) ?_);go_ret;exact⟨G,rfl,J.o,Below.drew (Zb.alloc Zl _)⟩
def nC(w:È)(a:Option Addr)(ps:List (List Nd)):Prop:=
 ∀i(h:i<ſ ps),∃b o c d,a=É ⟨b,o,Ç⟩/\b<w.heap.size/\w.cell? ⟨b,o+i,Ç⟩=É (Æ c ps[i].length d)/\aS w c ps[i]/\(c=Ç->ps[i].length=0/\d=0)
theorem nC.W{w w' a ps}(h:nC w a ps)(I:Ì w w w'):nC w' a ps:=by
 intro i H;obtain⟨b,o,B,C,e,A,D,E,G⟩:=h i H;exact⟨b,o,B,C,e,Nat.lt_of_lt_of_le A I.size,(I.cell (p:=⟨b,_,Ç⟩) A).trans D,E.W I,G⟩
theorem Jv{ps:List (List Nd)}{i}(h:i<ſ ps):(ps.take (i+1)).flatten=(ps.take i).flatten++ps[i]:=by
 rw[List.take_succ_eq_append_getElem h,Ü];simp
theorem xU(ps:List (List Nd))(i):(ps.take i).flatten.length<=ſ ps.flatten:=by grind [Ü,List.take_append_drop,Å]
structure wg(w:È)(ps:List (List Nd))(i:Nat)(v:Value)(wr:È):Prop where
 le:i<=ſ ps
 o:cY w.heap.size v (ps.take i).flatten wr
 b:Ì w w wr
theorem I6(ps a c)(w:È)(hP:nC w a ps)(h0:0<ſ ps.flatten)(hl:ſ ps.flatten<=900000)(hp:ſ ps<=10):
  Ø prog 270 #[Æ a (ſ ps) c] w λe a=>∃A b,e=Ê (Æ A (ſ ps.flatten) b)/\cY w.heap.size (Æ A (ſ ps.flatten) b) ps.flatten a/\Ì w w a:=by
 have t:=aa hP;have q:=aa (R7 (ſ ps.flatten) h0 (by omega) w);generalize hN:ſ ps.flatten=N at q h0 hl⊢;have P:=aa hN;go_in;go_wp2_with fail
 go_loopw [3,11] (λs x wr=>w=wr/\∃i:Nat,i<=ſ ps/\x=(i:Int)/\s=((ps.take i).flatten.length:Int)) (λ_ x _=>ſ ps-(Ù x).toNat)
 case atStart=>exact⟨rfl,0,Û _,rfl,rfl⟩
 case round=>
  obtain⟨rfl,i,hi,rfl,rfl⟩:=hrel;by_cases B:i<ſ ps
  .have K:(i:Int)<(ſ ps:Int):=by omega
   obtain⟨b0,o0,l,y,rfl,j,h,_,_⟩:=t.o i B;have D:=congrArg ã (Jv B);rw[Å]at D;have G:=xU ps (i+1);rw[P.o]at G;have M:=(show Hid (_=_)from D);have V:(ps.take i).flatten.length+ps[i].length<=900000:=by omega
   generalize ps[i].length=pn at M h V
   generalize(ps.take i).flatten.length=sn at M V⊢
   go_wp2;refine⟨⟨trivial,i+1,B,by go_num,?_⟩,?_⟩
   .rw[M.o];go_num
   .simp[Ù];omega
  .have K:¬(i:Int)<(ſ ps:Int):=by omega
   have J:(ps.take i).flatten.length=N:=by rw[Ö (by omega)];exact P.o
   rw[J];go_wp2_with fail;refine q.o.mono ?_;rintro e w1⟨c1,rfl,S,u⟩;have d:Hid (wg w ps 0 (Æ w.heap.size 0 c1) w1):=⟨Û _,S,u⟩;clear S u;go_wp2_with fail
   go_loopw [6,27] (λv x a=>∃(i:Nat)(A:Option Addr)(n c:Nat),x=(i:Int)/\v=Æ A n c/\n=(ps.take i).flatten.length/\wg w ps i (Æ A n c) a) (λ_ x _=>ſ ps-(Ù x).toNat)
   case atStart=>exact⟨0,_,_,_,rfl,rfl,rfl,d.o⟩
   case round=>
    obtain⟨i,A,n,c2,rfl,rfl,L,O⟩:=hrel;have G:=xU ps i;rw[P.o,<-L]at G;by_cases B:i<ſ ps
    .have K:(i:Int)<(ſ ps:Int):=by omega
     obtain⟨b0,o0,l,y,rfl,j,h,hT,I⟩:=t.o.W O.b i B;have D:=Jv B;have H:=xU ps (i+1);rw[D,Å,P.o,<-L]at H;have M:=(show Hid (_=_)from D);have Y:=aa O.o;have Z:=aa O.b;have X:=O.b.size;have HT:=aa hT;have Q:=aa I;have r:=aa L.symm;have f:Hid (∃m,ps[i].length=m):=⟨_,rfl⟩;generalize U:ps[i].length=pn at h H Q;have R:=aa U;clear D hT I L O U f G;go_wp2_with(at_builtin;refine rN rfl _ _ rfl w.heap.size _ (ps.take i).flatten rfl Y.o l pn ps[i] R.o y rfl HT.o Q.o (n+pn) (by rw[r.o]) (by omega) X ?_);intro p z w3 E C
     have g:Hid (wg w ps (i+1) (Æ p (n+pn) z) w3):=by
      refine⟨B,?_,Z.o.grown C X (λk a=>(Ñ Y.o k a).1)⟩;rw[M.o];exact E
     clear E C;go_wp2;refine⟨⟨i+1,p,n+pn,z,by go_num,rfl,?_,g.o⟩,?_⟩
     .rw[M.o,Å,r.o,R.o]
     .simp[Ù];omega
    .have K:¬(i:Int)<(ſ ps:Int):=by omega
     have J:ps.take i=ps:=Ö (by omega);obtain⟨_,ho,hb⟩:=O;rw[J]at ho L;rw[P.o]at L;subst L;have Y:=aa ho;have Z:=aa hb;go_wp2;go_ret;exact⟨A,c2,rfl,Y.o,Z.o⟩
theorem ot(g a l)(r:ſ g<=400):∀(f i:Nat)(w:È),aS w a g->ſ g-i<f->i<=1000->
  Cw 158 #[Æ a (ſ g) l,Á Â i] w (Á Â (lU (bB g i 1))):=by
 unfold Cw;intro f
 induction f with
 | zero=>intro i w _ h;omega
 | succ f ih=>
  intro i w M Z c;have K:Hid (aS w a g):=M
  have P:Hid (∀(i:Nat)(w:È),aS w a g->ſ g-i<f->i<=1000->
   Ø prog 158 #[Æ a (ſ g) l,Á Â i] w λe n=>e=Ê (Á Â (lU (bB g i 1)))/\w=n):=ih
  clear M ih;by_cases C:i<ſ g
  .obtain⟨b,o,S,Y,X,Q,R⟩:=K.o i C;have L:Hid (bB g i 1=bB g (i+1) (dL g[i].op)):=Js _ _ 0 C;have N:=wX g[i].op;generalize D:dL g[i].op=p at L N;have O:Hid (dL g[i].op=p):=D;subst S;clear Q R D;go_in;go_wp2_with(go_at_call 206;refine(N9 _ _).mono ?_;rintro e n⟨rfl,rfl⟩;rw[O.o])
   go_loopw [1,5] (λz m wr=>wr=w/\∃q:Nat,q<=2/\m=Á Â q/\((∃k:Nat,i<k/\k<=ſ g/\z=Á Â k/\bB g i 1=bB g k q)\/(z=Á Â (-1)/\bB g i 1=Ç))) (λ_ m _=>(Ù m).toNat)
   case atStart=>exact⟨rfl,p,N,rfl,.inl ⟨i+1,by omega,by omega,by go_num,L.o⟩⟩
   case round=>
    obtain⟨rfl,q,d,rfl,⟨k,V,W,rfl,B⟩|⟨rfl,B⟩⟩:=hrel
    .have A:Hid (bB g i 1=bB g k q):=B;clear B;by_cases G:q=0
     .subst G;have H:Hid (bB g i 1=É k):=A.o.trans (Jt _ _);go_wp2;go_ret;exact⟨by rw[H.o];rfl,rfl⟩
     .obtain⟨E,rfl⟩:∃E,q=E+1:=⟨q-1,by omega⟩;have J:Hid (bB g i 1=(bB g k 1).bind λj=>bB g j E):=A.o.trans (by rw[Nat.add_comm E 1,RE]);clear G;go_wp2_with(go_at_call 158;refine(P.o k _ K.o (by omega) (by omega)).mono ?_;rintro e n⟨rfl,rfl⟩)
      go_roundw
      case rel=>
       refine⟨by trivial,E,by omega,by go_num,?_⟩;cases I:bB g k 1 with
       | none=>exact .inr ⟨rfl,by rw[J.o,I];rfl⟩
       | some j=>
        have U:=zz I;exact .inl ⟨j,by omega,by omega,rfl,by rw[J.o,I];rfl⟩
      case measure=>simp[Ù]
    .have A:Hid (bB g i 1=Ç):=B;clear B;by_cases G:q=0
     .subst G;go_wp2;go_ret;exact⟨by rw[A.o];rfl,rfl⟩
     .go_wp2;go_ret;exact⟨by rw[A.o];rfl,rfl⟩
  .have A:Hid (bB g i 1=Ç):=CD _ _ _ (by omega);go_in;go_wp2;go_ret;exact⟨by rw[A.o];rfl,rfl⟩
def gB(ds:List Nd)(a:Option Addr)(cap:Nat)(A:List Nd)(sA:ByteArray)(fA:Bool):Prop:=∀(i:Nat)(r:List Nd)(w:È),ds.drop i=A++r->aS w a ds->
  Ø prog 159 #[Æ a (ſ ds) cap,Á Â i] w λe w'=>e=Ê (Ú #[À sA,Ý fA])/\Ì w w w'
theorem Uk(e a d)(u:ſ e<=400)(tx n A C l m g h)(q:gB e a d A l g)(s:gB e a d C m h)(V:l.size<=8800)(X:m.size<=8800)(t:∀i r,e.drop i=A++r->bB e i 1=É (i+ſ A)):gB e a d (⟨6,tx,n⟩::(A++C)) (if(g&&h)=true then l++m else⟨#[]⟩) (g&&h):=by
 intro i r w R K;obtain⟨S,O,P⟩:=fg (x:=⟨6,tx,n⟩) (r:=(A++C)++r) R;obtain⟨Z,c,Q,U,H,I,J⟩:=K i S;subst Q;rw[O]at H I J;dsimp only at H I J;have D:=aa P;have E:=aa K;have L:=aa q;have M:=aa s;have G:Hid (((i+1:Nat):Int)=(i:Int)+1):=(show _=_ by omega);rw[Ð]at D;have N:=aa (t (i+1) (C++r) D.o);have B:=aa (pX D.o);cases g<;>cases h
 all_goals
  go_in;go_wp2_with fail;rw[<-G.o];refine ai (L.o (i+1) (C++r) _ D.o E.o) λp f=>?_
  go_wp2_with fail;rw[<-G.o];refine an (ot e _ d u (ſ e+1) (i+1) p (E.o.W f) (by omega) (by omega)) ?_;rw[N.o];have Y:lU (É (i+1+ſ A))=((i+1+ſ A:Nat):Int):=rfl;rw[Y];generalize b:i+1+ſ A=j at B⊢;go_wp2_with fail;refine ai (M.o j r p B.o (E.o.W f)) λv k=>?_
  go_wp2;go_ret2;exact⟨rfl,aH f Zl k⟩
theorem Ug(O a N tx n):gB O a N (⟨2,tx,n⟩::[]) (⟨#[32]⟩) (true):=by
 intro i r w H G;obtain⟨I,D,L⟩:=fg (x:=⟨2,tx,n⟩) (r:=[]++r) H;obtain⟨K,M,E,J,A,B,C⟩:=G i I;subst E;rw[D]at A B C;dsimp only at A B C;go_in;go_wp2;go_ret2;exact⟨rfl,Ë _ _⟩
theorem Uh(O a N tx n):gB O a N (⟨3,tx,n⟩::[]) (⟨#[]⟩) (true):=by
 intro i r w H G;obtain⟨I,D,L⟩:=fg (x:=⟨3,tx,n⟩) (r:=[]++r) H;obtain⟨K,M,E,J,A,B,C⟩:=G i I;subst E;rw[D]at A B C;dsimp only at A B C;go_in;go_wp2;go_ret2;exact⟨rfl,Ë _ _⟩
theorem Ui(O a N tx n):gB O a N (⟨4,tx,n⟩::[]) (⟨#[]⟩) (false):=by
 intro i r w H G;obtain⟨I,D,L⟩:=fg (x:=⟨4,tx,n⟩) (r:=[]++r) H;obtain⟨K,M,E,J,A,B,C⟩:=G i I;subst E;rw[D]at A B C;dsimp only at A B C;go_in;go_wp2;go_ret2;exact⟨rfl,Ë _ _⟩
theorem Uj(O a N tx n):gB O a N (⟨5,tx,n⟩::[]) (⟨#[]⟩) (true):=by
 intro i r w H G;obtain⟨I,D,L⟩:=fg (x:=⟨5,tx,n⟩) (r:=[]++r) H;obtain⟨K,M,E,J,A,B,C⟩:=G i I;subst E;rw[D]at A B C;dsimp only at A B C;go_in;go_wp2;go_ret2;exact⟨rfl,Ë _ _⟩
theorem Uf(O a N tx n):gB O a N (⟨1,tx,n⟩::[]) (tx) (true):=by
 intro i r w H G;obtain⟨I,D,L⟩:=fg (x:=⟨1,tx,n⟩) (r:=[]++r) H;obtain⟨K,M,E,J,A,B,C⟩:=G i I;subst E;rw[D]at A B C;dsimp only at A B C;go_in;go_wp2;go_ret2;exact⟨rfl,Ë _ _⟩
