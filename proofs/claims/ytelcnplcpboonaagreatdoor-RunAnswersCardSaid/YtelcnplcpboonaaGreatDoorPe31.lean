import Derived.Test.YtelcnplcpboonaaGreatDoorPe24
import Derived.Test.YtelcnplcpboonaaGreatDoorPe23
import Derived.Test.YtelcnplcpboonaaGreatDoorPe26
open Go.Proofs.Tryz
open List renaming length->ſ
open Go.Value renaming pointer->À,string->Á,slice->Æ,int->Í,bool->Ò,tuple->Ó
open Go renaming World->Â,Calls->Ñ
open Option renaming some->Ã,none->É
open Go.RowKit.Below renaming refl->Ä
open List renaming getElem_mem->Å,length_cons->È,replicate->Ë,length_append->Ì,take_of_length_le->Î
open Go.RowKit renaming Below->Ç,intOf->Ð
open Go.IntKind renaming i64->Ê
open Nat renaming zero_le->Ï
namespace Go.Proofs.YtelcnplcpboonaaGreatDoor
open Go Go.RowKit
set_option maxRecDepth 100000
set_option maxHeartbeats 1000000
def Laid(B b:Nat)(dv:Value)(res:Except Int (List UInt8 × List Int))(s0:ByteArray)(w':Â):Prop:=
 match res with
 | .ok (u,ws')=>∃wa' wc' s',s'.data.toList=s0.data.toList++u/\di B b dv (Æ wa' (ſ ws') wc') s' 0 w'/\eK B w' wa' ws'/\(ſ ws')<=wc'
 | .error e=>e≠0/\∃v' s',di B b dv v' s' e w'
def iI(B b:Nat)(ds:List Nd)(a:Option Addr)(cap:Nat)(A:List Nd)(f:Nat->List Int->Except Int (List UInt8 × List Int)):Prop:=
 ∀(i:Nat)(r:List Nd)(deep:Nat)(ws:List Int)(wa:Option Addr)(wc:Nat)(s:ByteArray)(w:Â),ds.drop i=A++r->kp B w a ds->eK B w wa ws->ſ ws<=wc->di B b (Æ a (ſ ds) cap) (Æ wa (ſ ws) wc) s 0 w->
  deep+8*ſ A<=3300->s.size+4000*ſ A<=1000000000->
  Ñ prog 126 #[À (Ã ⟨b,0,É⟩),Í Ê i,Í Ê deep] w λe w'=>e=.returned (Ó #[])/\Laid B b (Æ a (ſ ds) cap) (f deep ws) s w'/\Ç B w w'
theorem di.bsize{B b d v s e w}(h:di B b d v s e w):B<=w.heap.size:=by
 obtain⟨A,C,_⟩:=h;omega
theorem di.grown{B b d v s e}{w:Â}{A}(_h:di B b d v s e w)(C:Ç w w A):Ç B w A:=by
 have:=_h.bsize
 exact C.mono this
theorem RZ{B b}(W a V){v s e}(i:Nat)(A:Int)(w)(hi:i<ſ W)(Y:kp B w a W)(h:di B b (Æ a (ſ W) V) v s e w)(Z:e≠0):
  Ñ prog 126 #[À b,i,A] w λr X=>r=.returned (Ó #[])/\di B b (Æ a (ſ W) V) v s e X/\Ç B w X:=by
 have C:=aa h;obtain⟨G,U,D,E,L,M,N⟩:=Y i hi;subst D;obtain⟨R,S,H,I,J,K,O,P,Q⟩:=h;go_in;go_wp2;exact bodyPost_ret (v:=Ó #[]) (by simp[results,Tryz.results126,go_sem]) rfl ⟨rfl,C.o.alloc _,Zb.alloc C.o.bsize _⟩
set_option maxHeartbeats 4000000
def fU(ds:List Td):Prop:=∀x∈ds,x.tx.size<=140737488351232
theorem S0(x)(w:Â):Cb 221 #[fk x] w (eU x):=by
 unfold Cb;obtain⟨A,J,n⟩:=x;have B:∀O:Obj,Ç w w (w.alloc O):=λO=>(Ä _ w).alloc Zl O
 by_cases C:A=3
 .subst C;go_in;go_wp2;go_ret;exact⟨by simp[eU],B _⟩
 by_cases D:A=4
 .subst D;go_in;go_wp2;go_ret;exact⟨by simp[eU],B _⟩
 by_cases E:A=5
 .subst E;go_in;go_wp2;go_ret;exact⟨by simp[eU,aE],B _⟩
 by_cases G:A=6
 .subst G;go_in;go_wp2;go_ret;exact⟨by simp[eU,aE],B _⟩
 by_cases H:A=7
 .subst H;go_in;go_wp2;go_ret;exact⟨by simp[eU,aE],B _⟩
 by_cases I:A=8
 .subst I;go_in;go_wp2;go_ret;exact⟨by simp[eU,aE],B _⟩
 have K:Hid (eU ⟨A,J,n⟩=0):=by show eU ⟨A,J,n⟩=0;simp[eU,aE,C,D,E,G,H,I]
 go_in;go_wp2;go_ret;exact⟨by rw[K.o];rfl,B _⟩
theorem VE(x)(h:aq x=0)(w:Â):Cb 221 #[.agg #[x.op,Á x.tx,x.n]] w (aE x:Int):=by
 unfold Cb;have:=S0 x w
 rw[Id h]at this;exact this
def mg(o:Option Nat)(j:Nat)(b:Bool):Prop:=o=if b=true then Ã j else É
def L2(ds:List Td)(i:Nat)(e:Ending):Prop:=∃(j:Nat)(b:Bool),e=.returned (Ó #[Í Ê (j:Int),Ò b])/\mg (bJ ds i 1) j b
theorem mg.yes{o j}(h:o=Ã j):mg o j true:=h
theorem mg.no{o j}(h:o=É):mg o j false:=h
theorem Ov(c a f)(l:ſ c<=40)(h:∀x∈c,aq x=0)(i:Nat)(hi:i<=ſ c)(w:Â)(g:aG w a c):
  Ñ prog 194 #[Æ a (ſ c) f,i] w λe j=>L2 c i e/\Ç w w j:=by
 have N:=aa g;have L:=aa h;go_in;go_wp2
 go_loopw [1,6] (λz m wr=>Ç w w wr/\∃k q:Nat,k<=ſ c/\q<=1+6*k/\z=(k:Int)/\m=(q:Int)/\bJ c i 1=bJ c k q) (λz _ _=>ſ c-(Ð z).toNat)
 case atStart=>exact⟨Ä _ _,i,1,hi,by omega,rfl,rfl,rfl⟩
 case round=>
  obtain⟨I,k,q,V,Z,rfl,rfl,U⟩:=hrel;have G:=aa U;have A:=aa I;by_cases S:q=0
  .subst S
   have H:Hid (bJ c i 1=Ã k):=by
    show _=_;rw[G.o,CE]
   go_wp2;go_ret2;exact⟨⟨k,true,rfl,mg.yes H.o⟩,A.o⟩
  .obtain⟨p,rfl⟩:∃p,q=p+1:=⟨q-1,by omega⟩;have D:((p+1:Nat):Int)=(p:Int)+1:=by omega
   have X:=beq_false_of_ne (by omega);by_cases B:k<ſ c
   .have K:(k:Int)<(ſ c:Int):=by omega
    obtain⟨b,o,R,Y,O,P,Q⟩:=(N.o.W A.o) k B;subst R;have J:=Ic (L.o _ (Å B));have C:Hid (∀W:Â,Cb 221 #[.agg #[c[k].op,Á c[k].tx,c[k].n]] W (aE c[k]:Int)):=λW=>VE _ (L.o _ (Å B)) W
    have M:Hid (bJ c i 1=bJ c (k+1) (aE c[k]+p)):=by
     show _=_;rw[G.o,xQ c k p B]
    generalize aE c[k]=d at J C M;generalize c[k].op=xo at O C;generalize c[k].tx=xt at P C;generalize c[k].n=xn at Q C;rw[D];go_wp2_with fail;refine ai (C.o _) λr b2=>?_
    have E:=aa (aH A.o Zl b2);go_wp2
    go_roundw
    case rel=>exact⟨E.o,k+1,d+p,by omega,by omega,by go_num,by go_num,M.o⟩
    case measure=>simp[Ð];omega
   .have K:¬(k:Int)<(ſ c:Int):=by omega
    have H:Hid (bJ c i 1=É):=by
     show _=_;rw[G.o,oH c k p (by omega)]
    rw[D];go_wp2;go_ret2;exact⟨⟨k,false,rfl,mg.no H.o⟩,A.o⟩
theorem VJ{w a c x r}(h:aG w a (x::r))(O:ſ r+1<=c):
  ∃A,(∀W:Â,(Instr.slice 82 (Æ a (ſ r+1) c) (Ã (Í Ê 1)) É É).run prog W=.ok (Æ A (ſ r) (c-1)) W)/\aG w A r:=by
 obtain⟨b,o,rfl,J,_,_,_⟩:=h 0 (by simp);refine⟨if c=1 then Ã ↑(b,o)else Ã ↑(b,o+3),λW=>?_,?_⟩
 .have H:=run_slice_l (P:=prog) W 82 (Ã ↑(b,o)) (ſ r+1) c Tryz.underlying82 Ê 1 (by omega) (by omega);rw[H];have L:(sizeOf (prog.elem 82)).run prog W=.ok 3 W:=by kernel_rfl
  rw[L];have I:((b,o):Addr).add 3=(b,o+3):=rfl;simp[Result.andThen,sliced,I]
 .by_cases e:c=1
  .have:r=[]:=List.eq_nil_of_length_eq_zero (by omega)
   subst this;exact λi E=>by simp at E
  .rw[if_neg e];intro i E;obtain⟨M,N,G,K,B,C,D⟩:=h (i+1) (by simp;omega);cases G;rw[show o+(i+1)*3=o+3+i*3 by omega]at B C D;exact⟨b,o+3,rfl,J,B,C,D⟩
theorem yV{x}(h:aq x=0):1<=x.op/\x.op<=9:=by
 unfold aq at h
 split at h
 .cases h
 .omega
def hU(ds:List Td):Bool:=decide (bJ ds 0 1=Ã (ſ ds))&&gK ds
theorem SY:hU []=false:=by
 have:bJ [] 0 1=none:=oH _ _ _ Zl
 simp[hU,this]
theorem OA{A}(C:ſ A<=40)(B:∀x∈A,aq x=0):ag A=if hU A=true then 0 else 2:=by grind [tF,hU,aq,ag]
theorem S3(ds a cap)(hl:ſ ds<=40)(hk:∀x∈ds,aq x=0)(w:Â)(hc:ſ ds<=cap)(hN:aG w a ds):
  Cb 152 #[Æ a (ſ ds) cap] w (Ò (hU ds)):=by
 unfold Cb;cases ds with
 | nil=>
  rw[SY];go_in;go_wp2;go_ret;exact⟨rfl,Ä _ _⟩
 | cons x r=>
  have d:=aa hN;have c:=aa hk;obtain⟨b,o,u,hb,s,_,_⟩:=hN 0 (by simp);have hx:=yV (hk x (by simp));have P:(x::r).length=ſ r+1:=rfl;rw[P]at hl hc⊢;have hp:¬(ſ r:Int)+1=0:=by omega
  have Ac:=beq_false_of_ne hp;have M:w.cell? (b,o)=Ã ↑x.op:=by simpa using s
  subst u;by_cases v:7<=x.op
  .have K:Hid (fb x.op=false):=by show fb x.op=false;simp[fb];omega
   obtain⟨A,Ad,z⟩:=VJ d.o hc;have p:=aa z;generalize Ae:x.op=xo at M K;go_in;go_wp2_with fail;refine an (tB xo _) ?_;rw[K.o];go_wp2_with fail
   go_loopw [20] (λi wr=>Ç w w wr/\∃k:Nat,k<=ſ r/\i=(k:Int)/\∀y∈r.take k,y.op<7) (λi _=>ſ r-(Ð i).toNat)
   case atStart=>exact⟨Ä _ _,0,Ï _,rfl,by simp⟩
   case round=>
    obtain⟨E,k,Ab,rfl,N⟩:=hrel;have D:=aa E;have I:Hid (∀O:Obj,Ç w w (wr.alloc O)):=λO=>E.alloc E.size O
    have Z:=aa N;by_cases H:k<ſ r
    .have Y:(k:Int)<(ſ r:Int):=by omega
     obtain⟨b1,o1,t,Aa,f,g,h⟩:=(p.o.W D.o) k H;subst t;have m:=yV (c.o r[k] (by simp));by_cases Q:r[k].op<7
     .have L:Hid (fb r[k].op=true):=by show fb r[k].op=true;simp[fb];omega
      have R:Hid (∀y∈r.take (k+1),y.op<7):=by
       intro y B;rw[List.take_succ_eq_append_getElem H]at B;rcases List.mem_append.1 B with B|B
       .exact Z.o y B
       .simp at B;subst B;exact Q
      generalize r[k].op=yo at f L;generalize r[k].tx=yt at g;generalize r[k].n=yn at h;go_wp2_with fail;refine an (tB yo _) ?_;rw[L.o];go_wp2
      go_roundw
      case rel=>exact⟨I.o _,k+1,by omega,by go_num,R.o⟩
      case measure=>simp[Ð];omega
     .have L:Hid (fb r[k].op=false):=by show fb r[k].op=false;simp[fb];omega
      have C:Hid (hU (x::r)=false):=by
       show _=_
       have:gK (x::r)=false:=by
        simp only[gK,Bool.and_eq_false_iff,List.all_eq_false];exact .inr ⟨r[k],Å H,by simp[Q]⟩
       simp[hU,this]
      generalize r[k].op=yo at f L;generalize r[k].tx=yt at g;generalize r[k].n=yn at h;go_wp2_with fail;refine an (tB yo _) ?_;rw[L.o];go_wp2;go_ret;exact⟨by rw[C.o];rfl,I.o _⟩
    .have Y:¬(k:Int)<(ſ r:Int):=by omega
     have J:Hid (gK (x::r)=true):=by
      show _=_;simp only[gK,Bool.and_eq_true,decide_eq_true_eq,List.all_eq_true];refine⟨by omega,λy m=>Z.o y ?_⟩;rw[Î (by omega)];exact m
     have S:=aa (Ov (x::r) _ cap hl c.o 0 (Ï _) wr (d.o.W D.o));go_wp2_with fail;refine S.o.mono ?_;rintro e w2⟨⟨j,q,rfl,G⟩,V⟩;have U:=aH D.o Zl V;cases q with
     | false=>
      have G:bJ (x::r) 0 1=none:=G
      have C:Hid (hU (x::r)=false):=by
       show _=_;simp[hU,G]
      go_wp2;go_ret;exact⟨by rw[C.o];rfl,U⟩
     | true=>
      have G:bJ (x::r) 0 1=Ã j:=G;by_cases l:(j:Int)=(ſ r:Int)+1
      .have C:Hid (hU (x::r)=true):=by
        show _=_
        have:j=ſ r+1:=by omega
        simp[hU,G,this,J.o]
       have X:=beq_iff_eq.2 l;go_wp2;go_ret;exact⟨by rw[C.o];rfl,U⟩
      .have C:Hid (hU (x::r)=false):=by
        show _=_
        have:¬j=ſ r+1:=by omega
        simp[hU,G,this]
       have X:=beq_false_of_ne l;go_wp2;go_ret;exact⟨by rw[C.o];rfl,U⟩
  .have K:Hid (fb x.op=true):=by show fb x.op=true;simp[fb];omega
   have C:Hid (hU (x::r)=false):=by
    show _=_
    have:gK (x::r)=false:=by simp[gK,v]
    simp[hU,this]
   generalize x.op=xo at M K;go_in;go_wp2_with fail;refine an (tB xo _) ?_;rw[K.o];go_wp2;go_ret;exact⟨by rw[C.o];rfl,Ä _ _⟩
theorem ss(d a e)(w:Â)(j:ſ d<=e)(h:aG w a d)(L:fU d):Cb 119 #[Æ a (ſ d) e] w (aF (ag d)):=by
 unfold Cb;have R:=aa h;have J:=aa L;by_cases Y:40<(ſ d:Int)
 .rw[BL (by omega),rp];go_in;go_wp2;go_ret;exact⟨rfl,Ä _ _⟩
 .have K:ſ d<=40:=by omega
  go_in;go_wp2
  go_loopw [12] (λi wr=>Ç w w wr/\∃k:Nat,k<=ſ d/\i=k/\∀x∈d.take k,aq x=0) (λi _=>ſ d-(Ð i).toNat)
  case atStart=>exact⟨Ä _ _,0,Ï _,rfl,by simp⟩
  case round=>
   obtain⟨G,k,c,rfl,D⟩:=hrel;have H:=aa D;have O:=aa (R.o.W G);by_cases A:k<ſ d
   .obtain⟨b,o,S,Z,U,V,X⟩:=O.o k A;have E:=J.o _ (Å A);subst S;by_cases Q:aq d[k]=0
    .have C:=aa Q;go_wp2_with fail;refine ai (DU d[k] _ E) λg f=>?_
     rw[C.o,cS];have B:=ji G Zl f;go_wp2
     go_roundw
     case rel=>exact⟨B,k+1,by omega,by go_num,BK A H.o C.o⟩
     case measure=>simp[Ð];omega
    .have C:=aa Q;go_wp2_with fail;refine ai (DU d[k] _ E) λg f=>?_
     rw[cN C.o];have B:=ji G Zl f;go_wp2;go_ret;refine⟨?_,B⟩;rw[BM K A H.o C.o,cN C.o];rfl
   .have N:Hid (∀x∈d,aq x=0):=by
     have:=H.o
     rw[Î (by omega)]at this;exact this
    have I:=aa (OA K N.o);have P:=aa (S3 d a e K N.o wr j O.o);generalize hU d=sb at I P;go_wp2_with fail;refine ai P.o λg b2=>?_
    have M:=aH G Zl b2;cases sb with
    | true=>
     go_wp2;go_ret;exact⟨by rw[I.o];rfl,M⟩
    | false=>
     go_wp2;go_ret;exact⟨by rw[I.o];rfl,M⟩
set_option maxHeartbeats 12000000
theorem vR(oq)(ho:oq=2\/oq=3\/oq=4)(B b ds a cap tx n):iI B b ds a cap (⟨oq,tx,n⟩::[]) (λa b=>.ok (10::Ë a 32,b)):=by
 have h:nE oq:=.mk;rcases ho with rfl|rfl|rfl
 all_goals
  intro i r deep ws j wc s w d c Z L G A K;obtain⟨f,V,t⟩:=fg (x:=⟨↑h,tx,n⟩) (r:=[]++r) d;obtain⟨k,o0,X,g,M,N,P⟩:=c i f;subst X;rw[V]at M N P;dsimp only at M N P;simp only[È,List.length_nil]at A K;have R:=aa Z;have U:=aa G;have I:=G.bsize;obtain⟨Y,h1,l,m,o,q,u,y,z⟩:=G;have H:deep<=4000:=by omega
  have J:((⟨(Ë deep 32).toArray⟩:ByteArray)).size=deep:=by rw[<-fu];simp
  generalize D:(⟨(Ë deep 32).toArray⟩:ByteArray)=bk at J;have E:Hid (bk.data.toList=Ë deep 32):=(show _=_ by rw[<-D]);have S:Hid (∀W:Â,Cp 161 #[deep] W λe Q=>e=.returned (Á bk)/\W=Q):=λW=>by rw[<-D];exact Ng deep H W
  go_in;go_wp2_with fail
  go_region_with (go_at_call 161;refine(S.o _).mono ?_;rintro e Q⟨rfl,rfl⟩)
  all_goals
   go_wp2
   go_end0
   have C:∀(O:Obj)(v:Value),Ç B w ((w.setCell (b,2) v).alloc O).drew:=λO v=>Below.drew (((Ä B w).setCell (p:=(b,2)) Y _).alloc (by rw[qD];exact I) O)
   refine⟨rfl,?_,C _ _⟩;refine⟨j,wc,_,?_,di.drew ((U.o.text _).alloc _),R.o.W (C _ _),L⟩;simp[E.o]
abbrev gQ(w0:Â)(b:Nat)(x:Td)(k:Fo):Prop:=∀(rest:List Td)(w:Â),eS w0 b (x::(k.N++rest)) w->
 Ñ prog 247 #[À (Ã ⟨b,0,É⟩)] w λe w'=>bY w0 b w (ap x k.D).N rest e w'
def ki(w0:Â)(b:Nat):Fo->Prop
 | .nil=>True
 | .cons x k n=>gQ w0 b x k/\ki w0 b n
theorem eS.in{C b B w}(h:eS C b B w):b<w.heap.size:=by
 obtain⟨A,c,h⟩:=h;exact h.in
theorem eS.lk{B b A w}(h:eS B b A w):Lk B b w A w:=⟨ak.refl _ _ _,h,h.in⟩
theorem CW{w0:Â}{b:Nat}:∀(K:Fo),ki w0 b K->K.len≠0->eR K.D<=1000->K.len<=1000->∀(r:List Td)(w:Â),eS w0 b (K.N++r) w->
  Ñ prog 285 #[À (Ã ⟨b,0,É⟩),Í Ê (K.len:Int)] w λe a=>bY w0 b w (df K.D).N r e a
 | .nil,_,h0,_,_,_,_,_=>absurd rfl h0
 | .cons y ky .nil,hE,_,_,_,r,w,hW=>by
  have HX:Hid (Cp 247 #[À (Ã ⟨b,0,É⟩)] w λe a=>bY w0 b w (ap y ky.D).N r e a):=hE.1 r w (by simpa[Fo.N]using hW);show Ñ prog 285 #[À (Ã ⟨b,0,É⟩),Í Ê 1] w λe w'=>bY w0 b w (ap y ky.D).N r e w'
  generalize(ap y ky.D).N=xs at HX⊢
  clear hE hW;go_in;go_wp2_with fail;refine HX.o.mono ?_;rintro e w1 h1;have HR:Hid (bY w0 b w xs r e w1):=h1;obtain⟨v1,rfl,_,_⟩:=h1.val;clear h1;go_wp2;go_ret;exact HR.o
 | .cons y ky (.cons z kz n),hE,_,hs,hkl,r,w,hW=>by
  have hs2:(ap y ky.D).N.length+eR (Fo.cons z kz n).D<=1000:=by
   rw[Fo.D,jc]at hs;have h:(ap y ky.D).N.length+5+eR (Fo.cons z kz n).D<=1000:=hs;omega
  have G:=nT (Fo.cons z kz n).D;have S:n.len<=1000:=by simp only[Fo.len]at hkl;omega
  have HX:Hid (Cp 247 #[À (Ã ⟨b,0,É⟩)] w λe a=>bY w0 b w (ap y ky.D).N ((Fo.cons z kz n).N++r) e a):=hE.1 _ w (by simpa[Fo.N]using hW)
  have J:Hid (∀W,eS w0 b ((Fo.cons z kz n).N++r) W->Cp 285 #[À (Ã ⟨b,0,É⟩),Í Ê ((n.len:Int)+1)] W λe a=>bY w0 b W (df (Fo.cons z kz n).D).N r e a):=λW hW=>by
   have h:=CW (.cons z kz n) hE.2 (by simp[Fo.len]) (by omega) (by simp only[Fo.len]at hkl⊢;omega) r W hW;have e:(((Fo.cons z kz n).len:Nat):Int)=(n.len:Int)+1:=by simp[Fo.len]
   rw[e]at h;exact h
  have A:Hid (Lk w0 b w ((Fo.cons y ky (.cons z kz n)).N++r) w):=hW.lk;have B:Hid ((df (Fo.cons y ky (.cons z kz n)).D).N=⟨6,⟨#[]⟩,0⟩::((⟨6,⟨#[]⟩,0⟩::((ap y ky.D).N++[⟨1,⟨#[44]⟩,0⟩]))++(⟨6,⟨#[]⟩,0⟩::([⟨2,⟨#[]⟩,0⟩]++(df (Fo.cons z kz n).D).N)))):=rfl;have E:(((Fo.cons y ky (.cons z kz n)).len:Nat):Int)=(n.len:Int)+1+1:=by simp[Fo.len]
  rw[E]
  generalize(df (Fo.cons y ky (.cons z kz n)).D).N=R at B⊢
  generalize(ap y ky.D).N=xs at HX B hs2
  generalize(df (Fo.cons z kz n).D).N=ks at J B G
  generalize(Fo.cons z kz n).N++r=r1 at HX J
  generalize(Fo.cons y ky (.cons z kz n)).N++r=r0 at A
  generalize eR (Fo.cons z kz n).D=sd at hs2 G;generalize n.len=nl at J S⊢;have q:((nl:Int)+1+1==1)=false:=by simp;omega
  clear hE hW hs hkl E;go_in;go_wp2_with fail;refine(HX.o).mono ?_;rintro e w1 h1;obtain⟨v1,rfl,i,g⟩:=h1.val;replace A:=aa (A.o.then g);have I:=aa i;clear h1 i g;go_wp2_with fail;refine(ja _ _).mono ?_;rintro e w2 Z;obtain⟨s,rfl,j,M⟩:=Z.valB A.o.in;replace A:=aa (A.o.step M);replace I:=aa (I.o.bel M);have U:=aa j;clear Z j M;go_wp2_with fail;refine(gW _ I.o.val U.o.val (by first|(simp;done)|(simp;omega))).mono ?_;rintro e w3 a;obtain⟨t,rfl,k,Y⟩:=a.valB A.o.in;replace A:=aa (A.o.step Y);clear I;clear U;have C:=aa k;clear a k Y;go_wp2_with fail;refine(xB _).mono ?_;rintro e w4 c;obtain⟨u,rfl,l,O⟩:=c.valB A.o.in;replace A:=aa (A.o.step O);replace C:=aa (C.o.bel O);have H:=aa l;clear c l O;go_wp2_with fail;refine(J.o _ A.o.ly).mono ?_;rintro e w5 d;obtain⟨v,rfl,m,L⟩:=d.val;replace A:=aa (A.o.then L);replace C:=aa (C.o.but L.bt);replace H:=aa (H.o.but L.bt);have V:=aa m;clear d m L;go_wp2_with fail;refine(gW _ H.o.val V.o.val (by first|(simp;done)|(simp;omega))).mono ?_;rintro e w6 f;obtain⟨x,rfl,o,P⟩:=f.valB A.o.in;replace A:=aa (A.o.step P);clear H;clear V;replace C:=aa (C.o.bel P);have X:=aa o;clear f o P;go_wp2_with fail;refine(gW _ C.o.val X.o.val (by first|(simp;done)|(simp;omega))).mono ?_;rintro e p Q
  have HX:Hid (bY w0 b w R r e p):=by
   have h:=Q.gof A.o;show bY w0 b w R r e p;rw[B.o];exact h
  obtain⟨v7,rfl,_,_⟩:=Q.val;clear Q A B C X;go_wp2;go_ret;exact HX.o
theorem MB(o c ps)(h:ſ ps=0):(dm o c ps).N=[⟨1,ab (o++c),0⟩]:=by rw[dm,if_pos h];rfl
theorem Ld(o c ps)(h:¬ſ ps=0):(dm o c ps).N=⟨8,⟨#[]⟩,0⟩::(⟨6,⟨#[]⟩,0⟩::([⟨1,ab o,0⟩]++(⟨6,⟨#[]⟩,0⟩::((⟨7,⟨#[]⟩,2⟩::(⟨6,⟨#[]⟩,0⟩::([⟨3,⟨#[]⟩,0⟩]++(df ps).N)))++(⟨6,⟨#[]⟩,0⟩::([⟨3,⟨#[]⟩,0⟩]++[⟨1,ab c,0⟩])))))):=by rw[dm,if_neg h];rfl
theorem IP{w0 b}(K)(hE:ki w0 b K)(hs:eR K.D<=1000)(I:K.len<=1000)(o c)(ho:o.size<=100)(hc:c.size<=100)(r w)(hW:eS w0 b (K.N++r) w):
  Ñ prog 271 #[À (Ã ⟨b,0,É⟩),Á o,Í Ê (K.len:Int),Á c] w λe a=>bY w0 b w (dm (ae o) (ae c) K.D).N r e a:=by
 have A:=aa hW.lk;by_cases G:K.len=0
 .have B:Hid ((dm (ae o) (ae c) K.D).N=[⟨1,o++c,0⟩]):=by
   show _=_;rw[MB _ _ _ (by rw[jU];exact G)];have e:ab (ae o++ae c)=o++c:=by rw[<-bn,kW,kW]
   rw[e]
  have hr:K.N++r=r:=by
   cases K with
   | nil=>rfl
   | cons=>simp[Fo.len]at G
  rw[hr]at A;rw[G]
  generalize(dm (ae o) (ae c) K.D).N=R at B⊢
  clear hE hs I G hr hW;have Ab:¬9223372036854775807<o.size+c.size:=by omega
  go_in;go_wp2_with fail;refine(ja _ _).mono ?_;rintro e i J
  have a:Hid (bY w0 b w R r e i):=by
   have h:=J.gof A.o;show bY w0 b w R r e i;rw[B.o];exact h
  obtain⟨v1,rfl,_,_⟩:=J.val;clear J A B;go_wp2;go_ret;exact a.o
 .have B:Hid ((dm (ae o) (ae c) K.D).N=⟨8,⟨#[]⟩,0⟩::(⟨6,⟨#[]⟩,0⟩::([⟨1,o,0⟩]++(⟨6,⟨#[]⟩,0⟩::((⟨7,⟨#[]⟩,2⟩::(⟨6,⟨#[]⟩,0⟩::([⟨3,⟨#[]⟩,0⟩]++(df K.D).N)))++(⟨6,⟨#[]⟩,0⟩::([⟨3,⟨#[]⟩,0⟩]++[⟨1,c,0⟩]))))))):=by
   show _=_;rw[Ld _ _ _ (by rw[jU];exact G),kW,kW]
  have X:Hid (∀W,eS w0 b (K.N++r) W->Cp 285 #[À (Ã ⟨b,0,É⟩),Í Ê (K.len:Int)] W λe a=>bY w0 b W (df K.D).N r e a):=λW hW=>CW K hE G hs I r W hW
  have P:=nT K.D
  generalize(dm (ae o) (ae c) K.D).N=R at B⊢
  generalize(df K.D).N=ks at X B P
  generalize eR K.D=sd at hs P;generalize K.N++r=r0 at A X;generalize K.len=kl at X G⊢;have Aa:((kl:Int)==0)=false:=by simp;omega
  clear hE I hW;go_in;go_wp2_with fail;refine(CY _).mono ?_;rintro e i J;obtain⟨v1,rfl,n1,q⟩:=J.valB A.o.in;replace A:=aa (A.o.step q);have U:=aa n1;clear J n1 q;go_wp2_with fail;refine(X.o _ A.o.ly).mono ?_;rintro e w2 u;obtain⟨v2,rfl,n2,g⟩:=u.val;replace A:=aa (A.o.then g);replace U:=aa (U.o.but g.bt);have p:=aa n2;clear u n2 g;go_wp2_with fail;refine(gW _ U.o.val p.o.val (by first|(simp;done)|(simp;omega))).mono ?_;rintro e w3 v;obtain⟨v3,rfl,n3,s⟩:=v.valB A.o.in;replace A:=aa (A.o.step s);clear U;clear p;have j:=aa n3;clear v n3 s;go_wp2_with fail;refine(xm _ j.o.val (by first|(simp;done)|(simp;omega))).mono ?_;rintro e w4 x;obtain⟨v4,rfl,n4,t⟩:=x.valB A.o.in;replace A:=aa (A.o.step t);clear j;have C:=aa n4;clear x n4 t;go_wp2_with fail;refine(ja _ _).mono ?_;rintro e w5 y;obtain⟨v5,rfl,n5,d⟩:=y.valB A.o.in;replace A:=aa (A.o.step d);replace C:=aa (C.o.bel d);have E:=aa n5;clear y n5 d;go_wp2_with fail;refine(CY _).mono ?_;rintro e w6 z;obtain⟨v6,rfl,n6,Y⟩:=z.valB A.o.in;replace A:=aa (A.o.step Y);replace C:=aa (C.o.bel Y);replace E:=aa (E.o.bel Y);have V:=aa n6;clear z n6 Y;go_wp2_with fail;refine(ja _ _).mono ?_;rintro e w7 h7;obtain⟨v7,rfl,n7,M⟩:=h7.valB A.o.in;replace A:=aa (A.o.step M);replace C:=aa (C.o.bel M);replace E:=aa (E.o.bel M);replace V:=aa (V.o.bel M);have k:=aa n7;clear h7 n7 M;go_wp2_with fail;refine(gW _ V.o.val k.o.val (by first|(simp;done)|(simp;omega))).mono ?_;rintro e w8 h8;obtain⟨v8,rfl,n8,Z⟩:=h8.valB A.o.in;replace A:=aa (A.o.step Z);clear V;clear k;replace C:=aa (C.o.bel Z);replace E:=aa (E.o.bel Z);have l:=aa n8;clear h8 n8 Z;go_wp2_with fail;refine(gW _ C.o.val l.o.val (by first|(simp;done)|(simp;omega))).mono ?_;rintro e w9 h9;obtain⟨v9,rfl,n9,f⟩:=h9.valB A.o.in;replace A:=aa (A.o.step f);clear C;clear l;replace E:=aa (E.o.bel f);have m:=aa n9;clear h9 n9 f;go_wp2_with fail;refine(gW _ E.o.val m.o.val (by first|(simp;done)|(simp;omega))).mono ?_;rintro e Ae O;obtain⟨Ac,rfl,Q,L⟩:=O.valB A.o.in;replace A:=aa (A.o.step L);clear E;clear m;have n:=aa Q;clear O Q L;go_wp2_with fail;refine(xC _ n.o.val (by first|(simp;done)|(simp;omega))).mono ?_;rintro e S H
  have a:Hid (bY w0 b w R r e S):=by
   have h:=H.gof A.o;show bY w0 b w R r e S;rw[B.o];exact h
  obtain⟨Ad,rfl,_,_⟩:=H.val;clear H A B n;go_wp2;go_ret;exact a.o
theorem Kz{l x D}(h:da x<l):(bm l x D).N=⟨6,⟨#[]⟩,0⟩::([⟨1,⟨#[40]⟩,0⟩]++(⟨6,⟨#[]⟩,0⟩::(D.N++[⟨1,⟨#[41]⟩,0⟩]))):=by
 rw[bm,if_pos h];rfl
theorem Mq{l x D}(h:¬da x<l):(bm l x D).N=D.N:=by rw[bm,if_neg h]
theorem CX{w0 b y k}(hX:gQ w0 b y k)(hz:(ap y k.D).N.length<=1000)(op)(O:op=5\/op=6)(s r w)(hW:eS w0 b (y::(k.N++r)) w):
  Ñ prog 286 #[À (Ã ⟨b,0,É⟩),Í Ê op,Ò s] w λe a=>bY w0 b w (bm ((op-5).toNat+s.toNat) y (ap y k.D)).N r e a:=by
 have B:Hid (∀W,Cw 262 #[Í Ê y.op,Í Ê op,Ò s] W (Ò (decide (da y<(op-5).toNat+s.toNat)))):=λW=>(DG y op O s W).mono λ_ _ h=>⟨h.1,h.2.symm⟩
 have M:=aa (hX r w hW);have E:=aa hW.lk;obtain⟨A,c,h⟩:=hW;obtain⟨tb,tq,rfl,X,U,_,_⟩:=h.td 0 (by simp);simp only[List.getElem_cons_zero,Nat.zero_mul,Nat.add_zero]at U;obtain⟨d,_⟩:=a9 h.bl;have z:=(d _ _ X).trans U;have v:=gI h.x;generalize j:(y::(k.N++r)).length=n at v;have Aa:0<n:=by rw[<-j];simp
 have Ab:(0:Int)<(n:Int):=by omega
 have H:Hid (da y<(op-5).toNat+s.toNat->(bm ((op-5).toNat+s.toNat) y (ap y k.D)).N=⟨6,⟨#[]⟩,0⟩::([⟨1,⟨#[40]⟩,0⟩]++(⟨6,⟨#[]⟩,0⟩::((ap y k.D).N++[⟨1,⟨#[41]⟩,0⟩])))):=Kz;have C:Hid (¬da y<(op-5).toNat+s.toNat->(bm ((op-5).toNat+s.toNat) y (ap y k.D)).N=(ap y k.D).N):=Mq
 generalize(bm ((op-5).toNat+s.toNat) y (ap y k.D)).N=R at H C⊢
 generalize(ap y k.D).N=xs at M H C hz
 generalize y::(k.N++r)=r0 at E
 generalize(op-5).toNat+s.toNat=lv at B H C
 generalize da y=py at B H C;generalize y.op=yo at B z;clear h d U O j hX;by_cases L:py<lv
 .have G:=(show Hid (_=_)from H.o L);rw[decide_eq_true L]at B;clear H C L;go_in;go_wp2_with fail;refine an (B.o _) ?_;go_wp2_with fail;refine(M.o).mono ?_;rintro e Y K;obtain⟨v2,rfl,m,l⟩:=K.val;replace E:=aa (E.o.then l);have J:=aa m;clear K m l;go_wp2_with fail;refine(ja _ _).mono ?_;rintro e w3 f;obtain⟨v3,rfl,o,Q⟩:=f.valB E.o.in;replace E:=aa (E.o.step Q);replace J:=aa (J.o.bel Q);have I:=aa o;clear f o Q;go_wp2_with fail;refine(ja _ _).mono ?_;rintro e w4 g;obtain⟨v4,rfl,p,P⟩:=g.valB E.o.in;replace E:=aa (E.o.step P);replace J:=aa (J.o.bel P);replace I:=aa (I.o.bel P);have Z:=aa p;clear g p P;go_wp2_with fail;refine(gW _ J.o.val Z.o.val (by first|(simp;done)|(simp;omega))).mono ?_;rintro e w5 i;obtain⟨v5,rfl,q,S⟩:=i.valB E.o.in;replace E:=aa (E.o.step S);clear J;clear Z;replace I:=aa (I.o.bel S);have a:=aa q;clear i q S;go_wp2_with fail;refine(gW _ I.o.val a.o.val (by first|(simp;done)|(simp;omega))).mono ?_;rintro e t V
  have M:Hid (bY w0 b w R r e t):=by
   have h:=V.gof E.o;show bY w0 b w R r e t;rw[G.o];exact h
  obtain⟨v6,rfl,_,_⟩:=V.val;clear V E G I a;go_wp2;go_ret;exact M.o
 .have G:=(show Hid (_=_)from C.o L);rw[decide_eq_false L]at B;clear H C L;go_in;go_wp2_with fail;refine an (B.o _) ?_;go_wp2_with fail;refine M.o.mono ?_;rintro e Y K
  have u:Hid (bY w0 b w R r e Y):=by
   show bY w0 b w R r e Y;rw[G.o];exact K
  obtain⟨v2,rfl,_,_⟩:=K.val;clear K;go_wp2;go_ret;exact u.o
theorem JF{w0 b y z k l}(hX:gQ w0 b y k)(hZ:gQ w0 b z l)(J:(ap y k.D).N.length<=1000)(K:(ap z l.D).N.length<=1000)(op)(E:op=5\/op=6)(m r w)
  (hW:eS w0 b (y::(k.N++(z::(l.N++r)))) w):
  Ñ prog 272 #[À (Ã ⟨b,0,É⟩),Í Ê op,Á m] w λe a=>bY w0 b w (fc (aZ (bm (op-5).toNat y (ap y k.D)) (fs (aZ fq (aZ (bD (ae m)) (bm ((op-5).toNat+1) z (ap z l.D))))))).N r e a:=by
 have Q:Hid (Cp 286 #[À (Ã ⟨b,0,É⟩),Í Ê op,Ò false] w λe a=>bY w0 b w (bm (op-5).toNat y (ap y k.D)).N (z::(l.N++r)) e a):=CX hX J op E false _ w hW;have S:Hid (∀W,eS w0 b (z::(l.N++r)) W->Cp 286 #[À (Ã ⟨b,0,É⟩),Í Ê op,Ò true] W λe a=>bY w0 b W (bm ((op-5).toNat+1) z (ap z l.D)).N r e a):=λW hW=>CX hZ K op E true _ W hW
 have A:Hid (Lk w0 b w (y::(k.N++(z::(l.N++r)))) w):=hW.lk;have L:=nS (op-5).toNat y (ap y k.D);have M:=nS ((op-5).toNat+1) z (ap z l.D)
 have C:Hid ((fc (aZ (bm (op-5).toNat y (ap y k.D)) (fs (aZ fq (aZ (bD (ae m)) (bm ((op-5).toNat+1) z (ap z l.D))))))).N=⟨8,⟨#[]⟩,0⟩::(⟨6,⟨#[]⟩,0⟩::((bm (op-5).toNat y (ap y k.D)).N++(⟨7,⟨#[]⟩,2⟩::(⟨6,⟨#[]⟩,0⟩::([⟨2,⟨#[]⟩,0⟩]++(⟨6,⟨#[]⟩,0⟩::([⟨1,m,0⟩]++(bm ((op-5).toNat+1) z (ap z l.D)).N)))))))):=by
  show _=_;have e:ab (ae m)=m:=kW m;simp only[Tr.N,e]
 generalize(fc (aZ (bm (op-5).toNat y (ap y k.D)) (fs (aZ fq (aZ (bD (ae m)) (bm ((op-5).toNat+1) z (ap z l.D))))))).N=R at C⊢
 generalize(bm (op-5).toNat y (ap y k.D)).N=xs at Q C L
 generalize(bm ((op-5).toNat+1) z (ap z l.D)).N=ys at S C M
 have Aa:ſ xs<=1004:=by omega
 have Ab:ſ ys<=1004:=by omega
 generalize z::(l.N++r)=r1 at Q S A;generalize y::(k.N++r1)=r0 at A;clear hX hZ J K hW L M E;go_in;go_wp2_with fail;refine(Q.o).mono ?_;rintro e w1 i;obtain⟨v1,rfl,L,u⟩:=i.val;replace A:=aa (A.o.then u);have B:=aa L;clear i L u;go_wp2_with fail;refine(S.o _ A.o.ly).mono ?_;rintro e w2 j;obtain⟨v2,rfl,M,Y⟩:=j.val;replace A:=aa (A.o.then Y);replace B:=aa (B.o.but Y.bt);have H:=aa M;clear j M Y;go_wp2_with fail;refine(xB _).mono ?_;rintro e w3 n;obtain⟨v3,rfl,v,O⟩:=n.valB A.o.in;replace A:=aa (A.o.step O);replace B:=aa (B.o.bel O);replace H:=aa (H.o.bel O);have G:=aa v;clear n v O;go_wp2_with fail;refine(ja _ _).mono ?_;rintro e w4 o;obtain⟨v4,rfl,x,I⟩:=o.valB A.o.in;replace A:=aa (A.o.step I);replace B:=aa (B.o.bel I);replace H:=aa (H.o.bel I);replace G:=aa (G.o.bel I);have f:=aa x;clear o x I;go_wp2_with fail;refine(gW _ f.o.val H.o.val (by first|(simp;done)|(simp;omega))).mono ?_;rintro e w5 p;obtain⟨v5,rfl,n5,P⟩:=p.valB A.o.in;replace A:=aa (A.o.step P);clear f;clear H;replace B:=aa (B.o.bel P);replace G:=aa (G.o.bel P);have Z:=aa n5;clear p n5 P;go_wp2_with fail;refine(gW _ G.o.val Z.o.val (by first|(simp;done)|(simp;omega))).mono ?_;rintro e w6 q;obtain⟨v6,rfl,n6,U⟩:=q.valB A.o.in;replace A:=aa (A.o.step U);clear G;clear Z;replace B:=aa (B.o.bel U);have a:=aa n6;clear q n6 U;go_wp2_with fail;refine(xm _ a.o.val (by first|(simp;done)|(simp;omega))).mono ?_;rintro e w7 s;obtain⟨v7,rfl,n7,V⟩:=s.valB A.o.in;replace A:=aa (A.o.step V);clear a;replace B:=aa (B.o.bel V);have c:=aa n7;clear s n7 V;go_wp2_with fail;refine(gW _ B.o.val c.o.val (by first|(simp;done)|(simp;omega))).mono ?_;rintro e w8 t;obtain⟨v8,rfl,n8,g⟩:=t.valB A.o.in;replace A:=aa (A.o.step g);clear B;clear c;have d:=aa n8;clear t n8 g;go_wp2_with fail;refine(xC _ d.o.val (by first|(simp;done)|(simp;omega))).mono ?_;rintro e w9 X
 have HX:Hid (bY w0 b w R r e w9):=by
  have h:=X.gof A.o;show bY w0 b w R r e w9;rw[C.o];exact h
 obtain⟨v9,rfl,_,_⟩:=X.val;clear X A C d;go_wp2;go_ret;exact HX.o
theorem UL{Y b}(Z:gH Y)(n)(d:0<=n)(f:n<=999999)(tx):gQ Y b ⟨1,tx,n⟩ Fo.nil:=by
 intro r w K;have H:=aa (lI K);have M:=aa Z;clear Z;generalize J:(ap ⟨1,tx,n⟩ Fo.nil.D).N=R;have C:=aa J;clear K J;go_in;go_wp2_with fail;refine ai H.o λU V=>?_
 have G:Hid (∀W:Â,Ç U U W->Cb 62 #[Í Ê n] W (Á (ab (aA n.toNat)))):=λW X=>qu n d f W (by
  obtain⟨A,c,O⟩:=V.ly
  exact(M.o.W O.bl).W X)
 have I:Hid (∀W:Â,Ç U U W->Cp 248 #[Á (ab (aA n.toNat))] W λe a=>bY Y b w R r e a):=λW X=>(ja _ W).mono λe a h=>by
  rw[<-C.o];exact h.gof (V.step X)
 generalize ab (aA n.toNat)=S at G I;clear V H;go_wp2_with fail;refine ai (G.o _ (aC U _)) λg b2=>?_
 have B:=aa (aH (aC U _) Zl b2);clear b2;go_wp2_with fail;refine(I.o _ B.o).mono ?_;rintro e Q E;have L:=aa E;obtain⟨P,rfl,_,_⟩:=E.val;clear E;go_wp2;go_ret;exact L.o
theorem R5{X b}(tx)(M:tx.size<=100)(n):gQ X b ⟨2,tx,n⟩ Fo.nil:=by
 intro r w H;have E:=aa (lI H);generalize G:(ap ⟨2,tx,n⟩ Fo.nil.D).N=R;have B:=aa G;clear H G;go_in;go_wp2_with fail;refine ai E.o λS U=>?_
 have I:Hid (∀W:Â,Cb 115 #[Á tx] W (Á tx)):=λW=>sy tx W (by omega)
 have K:Hid (∀W:Â,Ç S S W->Cp 248 #[Á tx] W λe V=>bY X b w R r e V):=λW Y=>(ja _ W).mono λe V h=>by
  have L:(ap ⟨2,tx,n⟩ Fo.nil.D).N=[⟨1,tx,0⟩]:=by
   show [(⟨1,ab (ae tx),0⟩:Nd)]=_;rw[kW]
  rw[<-B.o,L];exact h.gof (U.step Y)
 clear U E;go_wp2_with fail;refine ai (I.o _) λZ b2=>?_
 have A:=aa (aH (aC S _) Zl b2);clear b2;go_wp2_with fail;refine(K.o _ A.o).mono ?_;rintro e P C;have J:=aa C;obtain⟨O,rfl,_,_⟩:=C.val;clear C;go_wp2;go_ret;exact J.o
theorem R4{P b F}(tx)(U:ki P b F)(X:eR F.D<=1000)(C:F.len<=1000):gQ P b ⟨4,tx,(F.len:Int)⟩ F:=by
 intro r w H;have E:=aa (lI H);generalize G:(ap ⟨4,tx,(F.len:Int)⟩ F.D).N=R;have A:=aa G;clear H G;go_in;go_wp2_with fail;refine ai E.o λS O=>?_
 have J:Hid (∀W:Â,Ç S S W->Cp 271 #[À (Ã ⟨b,0,É⟩),Á ⟨#[91]⟩,Í Ê (F.len:Int),Á ⟨#[93]⟩] W λe Y=>bY P b w R r e Y):=λW V=>(IP F U X C ⟨#[91]⟩ ⟨#[93]⟩ (by decide) (by decide) r W (O.step V).ly).mono λe Y h=>by
  have K:ap ⟨4,tx,(F.len:Int)⟩ F.D=dm (ae ⟨#[91]⟩) (ae ⟨#[93]⟩) F.D:=rfl;rw[<-A.o,K];exact bY.then (O.step V) h
 clear O E U X;go_wp2_with fail;refine(J.o _ (aC S _)).mono ?_;rintro e M B;have I:=aa B;obtain⟨L,rfl,_,_⟩:=B.val;clear B;go_wp2;go_ret;exact I.o
theorem FE(tx):ae (tx++(⟨#[40]⟩:ByteArray))=ae tx++[40]:=by
 have e:ab (ae tx)++ab [40]=ab (ae tx++[40]):=bn _ _;rw[kW]at e;have A:tx++(⟨#[40]⟩:ByteArray)=ab (ae tx++[40]):=e;rw[A];rfl
theorem LL(tx):(tx++(⟨#[40]⟩:ByteArray)).size=tx.size+1:=by grind [aw,FE]
theorem R3{U b F}(tx)(M:tx.size<=80)(X:ki U b F)(Z:eR F.D<=1000)(C:F.len<=1000):gQ U b ⟨3,tx,(F.len:Int)⟩ F:=by
 intro r w H;have E:=aa (lI H);generalize G:(ap ⟨3,tx,(F.len:Int)⟩ F.D).N=R;have A:=aa G;clear H G;go_in;go_wp2_with fail;refine ai E.o λV S=>?_
 have J:Hid (∀W:Â,Ç V V W->Cp 271 #[À (Ã ⟨b,0,É⟩),Á (tx++(⟨#[40]⟩:ByteArray)),Í Ê (F.len:Int),Á ⟨#[41]⟩] W λe a=>bY U b w R r e a):=λW Y=>(IP F X Z C (tx++(⟨#[40]⟩:ByteArray)) ⟨#[41]⟩ (by rw[LL];omega) (by decide) r W (S.step Y).ly).mono λe a h=>by
  have K:ap ⟨3,tx,(F.len:Int)⟩ F.D=dm (ae (tx++(⟨#[40]⟩:ByteArray))) (ae ⟨#[41]⟩) F.D:=by rw[FE];rfl
  rw[<-A.o,K];exact bY.then (S.step Y) h
 have L:¬9223372036854775807<tx.size+1:=by omega
 clear S E X Z;go_wp2_with fail;refine(J.o _ (aC V _)).mono ?_;rintro e P B;have I:=aa B;obtain⟨O,rfl,_,_⟩:=B.val;clear B;go_wp2;go_ret;exact I.o
theorem UM{S b y z k l}(tx n)(X:gQ S b y k)(Y:gQ S b z l)(B:(ap y k.D).N.length<=1000)(C:(ap z l.D).N.length<=1000):gQ S b ⟨5,tx,n⟩ (Fo.cons y k (.cons z l .nil)):=by
 intro r w K;have I:=aa (lI K);generalize J:(ap ⟨5,tx,n⟩ (Fo.cons y k (.cons z l .nil)).D).N=R;have E:=aa J;clear K J;go_in;go_wp2_with fail;refine ai I.o λV U=>?_
 have M:Hid (∀W:Â,Ç V V W->Cp 272 #[À (Ã ⟨b,0,É⟩),Í Ê 5,Á ⟨#[43,32]⟩] W λe a=>bY S b w R r e a):=λW Z=>by
  rw[<-E.o];have A:=(U.step Z).ly;have H:(Fo.cons y k (.cons z l .nil)).N++r=y::(k.N++(z::(l.N++r))):=by simp[Fo.N]
  rw[H]at A;exact(JF X Y B C 5 (by decide) ⟨#[43,32]⟩ r W A).mono λe a h=>bY.then (U.step Z) h
 clear U I X Y B C;go_wp2_with fail;refine(M.o _ (aC V _)).mono ?_;rintro e P G;have L:=aa G;obtain⟨O,rfl,_,_⟩:=G.val;clear G;go_wp2;go_ret;exact L.o
theorem UK{S b y z k l}(tx n)(X:gQ S b y k)(Y:gQ S b z l)(B:(ap y k.D).N.length<=1000)(C:(ap z l.D).N.length<=1000):gQ S b ⟨6,tx,n⟩ (Fo.cons y k (.cons z l .nil)):=by
 intro r w K;have I:=aa (lI K);generalize J:(ap ⟨6,tx,n⟩ (Fo.cons y k (.cons z l .nil)).D).N=R;have E:=aa J;clear K J;go_in;go_wp2_with fail;refine ai I.o λV U=>?_
 have M:Hid (∀W:Â,Ç V V W->Cp 272 #[À (Ã ⟨b,0,É⟩),Í Ê 6,Á ⟨#[42,32]⟩] W λe a=>bY S b w R r e a):=λW Z=>by
  rw[<-E.o];have A:=(U.step Z).ly;have H:(Fo.cons y k (.cons z l .nil)).N++r=y::(k.N++(z::(l.N++r))):=by simp[Fo.N]
  rw[H]at A;exact(JF X Y B C 6 (by decide) ⟨#[42,32]⟩ r W A).mono λe a h=>bY.then (U.step Z) h
 clear U I X Y B C;go_wp2_with fail;refine(M.o _ (aC V _)).mono ?_;rintro e P G;have L:=aa G;obtain⟨O,rfl,_,_⟩:=G.val;clear G;go_wp2;go_ret;exact L.o
theorem rE(x k n):eR k.D<=20*(Fo.cons x k n).N.length/\(ap x k.D).N.length<=20*(Fo.cons x k n).N.length:=by
 have h:=o3 (.cons x k n);have B:=o3 k;rw[Fo.D,jc]at h;have e:(x,ap x k.D).2=ap x k.D:=rfl;rw[e]at h;have A:ſ k.N<=(Fo.cons x k n).N.length:=by simp only[Fo.N,È,Ì];omega
 omega
theorem uW{U:Â}{b:Nat}(V:gH U):∀F:Fo,F.ok->F.exs->ſ F.N<=50->ki U b F
 | .nil,_,_,_=>trivial
 | .cons x k n,hok,hex,hlen=>by
  have X:ſ k.N+ſ n.N+1<=50:=by simp only[Fo.N,È,Ì]at hlen;omega
  have J:ki U b k:=uW V k hok.2.1 (λy W=>hex y (by simp[Fo.N,W])) (by omega);have M:ki U b n:=uW V n hok.2.2 (λy W=>hex y (by simp[Fo.N,W])) (by omega);refine⟨?_,M⟩;have O:=hex x (by simp[Fo.N]);have A:=hok.1;have H:eR k.D<=1000:=by have:=(rE x k n).1;omega
  obtain⟨P,K,m⟩:=x;rcases iE O with⟨B,E,G,I,C⟩|⟨B,E,G,C⟩|⟨B,E,G,I,C⟩|⟨B,E,G,I,C⟩|⟨B,E,G,C⟩|⟨B,E,G,C⟩
  .rw[C]at A;cases k with
   | cons=>simp[Fo.len]at A
   | nil=>
    dsimp only at B G I;subst B;exact UL V m G I K
  .rw[C]at A;cases k with
   | cons=>simp[Fo.len]at A
   | nil=>
    dsimp only at B E;subst B;have L:=jd E;rw[aw]at L;exact R5 K (by omega) m
  .rw[C]at A;dsimp only at B E G I A;subst B
   have:m=(k.len:Int):=by omega
   subst this;have L:=jd E;rw[aw]at L;exact R3 K (by omega) J H (by omega)
  .rw[C]at A;dsimp only at B G I A;subst B
   have:m=(k.len:Int):=by omega
   subst this;exact R4 K J H (by omega)
  all_goals
   rw[C]at A;dsimp only at B;subst B;cases k with
   | nil=>simp[Fo.len]at A
   | cons y ky r=>
    cases r with
    | nil=>simp[Fo.len]at A
    | cons z kz r2=>
     cases r2 with
     | cons=>simp[Fo.len]at A
     | nil=>
      have Q:=(rE y ky (.cons z kz .nil)).2;have R:=(rE z kz .nil).2;have S:(Fo.cons z kz .nil).N.length<=(Fo.cons y ky (.cons z kz .nil)).N.length:=by simp only[Fo.N,È,Ì];omega
      first
       | exact UM K m J.1 J.2.1 (by omega) (by omega)
       | exact UK K m J.1 J.2.1 (by omega) (by omega)
theorem DV(a:Addr)(n A)(op:Int)(w)(D:0<n){b o:Nat}(B:a=(b,o))(C:w.cell? (b,o)=Ã ↑op):Cw 120 #[Æ (Ã a) n A] w (Ò (op==9)):=by
 unfold Cw;subst B;go_in;go_wp2;go_ret;exact⟨rfl,rfl⟩
theorem DT(ps a cap)(w:Â)(_hc:ſ ps<=cap)(hP:bP w a ps)(Aa:∀t∈ps,fU t):Cb 87 #[Æ a (ſ ps) cap] w (Ó #[↑((aW ps).1:Int),aF (aW ps).2]):=by
 unfold Cb;have HP:=aa hP;have Ad:=aa Aa;clear hP Aa;by_cases Aj:20<(ſ ps:Int)
 .have l:Hid (aW ps=(0,3)):=by show aW ps=_;rw[aW,if_pos (by omega)]
  go_in;go_wp2;go_ret2;exact⟨by rw[l.o];rfl,Ä _ _⟩
 have HF:Hid (aW ps=fB 0 0 ps):=by show aW ps=_;rw[aW,if_neg (by omega)]
 go_in;go_wp2
 go_loopw [13] (λi wr=>Ç w w wr/\∃k:Nat,k<=ſ ps/\i=Í Ê k/\aW ps=fB (fQ ps k) k (ps.drop k)/\∀j(h:j<ſ ps),j<k->ag ps[j]=0) (λi _=>ſ ps-(Ð i).toNat)
 case atStart=>exact⟨Ä _ _,0,Ï _,rfl,HF.o,λj _ h=>by omega⟩
 case round=>
  obtain⟨x,k,hk,rfl,hF,Z⟩:=hrel;have K:=aa x;have HG:=aa hF;have HA:=aa Z;clear x hF Z;by_cases Q:k<ſ ps
  .obtain⟨b,o,a',c',ea,hb,Y,c2,hT⟩:=(HP.o.W K.o) k Q;subst ea;have y:(k:Int)<(ſ ps:Int):=by omega
   have X:=ss ps[k] a' c' wr c2 hT (Ad.o _ (Å Q))
   have R:Hid (ag ps[k]=0->∀j(h:j<ſ ps),j<k+1->ag ps[j]=0):=λh0 j h hj=>by
    by_cases Ae:j=k
    .subst Ae;exact h0
    .exact HA.o j h (by omega)
   have L:Hid (ag ps[k]=0->0<ps[k].length/\∃S c,a'=Ã ⟨S,c,É⟩/\S<wr.heap.size/\wr.cell? ⟨S,c,É⟩=Ã (Í Ê (aR ps[k]))):=λh0=>by
    have A:=qG h0;obtain⟨S,c,e1,m,d1,_,_⟩:=hT 0 A;exact⟨A,S,c,e1,m,by rw[qR A];simpa using d1⟩
   have J:Hid (ag ps[k]≠0->aW ps=(k,ag ps[k])):=λh=>HG.o.trans (DM Q h)
   have D:Hid (ag ps[k]=0->aR ps[k]=9/\fQ ps k=9->aW ps=(k,2)):=λh h2=>HG.o.trans (DN Q h h2)
   have C:Hid (ag ps[k]=0->¬(aR ps[k]=9/\fQ ps k=9)->aW ps=fB (fQ ps (k+1)) (k+1) (ps.drop (k+1))):=λh h2=>HG.o.trans (JK Q h h2)
   have N:Hid (∀j,k=j+1->∃a c U,wr.cell? ⟨b,o+j,É⟩=Ã (Æ a c U)/\0<c/\∃I d,a=Ã ⟨I,d,É⟩/\I<wr.heap.size/\wr.cell? ⟨I,d,É⟩=Ã (Í Ê (fQ ps k))):=λj hj=>by
    have p:j<ſ ps:=by omega
    obtain⟨bj,oj,aj,cj,ej,_,q1,_,qT⟩:=(HP.o.W K.o) j p;simp only[Option.some.injEq,Addr.mk.injEq,and_true]at ej;obtain⟨rfl,rfl⟩:=ej;have A:=qG (HA.o j p (by omega));obtain⟨I,d,e2,n,d2,_,_⟩:=qT 0 A;refine⟨aj,ps[j].length,cj,q1,A,I,d,e2,n,?_⟩;rw[hj,xG p,qR A];simpa using d2
   have O:=aa X;clear hT X c2;generalize ps[k].length=nl at Y O L;generalize aR ps[k]=op0 at L D C;generalize ag ps[k]=E at O R L J D C;by_cases he:E=0
   .subst he;obtain⟨Ah,S,c,rfl,m,d1⟩:=L.o rfl;have f:=aa (R.o rfl);have M:=aa (D.o rfl);have B:=aa (C.o rfl);clear D C;have Ai:(0:Int)<(nl:Int):=by omega
    have g:=aa Y;have Ab:=aa d1;clear L J R Y d1;by_cases q:k=0
    .have u:=aa (B.o (by simp[fQ,q]));have Af:¬(0:Int)<(k:Int):=by omega
     have Y:=g.o;clear M B q;go_wp2_with fail;refine ai O.o λw2 I=>?_
     rw[cS];have H:=aa (aH K.o Zl I);clear I Y;go_wp2
     go_roundw
     case rel=>exact⟨H.o,k+1,by omega,by go_num,u.o,f.o⟩
     case measure=>simp[Ð];omega
    .obtain⟨j,rfl⟩:∃j,k=j+1:=⟨k-1,by omega⟩;obtain⟨a1,n1,U,q1,Ag,I,d,rfl,n,d2⟩:=N.o j rfl;have P:((j+1:Nat):Int)=(j:Int)+1:=by omega
     have Af:(0:Int)<(j:Int)+1:=by omega
     have Ak:(j:Int)<(ſ ps:Int):=by omega
     have Al:(j:Int)+1<(ſ ps:Int):=by omega
     have r:Hid (∀W:Â,Ç wr wr W->W.cell? (b,o+(j+1))=Ã (Æ (Ã ↑(S,c)) nl c')/\W.cell? (S,c)=Ã ↑op0/\W.cell? (b,o+j)=Ã (Æ (Ã ↑(I,d)) n1 U)/\W.cell? (I,d)=Ã ↑(fQ ps (j+1))):=λW hW=>
      ⟨((a9 hW).1 _ _ hb).trans g.o,((a9 hW).1 _ _ m).trans Ab.o,((a9 hW).1 _ _ hb).trans q1,((a9 hW).1 _ _ n).trans d2⟩
     have Y:=g.o;generalize fQ ps (j+1)=pv at M B r;rw[P]at y⊢;clear q1 d2 N P q;go_wp2_with fail;refine ai O.o λw2 b2'=>?_
     rw[cS];have H:=aa (aH K.o Zl b2');obtain⟨k1,k2,k3,k4⟩:=r.o w2 b2';clear b2' Y;have Ac:=aa (DV (S,c) nl c' op0 w2 Ah rfl k2);have v:=aa (DV (I,d) n1 U pv w2 Ag rfl k4);clear k2 k4;go_wp2_with fail;refine Ac.o.mono ?_;rintro e w3⟨rfl,rfl⟩;by_cases h9:op0=9
     .subst h9;have G:((9:Int)==9)=true:=rfl;rw[G];clear G;go_wp2_with fail;refine v.o.mono ?_;rintro e w3⟨rfl,rfl⟩;by_cases V:pv=9
      .subst V;have l:=aa (M.o (by simp));have G:((9:Int)==9)=true:=rfl;rw[G];clear M B G;go_wp2;go_ret2;exact⟨by rw[l.o];rfl,H.o⟩
      .have u:=aa (B.o (λh=>V h.2));have z:(pv==9)=false:=by simp[V]
       rw[z];clear M B V z;go_wp2
       go_roundw
       case rel=>exact⟨H.o,j+1+1,by omega,by go_num,u.o,f.o⟩
       case measure=>simp[Ð];omega
     .have u:=aa (B.o (λh=>h9 h.1));have G:(op0==9)=false:=by simp[h9]
      rw[G];clear M B h9 G;go_wp2
      go_roundw
      case rel=>exact⟨H.o,j+1+1,by omega,by go_num,u.o,f.o⟩
      case measure=>simp[Ð];omega
   .have l:=aa (J.o he);have s:=aa (cN he);clear L J R D C he;go_wp2_with fail;refine ai O.o λw2 I=>?_
    rw[s.o];have H:=aa (aH K.o Zl I);clear I Y;go_wp2;go_ret2;exact⟨by rw[l.o,s.o];rfl,H.o⟩
  .have l:Hid (aW ps=(0,0)):=by
    show aW ps=_;rw[HG.o,List.drop_eq_nil_of_le (by omega)];rfl
   have y:¬(k:Int)<(ſ ps:Int):=by omega
   go_wp2;go_ret2;exact⟨by rw[l.o];rfl,K.o⟩
