import Derived.Test.YtelcnplcpboonaaGreatDoorPe08
import Derived.Test.YtelcnplcpboonaaGreatDoorPe04
import Derived.Maps.OwnSet
import Derived.DeepKeys4
open Go.Proofs.Tryz
open List renaming length->ſ
open Go.Lib renaming OthersKept->À,byteCells_length->Ì,byteCells_append->Í
open List renaming getElem_cons_zero->Á,length_cons->Ã,length_append->Ä,append_assoc->É,mem_cons->Î,length_drop->Ð,length_take->Ñ,countP_cons->Ò,mem_append->Ó,append_nil->Ô,map_drop->Õ,map_nil->Ù,range->Ú
open Go.Lib.OthersKept renaming refl->Â
open Nat renaming add_zero->Å,le_trans->Æ,zero_mul->È
open Option renaming some->Ç,none->Û
open Go.Value renaming int->Ê,pointer->Ï,bool->Ö,agg->Ø
open Go.IntKind renaming i64->Ë
namespace Go.Proofs.YtelcnplcpboonaaGreatDoor
open Go Go.RowKit
def j1:List Wd->List Nat->List (List Wd)
 | _,[]=>[]
 | ws,k::ks=>ws.take k::j1 (ws.drop k) ks
theorem yJ:∀g:List Wd,jx (g.map ab)=jb g
 | []=>rfl
 | [w]=>by simp[jx,jb,ab,Lib.join_one]
 | w::u::r=>by
  have ih:=yJ (u::r);have e:jb (w::u::r)=w++32::jb (u::r):=rfl;rw[e,<-ih];simp[jx,ab,Lib.join_cons,Lib.joinTail]
theorem zW:∀(A:List Nat)(ws:List Wd),mu (ws.map ab) A=(j1 ws A).map λg=>ab (jb g)
 | [],_=>rfl
 | k::A,ws=>by
  have ih:=zW A (ws.drop k);rw[mu,j1,List.map_cons,<-Õ,<-List.map_take,ih,dw,yJ];rfl
theorem CK(D:Nat):∀(n:Nat)(ws:List Wd),ſ ws<=n->(∀g∈j1 ws (eF D (ws.map ab)),g≠[]/\(ſ g)<=ſ ws/\∀w∈g,w∈ws)/\(j1 ws (eF D (ws.map ab))).flatten=ws/\(ws≠[]->j1 ws (eF D (ws.map ab))≠[])
 | 0,ws,h=>by
  have:ws=[]:=List.eq_nil_of_length_eq_zero (by omega)
  subst this;rw[Ù,oG];exact⟨λg a=>(by simp[j1]at a),rfl,λh=>absurd rfl h⟩
 | n+1,ws,h=>by
  by_cases G:ws=[]
  .subst G;rw[Ù,oG];exact⟨λg a=>(by simp[j1]at a),rfl,λh=>absurd rfl h⟩
  .have H:ws.map ab≠[]:=by simpa using G
   have A:=mW D H;rw[List.length_map]at A;rw[pW D H];generalize eT D (ws.map ab)=k at *;rw[<-Õ];obtain⟨B,C,_⟩:=CK D n (ws.drop k) (by rw[Ð];omega);rw[j1];refine⟨λg hg=>?_,?_,λ_=>by simp⟩
   .rcases Î.1 hg with rfl|hg
    .refine⟨λe=>?_,by rw[Ñ];omega,λw E=>List.mem_of_mem_take E⟩
     have:=congrArg List.length e
     rw[Ñ,List.length_nil]at this;omega
    .obtain⟨a,b,c⟩:=B g hg;rw[Ð]at b;exact⟨a,by omega,λw E=>List.mem_of_mem_drop (c w E)⟩
   .rw[List.flatten_cons,C,List.take_append_drop]
def fI(wd:Nat)(tx:ByteArray):List UInt8:=if ar (ae tx)=[]then [35,10]else(mu ((ar (ae tx)).map ab) (eF (wd-2) ((ar (ae tx)).map ab))).flatMap λl=>35::32::(ae l++[10])
def iL(wd:Nat)(t:List Td):List UInt8:=(aN t).txt (bs wd 0 [(0,aN t)]).2++[10]
def iz(t:List Td)(wd:Int):Int:=if wd<10\/100<wd then 1 else if ag t≠0 then ag t else if aR t=9 then 0 else if 400<(aN t).N.length then 3 else 0
def ce(wd:Nat)(t:List Td):List UInt8:=match t with
 | []=>[]
 | x::_=>if x.op=9 then fI wd x.tx else iL wd t
theorem MH{t wd}(h:ag t=0):∃a,o7 t (ce wd t) a:=by
 cases t with
 | nil=>exact absurd h (by decide)
 | cons x r=>
  by_cases B:x.op=9
  .have e:ce wd (x::r)=fI wd x.tx:=by rw[ce,if_pos B]
   rw[e];rcases kL h with⟨y,H,Q,P,N⟩|M
   .obtain⟨rfl,rfl⟩:x=y/\r=[]:=by simpa using H
    by_cases E:ae x.tx=[]
    .have G:fI wd x.tx=[35,10]:=by rw[fI,if_pos (by rw[ar,if_pos E])]
     rw[G];exact⟨_,.empty rfl B E⟩
    .have D:ar (ae x.tx)≠[]:=by
      rw[ar,if_neg E];exact kN _
     obtain⟨R,O⟩:=qQ N;obtain⟨I,J,K⟩:=CK (wd-2) _ (ar (ae x.tx)) Zl
     have G:fI wd x.tx=(j1 (ar (ae x.tx)) (eF (wd-2) ((ar (ae x.tx)).map ab))).flatMap λg=>jy g++[10]:=by
      rw[fI,if_neg D,zW,List.flatMap_map];rfl
     rw[G];refine⟨_,.note rfl B (K D) (λg S=>?_) J E⟩;obtain⟨a,b,c⟩:=I g S;exact⟨a,by omega,λw D=>O w (c w D)⟩
   .obtain⟨y,F,H,_,_,_,C⟩:=M
    have:x=y:=(List.cons.inj H).1
    subst this;rcases C with C|C
    .exact absurd (B.symm.trans C.1) (by decide)
    .exact absurd (B.symm.trans C.1) (by decide)
  .have e:ce wd (x::r)=iL wd (x::r):=by rw[ce,if_neg B]
   rw[e,iL];have L:(aN (x::r)).best wd=Ç (bs wd 0 [(0,aN (x::r))]):=by rw[oD,gC]
   obtain⟨_,A,_⟩:=og L
   generalize(bs wd 0 [(0,aN (x::r))]).2=u at *
   generalize(aN (x::r)).txt u=s at *
   unfold Tr.show at A
   split at A
   .split at A
    .cases A
    .rename_i hl;cases A;exact⟨_,.doc B hl⟩
    .cases A
   .cases A
theorem U4{t}(G):∃u∈(aN t).ways,iL G t=(aN t).txt u++[10]/\(aN t).show u=.ok ((aN t).txt u)/\∀v∈(aN t).ways,¬dG ((aN t).cst G v) ((aN t).cst G u):=by
 have E:(aN t).best G=Ç (bs G 0 [(0,aN t)]):=by rw[oD,gC]
 obtain⟨A,B,C,D⟩:=og E;exact⟨_,A,rfl,B,λv H=>by rw[<-C];exact(D v H).1⟩
theorem DH{t}(h:ag t=0)(I:aR t=9):∃x,t=[x]/\x.op=9/\cX x.tx=0/\aT t=i8 x.tx:=by
 rcases kL h with⟨x,rfl,A,H,E⟩|⟨x,F,rfl,_,_,_,B⟩
 .have G:(Fo.nil).len=aE x:=by simp[aE,A,Fo.len]
  have C:aT [x]=fT x []:=(jJ (x:=x) (F:=.nil) trivial G).1;exact⟨x,rfl,A,E,by rw[C,i8];simp[fT,A]⟩
 .have D:x.op=9:=I;rcases B with⟨B,_⟩|⟨B,_⟩<;>omega
theorem F3:∀g:List Wd,(∀w∈g,∀b∈w,b≠10)->∀b∈jb g,b≠10
 | [],_,b,hb=>by cases hb
 | [w],h,b,hb=>h w (by simp) b (by simpa[jb]using hb)
 | w::u::r,h,b,hb=>by
  have e:jb (w::u::r)=w++32::jb (u::r):=rfl;rw[e]at hb;rcases Ó.1 hb with hb|hb
  .exact h w (by simp) b hb
  .rcases Î.1 hb with rfl|hb
   .decide
   .exact F3 (u::r) (λx A=>h x (List.mem_cons_of_mem _ A)) b hb
theorem LX{b}(h:gE b=true):b≠10:=λe=>by subst e;revert h;decide
theorem H8:∀(gs:List (List Wd)),(∀g∈gs,yi g)->Gd (gs.flatMap λg=>jy g++[10])
 | [],_=>λp q e=>by cases p<;>cases e
 | g::gs,h=>by
  have ih:=H8 gs λx I=>h x (by simp[I])
  have D:=h g (by simp);obtain⟨v,c,e,w,C,H⟩:=vN g D.1 λw C=>(D.2.2 w C).1
  have G:((g::gs).flatMap λg=>jy g++[10])=jy g++([10]++gs.flatMap λg=>jy g++[10]):=by simp
  have B:=F3 g λw C b A=>LX ((D.2.2 w C).2.2 b A)
  rw[G];refine pH (qP λb A=>?_) (pH (rU (by decide)) ih (λE=>absurd E.1 (by decide))) λE=>?_
  .rcases Ó.1 A with A|A
   .simp at A;rcases A with rfl|rfl<;>decide
   .exact B b A
  .have:(jy g).getLast?=Ç c:=by rw[jy,e,<-É,List.getLast?_append];simp
   rw[this]at E;exact LY ((D.2.2 w C).2.2 c H) (Option.some.inj E.1)
theorem Mo{t}(h:ag t=0){s ws}(G:o7 t s ws):Gd s/\∃r,s=r++[10]/\r≠[]:=by
 cases G with
 | @doc r cs cs' h9 hr=>
  have A:=Mf h h9;have B:i5 (aN t) r:=.inr ⟨_,_,_,hr⟩;obtain⟨a,D,e,C⟩:=A.l r B;refine⟨pH (A.g r B) (rU (by decide)) λE=>?_,r,rfl,by rw[e];simp⟩;rw[e]at E;simp at E;exact C.1 E
 | empty=>exact⟨rU (by decide),[35],rfl,by simp⟩
 | @note x gs he ho hne hg hfl hx=>
  refine⟨H8 gs hg,?_⟩;have e:=(List.dropLast_concat_getLast hne).symm;rw[e];refine⟨(gs.dropLast.flatMap λg=>jy g++[10])++jy (gs.getLast hne),by simp,by simp⟩
def aJ(wd:Nat)(ps:List (List Td)):List UInt8:=ps.flatMap (ce wd)
def Ln(B b:Nat)(l:List UInt8)(k:Bool)(w:World):Prop:=a6 375 B b (Lib.byteCells l) [Ö k] w
theorem Ig:j9 375 3:=by unfold j9;kernel_rfl
theorem Ln.cell{B b l k w}(h:Ln B b l k w):w.cell? (b,2)=Ç (Ö k):=a6.cellR h 0
theorem Ln.frozen{B b l k w}(h:Ln B b l k w):w.frozen? (b,2)=false:=a6.frozen h 2
theorem Ln.stored{B b l k w}(h:Ln B b l k w)(A):Ln B b l A (w.setCell (b,2) (Ö A)):=a6.stored h 0 (Ö A)
theorem Qz{B b l k w}(h:Ln B b l k w)(G:B<=w.heap.size)(c z)(H:z=(c.toNat:Int))(I:ſ l<=1000000):
  Calls prog 132 #[Ï b,Ê .u8 z] w λe E=>e=.returned .nilIface/\Ln B b (l++[c]) k E/\am B b w E/\À 5 (Ç b) w E:=by
 subst H;refine(EC 375 B b _ [Ö k] _ w Ig (by decide) h (by rw[Ì];omega) G).mono ?_;rintro e E⟨rfl,A,C,D⟩;refine⟨rfl,?_,C,D⟩;rw[Ln,Í];exact A
theorem Q6{B b:Nat}{l:List UInt8}{k:Bool}{w:World}(h:Ln B b l k w)(G:B<=w.heap.size)(s:ByteArray)(H:ſ l+s.size<=2000000):
  Calls prog 10 #[Ï (Ç ⟨b,0,Û⟩),.string s] w λe E=>(∃z,e=.returned (.tuple #[Ê Ë z,.nilIface]))/\Ln B b (l++s.data.toList) k E/\am B b w E/\À 5 (Ç b) w E:=by
 refine(sx 375 B b _ [Ö k] s w Ig (by decide) h (by rw[Ì];omega) G).mono ?_;rintro e E⟨rfl,A,C,D⟩;refine⟨⟨_,rfl⟩,?_,C,D⟩;rw[Ln,Í];exact A
def L3(B b s:Nat)(r:List Nd)(l:List UInt8)(k:Bool)(w:World)(e:Ending)(w':World):Prop:=
 (∃a b,e=.returned (.slice a (ſ r) b)/\cO s w' a r/\(ſ r)<=b)/\Ln B b l k w'/\am B b w w'/\À 5 (Ç b) w w'
def ix(A:List Nd)(tA:List UInt8)(kA:Bool):Prop:=∀(B b s:Nat)(ds r:List Nd)(a:Option Addr)(cap:Nat)(l:List UInt8)(k:Bool)(w:World),ds=A++r->cO s w a ds->s<B->s≠b->ſ ds<=cap->Ln B b l k w->B<=w.heap.size->ſ l+20*ſ ds<=1000000->
  Calls prog 287 #[Ï (Ç ⟨b,0,Û⟩),.slice a (ſ ds) cap] w (L3 B b s r (l++tA) (k||kA) w)
def mp(B b s:Nat)(n0:Nat)(x:Nd)(r:List Nd)(l:List UInt8)(k:Bool)(w:World)(t p q:Value)(wx:World):Prop:=
 t=Ï (Ç ⟨b,0,Û⟩)/\p=Ï (Ç ⟨n0,0,Û⟩)/\(∃a b,q=.slice a (ſ r) b/\cO s wx a r/\(ſ r)<=b)/\wx.cell? ⟨n0,0,Û⟩=Ç (Ê Ë x.op)/\wx.cell? ⟨n0,1,Û⟩=Ç (.string x.tx)/\wx.cell? ⟨n0,2,Û⟩=Ç (Ê Ë x.n)/\Ln B b l k wx/\am B b w wx/\À 5 (Ç b) w wx
theorem am.weak{B A b x w C}(h:am A x w C)(D:B<=A)(G:B<=x):am B b w C:=⟨h.os,h.tape,h.output,h.size,λk E _=>h.block k (by omega) (by omega)⟩
theorem UC{e b x w E G}(h:À e (Ç b) w E)(H:À e (Ç x) E G)(I:w.heap.size<=x):À e (Ç b) w G:=by
 intro k o A C B;have D:k<w.heap.size:=(Array.getElem?_eq_some_iff.1 A).1;exact H k o (h k o A C B) (λe=>by cases e;omega) B
set_option maxRecDepth 100000
set_option maxHeartbeats 4000000
theorem KU(tx n)(ht:tx.size<=20):ix (⟨1,tx,n⟩::[]) (tx.data.toList) (false):=by
 intro B b s v f a R l k w hd K H I c Z D hl;generalize d:[]++f=r;have i:=aa d;obtain rfl:v=⟨1,tx,n⟩::r:=by rw[hd,<-d];rfl
 obtain⟨o0,ea,m,o,u⟩:=K 0 (by simp);subst ea;simp only[Ã]at c hl⊢;have P:=aa K.rest
 have C:Hid (R=1->cO s w (Ç ↑(s,o0)) r):=λh=>by
  have Y:=K.slid c;rw[if_pos h]at Y;exact Y
 have j:=aa Z;simp only[È,Å,Á]at m o u;have Aa:s<w.heap.size:=by omega
 have Ab:(1:Int)<=(ſ r:Int)+1:=by omega
 have J:Hid (∀O:Obj,am B b w (w.alloc O).drew):=λO=>am.drew ((am.refl B b w).alloc D O)
 have g:Hid (∀O:Obj,À 5 (Ç b) w (w.alloc O).drew):=λO=>((Â _ _ w).alloc O).drew
 have A:Hid (s<B/\s≠b):=⟨H,I⟩;clear K Z H I;go_in
 go_upto_region 1 with fail
 go_cut [0,1,5,6] (λt _ p q a=>mp B b s w.heap.size ⟨1,tx,n⟩ r l k w t p q a)
 case first=>
  go_region
  all_goals (go_wp2_with fail)
  all_goals
   go_meet
   refine⟨rfl,rfl,⟨_,_,rfl,?_,by omega⟩,by simp[go_sem],by simp[go_sem],by simp[go_sem],a6.drew (a6.alloc j.o _),J.o _,g.o _⟩
   first
    | exact P.o.kept ((J.o _).block s A.o.1 A.o.2)
    | exact(C.o (by assumption)).kept ((J.o _).block s A.o.1 A.o.2)
    | exact(C.o rfl).kept ((J.o _).block s A.o.1 A.o.2)
 case rest=>
  obtain⟨rfl,rfl,⟨a',X,rfl,hn,U⟩,x,y,e3,hw,G,W⟩:=hcut;dsimp only at x y e3;have N:=aa hn;have Q:=aa hw;have L:=aa G;have M:=aa W;have S:=Æ D G.size;go_wp2_with fail
  go_region_with (go_at_call 10;refine(Q6 (w:=wc.drew) Q.o S tx (by omega)).mono ?_;rintro e w2⟨⟨z,rfl⟩,h2,E,V⟩)
  all_goals
   go_wp2;go_ret;obtain rfl:f=r:=i.o;rw[Bool.or_false];exact⟨⟨_,_,rfl,cO.kept (w:=wc.drew) N.o (E.block s A.o.1 A.o.2),U⟩,h2,L.o.drew.trans E,M.o.drew.trans V⟩
theorem KV(tx n):ix (⟨2,tx,n⟩::[]) ([32]) (false):=by
 intro B b s v f a R l k w hd K H I c Z D hl;generalize d:[]++f=r;have i:=aa d;obtain rfl:v=⟨2,tx,n⟩::r:=by rw[hd,<-d];rfl
 obtain⟨o0,ea,m,o,u⟩:=K 0 (by simp);subst ea;simp only[Ã]at c hl⊢;have P:=aa K.rest
 have C:Hid (R=1->cO s w (Ç ↑(s,o0)) r):=λh=>by
  have Y:=K.slid c;rw[if_pos h]at Y;exact Y
 have j:=aa Z;simp only[È,Å,Á]at m o u;have Aa:s<w.heap.size:=by omega
 have Ab:(1:Int)<=(ſ r:Int)+1:=by omega
 have J:Hid (∀O:Obj,am B b w (w.alloc O).drew):=λO=>am.drew ((am.refl B b w).alloc D O)
 have g:Hid (∀O:Obj,À 5 (Ç b) w (w.alloc O).drew):=λO=>((Â _ _ w).alloc O).drew
 have A:Hid (s<B/\s≠b):=⟨H,I⟩;clear K Z H I;go_in
 go_upto_region 1 with fail
 go_cut [0,1,5,6] (λt _ p q a=>mp B b s w.heap.size ⟨2,tx,n⟩ r l k w t p q a)
 case first=>
  go_region
  all_goals (go_wp2_with fail)
  all_goals
   go_meet
   refine⟨rfl,rfl,⟨_,_,rfl,?_,by omega⟩,by simp[go_sem],by simp[go_sem],by simp[go_sem],a6.drew (a6.alloc j.o _),J.o _,g.o _⟩
   first
    | exact P.o.kept ((J.o _).block s A.o.1 A.o.2)
    | exact(C.o (by assumption)).kept ((J.o _).block s A.o.1 A.o.2)
    | exact(C.o rfl).kept ((J.o _).block s A.o.1 A.o.2)
 case rest=>
  obtain⟨rfl,rfl,⟨a',X,rfl,hn,U⟩,x,y,z,hw,G,W⟩:=hcut;dsimp only at x y z;have N:=aa hn;have Q:=aa hw;have L:=aa G;have M:=aa W;have S:=Æ D G.size;go_wp2_with fail;refine(Qz Q.o S 32 32 rfl (by omega)).mono ?_;rintro e w2⟨rfl,h2,E,V⟩;go_wp2;go_ret;obtain rfl:f=r:=i.o;rw[Bool.or_false];exact⟨⟨_,_,rfl,N.o.kept (E.block s A.o.1 A.o.2),U⟩,h2,L.o.trans E,M.o.trans V⟩
set_option maxHeartbeats 8000000
theorem zS(k){o}(hk:k=0/\o=3\/k=1/\o=5)(tx n):ix (⟨o,tx,n⟩::[]) ([]) (false):=by
 have c:lZ k:=.mk;rcases hk with⟨rfl,rfl⟩|⟨rfl,rfl⟩
 all_goals
  intro B b s m Z a N l k w hd H D E X W P hl;generalize Y:[]++Z=r;have e:=aa Y;obtain rfl:m=⟨↑(bI c (3:Int) 5),tx,n⟩::r:=by rw[hd,<-Y];rfl
  obtain⟨o0,y,g,i,j⟩:=H 0 (by simp);subst y;simp only[Ã]at X hl⊢;have L:=aa H.rest
  have C:Hid (N=1->cO s w (Ç ↑(s,o0)) r):=λh=>by
   have V:=H.slid X;rw[if_pos h]at V;exact V
  have f:=aa W;simp only[È,Å,Á]at g i j;have z:s<w.heap.size:=by omega
  have Aa:(1:Int)<=(ſ r:Int)+1:=by omega
  have G:Hid (∀O:Obj,am B b w (w.alloc O).drew):=λO=>am.drew ((am.refl B b w).alloc P O)
  have d:Hid (∀O:Obj,À 5 (Ç b) w (w.alloc O).drew):=λO=>((Â _ _ w).alloc O).drew
  have A:Hid (s<B/\s≠b):=⟨D,E⟩;clear H W D E;go_in
  go_upto_region 1 with fail
  go_cut [0,1,5,6] (λt _ p q a=>mp B b s w.heap.size ⟨↑(bI c (3:Int) 5),tx,n⟩ r l k w t p q a)
  case first=>
   go_region
   all_goals (go_wp2_with fail)
   all_goals
    go_meet
    refine⟨rfl,rfl,⟨_,_,rfl,?_,by omega⟩,by simp[go_sem],by simp[go_sem],by simp[go_sem],a6.drew (a6.alloc f.o _),G.o _,d.o _⟩
    first
     | exact L.o.kept ((G.o _).block s A.o.1 A.o.2)
     | exact(C.o (by assumption)).kept ((G.o _).block s A.o.1 A.o.2)
     | exact(C.o rfl).kept ((G.o _).block s A.o.1 A.o.2)
  case rest=>
   obtain⟨rfl,rfl,⟨a',U,rfl,hn,R⟩,u,v,x,hw,Q,S⟩:=hcut;dsimp only at u v x;have K:=aa hn;have M:=aa hw;have I:=aa Q;have J:=aa S;go_wp2;go_ret;obtain rfl:Z=r:=e.o;rw[Bool.or_false,Ô];exact⟨⟨_,_,rfl,K.o,R⟩,M.o,I.o,J.o⟩
theorem KW(tx n):ix (⟨4,tx,n⟩::[]) ([]) (true):=by
 intro B b s j Z a N l k w y I E G X W P z;generalize Y:[]++Z=r;have d:=aa Y;obtain rfl:j=⟨4,tx,n⟩::r:=by rw[y,<-Y];rfl
 obtain⟨o0,v,f,g,i⟩:=I 0 (by simp);subst v;simp only[Ã]at X z⊢;have M:=aa I.rest
 have D:Hid (N=1->cO s w (Ç ↑(s,o0)) r):=λh=>by
  have V:=I.slid X;rw[if_pos h]at V;exact V
 have e:=aa W;simp only[È,Å,Á]at f g i;have x:s<w.heap.size:=by omega
 have Aa:(1:Int)<=(ſ r:Int)+1:=by omega
 have H:Hid (∀O:Obj,am B b w (w.alloc O).drew):=λO=>am.drew ((am.refl B b w).alloc P O)
 have c:Hid (∀O:Obj,À 5 (Ç b) w (w.alloc O).drew):=λO=>((Â _ _ w).alloc O).drew
 have A:Hid (s<B/\s≠b):=⟨E,G⟩;clear I W E G;go_in
 go_upto_region 1 with fail
 go_cut [0,1,5,6] (λt _ p q a=>mp B b s w.heap.size ⟨4,tx,n⟩ r l k w t p q a)
 case first=>
  go_region
  all_goals (go_wp2_with fail)
  all_goals
   go_meet
   refine⟨rfl,rfl,⟨_,_,rfl,?_,by omega⟩,by simp[go_sem],by simp[go_sem],by simp[go_sem],a6.drew (a6.alloc e.o _),H.o _,c.o _⟩
   first
    | exact M.o.kept ((H.o _).block s A.o.1 A.o.2)
    | exact(D.o (by assumption)).kept ((H.o _).block s A.o.1 A.o.2)
    | exact(D.o rfl).kept ((H.o _).block s A.o.1 A.o.2)
 case rest=>
  obtain⟨rfl,rfl,⟨a',U,rfl,hn,R⟩,m,o,u,hw,Q,S⟩:=hcut;dsimp only at m o u;have L:=aa hn;have C:=aa hw;have J:=aa Q;have K:=aa S;have g1:=C.o.cell;have g2:=C.o.frozen;go_wp2;go_ret;obtain rfl:Z=r:=d.o;rw[Bool.or_true,Ô];refine⟨⟨_,_,rfl,L.o.kept (Below.heap_setCell _ _ _ _ A.o.2),R⟩,C.o.stored true,J.o.setCell (.inl rfl) _,K.o.setCell _ rfl _⟩
theorem zT(k){o}(hk:k=0/\o=7\/k=1/\o=8)(tx n A tA kA)(hA:ix A tA kA):ix (⟨o,tx,n⟩::A) (tA) (kA):=by
 have m:lZ k:=.mk;rcases hk with⟨rfl,rfl⟩|⟨rfl,rfl⟩
 all_goals
  intro B b s ds j a R l k w hd K H I g f E hl;generalize i:A++j=r;have x:=aa i;obtain rfl:ds=⟨↑(bI m (7:Int) 8),tx,n⟩::r:=by rw[hd,<-i];rfl
  obtain⟨o0,ea,z,c2,c3⟩:=K 0 (by simp);subst ea;simp only[Ã]at g hl⊢;have P:=aa K.rest
  have D:Hid (R=1->cO s w (Ç ↑(s,o0)) r):=λh=>by
   have d:=K.slid g;rw[if_pos h]at d;exact d
  have y:=aa f;simp only[È,Å,Á]at z c2 c3;have Aa:s<w.heap.size:=by omega
  have Ab:(1:Int)<=(ſ r:Int)+1:=by omega
  have J:Hid (∀O:Obj,am B b w (w.alloc O).drew):=λO=>am.drew ((am.refl B b w).alloc E O)
  have v:Hid (∀O:Obj,À 5 (Ç b) w (w.alloc O).drew):=λO=>((Â _ _ w).alloc O).drew
  have C:Hid (s<B/\s≠b):=⟨H,I⟩;clear K f H I;go_in
  go_upto_region 1 with fail
  go_cut [0,1,5,6] (λt _ p q a=>mp B b s w.heap.size ⟨↑(bI m (7:Int) 8),tx,n⟩ r l k w t p q a)
  case first=>
   go_region
   all_goals (go_wp2_with fail)
   all_goals
    go_meet
    refine⟨rfl,rfl,⟨_,_,rfl,?_,by omega⟩,by simp[go_sem],by simp[go_sem],by simp[go_sem],a6.drew (a6.alloc y.o _),J.o _,v.o _⟩
    first
     | exact P.o.kept ((J.o _).block s C.o.1 C.o.2)
     | exact(D.o (by assumption)).kept ((J.o _).block s C.o.1 C.o.2)
     | exact(D.o rfl).kept ((J.o _).block s C.o.1 C.o.2)
  case rest=>
   obtain⟨rfl,rfl,⟨a',Z,rfl,hn,V⟩,e1,e2,e3,hw,G,Y⟩:=hcut;dsimp only at e1 e2 e3;have N:=aa hn;have Q:=aa hw;have L:=aa G;have M:=aa Y;have S:=Æ E G.size;have u:=aa hA;go_wp2_with fail;refine(u.o B b s r j _ _ l k _ x.o.symm N.o C.o.1 C.o.2 V Q.o S (by omega)).mono ?_;rintro e w3⟨⟨a3,c,rfl,n3,W⟩,h3,U,X⟩;go_wp2;go_ret;exact⟨⟨_,_,rfl,n3,W⟩,h3,L.o.trans U,M.o.trans X⟩
theorem KY(tx n A C tA tC kA kC)(hA:ix A tA kA)(hC:ix C tC kC):ix (⟨9,tx,n⟩::(A++C)) (tA) (kA):=by
 intro B b s ds E a m l k w hd W R S hc hW K hl;generalize z:(A++C)++E=r;have g:=aa z;have j:Hid (ſ r=((A++C):List Nd).length+ſ E):=(show _=_ by rw[<-z,Ä]);obtain rfl:ds=⟨9,tx,n⟩::r:=by rw[hd,<-z];rfl
 obtain⟨o0,ea,c1,c2,c3⟩:=W 0 (by simp);subst ea;simp only[Ã]at hc hl⊢;have f:=aa W.rest
 have H:Hid (m=1->cO s w (Ç ↑(s,o0)) r):=λh=>by
  have h1:=W.slid hc;rw[if_pos h]at h1;exact h1
 have HW:=aa hW;simp only[È,Å,Á]at c1 c2 c3;have Ae:s<w.heap.size:=by omega
 have Ag:(1:Int)<=(ſ r:Int)+1:=by omega
 have V:Hid (∀O:Obj,am B b w (w.alloc O).drew):=λO=>am.drew ((am.refl B b w).alloc K O)
 have HK:Hid (∀O:Obj,À 5 (Ç b) w (w.alloc O).drew):=λO=>((Â _ _ w).alloc O).drew
 have D:Hid (s<B/\s≠b):=⟨R,S⟩;clear W hW R S;go_in
 go_upto_region 1 with fail
 go_cut [0,1,5,6] (λt _ p q a=>mp B b s w.heap.size ⟨9,tx,n⟩ r l k w t p q a)
 case first=>
  go_region
  all_goals (go_wp2_with fail)
  all_goals
   go_meet
   refine⟨rfl,rfl,⟨_,_,rfl,?_,by omega⟩,by simp[go_sem],by simp[go_sem],by simp[go_sem],a6.drew (a6.alloc HW.o _),V.o _,HK.o _⟩
   first
    | exact f.o.kept ((V.o _).block s D.o.1 D.o.2)
    | exact(H.o (by assumption)).kept ((V.o _).block s D.o.1 D.o.2)
    | exact(H.o rfl).kept ((V.o _).block s D.o.1 D.o.2)
 case rest=>
  obtain⟨rfl,rfl,⟨a',Aa,rfl,hn,o⟩,e1,e2,e3,hw,N,y⟩:=hcut;dsimp only at e1 e2 e3;have d:=aa hn;have I:=aa hw;have G:Hid (am B b w wc):=N;have Y:=aa y;have J:B<=wc.heap.size:=Æ K N.size;rw[É]at g;generalize Q:C++E=rc at g;have i:Hid (C++E=rc):=Q;have Z:Hid (ſ rc=ſ C+ſ E):=(show _=_ by rw[<-Q,Ä]);have X:Hid ((A++C).length=ſ A+ſ C):=(show _=_ from Ä);have HA:=aa hA;have HC:Hid (ix C tC kC):=hC;clear hA hC;go_wp2_with fail;refine(HA.o B b s r rc _ _ l k _ g.o.symm (d.o.kept (Below.heap_alloc _ _ _ (by have:=D.o;omega))) D.o.1 D.o.2 o (a6.alloc I.o _) (by simp;omega) (by omega)).mono ?_;rintro e w3⟨⟨a3,Ab,rfl,n3,u⟩,h3,L,P⟩;have Af:b<wc.heap.size:=a6.lt I.o;have hx:=P wc.heap.size _ (heap_alloc_new wc _) (by simp;omega) (by intro c fz h;cases h);have U:=L.size;have Ad:wc.heap.size+1<=w3.heap.size:=by simpa using U
  have HX:Hid (w3.heap[wc.heap.size]?=_):=hx;clear U hx;go_wp2_with fail;refine(HC.o w3.heap.size wc.heap.size s rc E _ _ [] false _ i.o.symm n3 (by have:=D.o;omega) (by have:=D.o;omega) u (a6.unused _ _ _ _ _ HX.o) Zl (by have q1:=j.o;have q2:=Z.o;have q3:=X.o;simp;omega)).mono ?_;rintro e w4⟨⟨a4,Ac,rfl,n4,v⟩,h4,M,x⟩;go_wp2;go_ret;refine⟨⟨_,_,rfl,n4,v⟩,a6.far h3 M (by omega) HX.o (by decide),(G.o.trans (((am.refl _ _ _).alloc J _).trans L)).trans (M.weak (by omega) J),?_⟩;exact UC (Y.o.trans (((Â _ _ _).alloc _).trans P)) x G.o.size
theorem KX(tx n A C tA tC kA kC)(hA:ix A tA kA)(hC:ix C tC kC)(Ae:ſ tA<=20*ſ A):ix (⟨6,tx,n⟩::(A++C)) (tA++tC) (kA||kC):=by
 intro B b s ds P a g l k w hd R M N hc hW H hl;generalize y:(A++C)++P=r;have Z:=aa y;have d:Hid (ſ r=((A++C):List Nd).length+ſ P):=(show _=_ by rw[<-y,Ä]);obtain rfl:ds=⟨6,tx,n⟩::r:=by rw[hd,<-y];rfl
 obtain⟨o0,ea,c1,c2,c3⟩:=R 0 (by simp);subst ea;simp only[Ã]at hc hl⊢;have Y:=aa R.rest
 have E:Hid (g=1->cO s w (Ç ↑(s,o0)) r):=λh=>by
  have h1:=R.slid hc;rw[if_pos h]at h1;exact h1
 have HW:=aa hW;simp only[È,Å,Á]at c1 c2 c3;have Ac:s<w.heap.size:=by omega
 have Ad:(1:Int)<=(ſ r:Int)+1:=by omega
 have Q:Hid (∀O:Obj,am B b w (w.alloc O).drew):=λO=>am.drew ((am.refl B b w).alloc H O)
 have HK:Hid (∀O:Obj,À 5 (Ç b) w (w.alloc O).drew):=λO=>((Â _ _ w).alloc O).drew
 have D:Hid (s<B/\s≠b):=⟨M,N⟩;clear R hW M N;go_in
 go_upto_region 1 with fail
 go_cut [0,1,5,6] (λt _ p q a=>mp B b s w.heap.size ⟨6,tx,n⟩ r l k w t p q a)
 case first=>
  go_region
  all_goals (go_wp2_with fail)
  all_goals
   go_meet
   refine⟨rfl,rfl,⟨_,_,rfl,?_,by omega⟩,by simp[go_sem],by simp[go_sem],by simp[go_sem],a6.drew (a6.alloc HW.o _),Q.o _,HK.o _⟩
   first
    | exact Y.o.kept ((Q.o _).block s D.o.1 D.o.2)
    | exact(E.o (by assumption)).kept ((Q.o _).block s D.o.1 D.o.2)
    | exact(E.o rfl).kept ((Q.o _).block s D.o.1 D.o.2)
 case rest=>
  obtain⟨rfl,rfl,⟨a',z,rfl,hn,j⟩,e1,e2,e3,hw,K,x⟩:=hcut;dsimp only at e1 e2 e3;have X:=aa hn;have f:=aa hw;have U:=aa K;have V:=aa x;have G:=Æ H K.size;rw[É]at Z;generalize L:C++P=rc at Z;have c:=aa L;have W:Hid (ſ rc=ſ C+ſ P):=(show _=_ by rw[<-L,Ä]);have S:Hid ((A++C).length=ſ A+ſ C):=(show _=_ from Ä);have HA:=aa hA;have HC:=aa hC;go_wp2_with fail;refine(HA.o B b s r rc _ _ l k _ Z.o.symm X.o D.o.1 D.o.2 j f.o G (by omega)).mono ?_;rintro e w3⟨⟨a3,Aa,rfl,n3,m⟩,h3,J,u⟩;have I:=Æ G J.size;go_wp2_with fail;refine(HC.o B b s rc P _ _ _ _ _ c.o.symm n3 D.o.1 D.o.2 m h3 I (by have q1:=d.o;have q2:=W.o;have q3:=S.o;simp;omega)).mono ?_;rintro e w4⟨⟨a4,Ab,rfl,n4,o⟩,h4,i,v⟩;go_wp2;go_ret;rw[<-Bool.or_assoc,<-É];exact⟨⟨_,_,rfl,n4,o⟩,h4,U.o.trans (J.trans i),V.o.trans (u.trans v)⟩
end Go.Proofs.YtelcnplcpboonaaGreatDoor
namespace Go.Proofs.YtelcnplcpboonaaGreatDoor
open Go Go.RowKit Go.Maps
theorem UU:laidOutB prog=true:=by kernel_rfl
theorem Q7:(280:TypeId)<prog.types.size:=of_decide_eq_true (by kernel_rfl)
theorem PE:prog.keyTypeAt 3 280=true:=by kernel_rfl
theorem nI:Keyed prog 280:=Keyed.of_law (deep_law_laid UU (m:=3) (by omega) Q7 PE (by rw[Tryz.underlying280]))
theorem QB:prog.keyType 280=true:=by kernel_rfl
theorem Ih:prog.cellsOf 280=2:=by kernel_rfl
theorem Le:prog.cellsOf 3=1:=by kernel_rfl
theorem QA:∃d,prog.types.size=d+1:=⟨412-1,by kernel_rfl⟩
theorem yO(w):(zeroValue 282).run prog w=.ok (Ø #[Ê Ë 0,Ê Ë 0,Ê Ë 0,Ê Ë 0,Ê Ë 0]) w:=by kernel_rfl
theorem ER{n:Nat}(h:n<=1000000):(Lit.int Ë (n:Int)).wf=true:=WalkArith.wf_i64 (by omega)
theorem wu{p c:Nat}(G:p<=1000000)(E:c<=1000000):∃H,keyOf prog 280 (Ø #[Ê Ë (p:Int),Ê Ë (c:Int)])=Ç H:=by
 obtain⟨d,C⟩:=QA;have A:=ER G;have B:=ER E
 have D:(Ø #[(p:Int),(c:Int)]).formed prog 280=true:=by
  simp[Value.formed,Tryz.underlying280,Ih]
 refine⟨.string (keyBytes [.int Ë p,.int Ë c]),?_⟩;unfold keyOf;rw[Tryz.underlying280];simp only[QB,D,Bool.and_self,if_true,C];simp[Program.keyLits,Tryz.underlying280,Tryz.underlying3,Ih,Le,Value.cells,A,B]
def dQ(k:Cv):Value:=Ø #[Ê Ë k.o,Ê Ë k.l,Ê Ë k.ch,Ê Ë k.np,Ê Ë k.nc]
def gP:Cv:=⟨0,0,0,0,0⟩
def l8(v:Value):Option (DataW Value × List MemPlace):=Ç (.held v,[])
def pw(S:Nat->Nat->Bool):Nat:=(Ú 40501).countP λk=>S (k / 101) (k % 101)
theorem Kf(S:Nat->Nat->Bool):pw S<=40501:=by grind [List.countP_le_length,Ú,List.length_range,pw]
def gz(S:Nat->Nat->Bool)(p c:Nat):Nat->Nat->Bool:=λa b=>S a b||(decide (a=p)&&decide (b=c))
theorem Jo{f g:Nat->Bool}(k:Nat):∀(l:List Nat),k∈l->(∀x,f x=true->g x=true)->f k=false->g k=true->l.countP f+1<=l.countP g
 | [],h,_,_,_=>by simp at h
 | a::l,h,h1,h2,h3=>by
  have C:l.countP f<=l.countP g:=List.countP_mono_left λx _=>h1 x
  rw[Ò,Ò];by_cases e:a=k
  .subst e;rw[h2,h3];simp;omega
  .have A:=Jo k l (by rcases Î.1 h with h|h;exact absurd h.symm e;exact h) h1 h2 h3;cases B:f a with
   | true=>rw[h1 a B];omega
   | false=>simp only[Bool.false_eq_true,if_false,Å];exact Æ A (Nat.le_add_right _ _)
theorem T3{S:Nat->Nat->Bool}{p c}(E:p<=400)(D:c<=100)(h:S p c=false):pw S+1<=pw (gz S p c):=by
 have A:(p*101+c) / 101=p:=by omega
 have B:(p*101+c) % 101=c:=by omega
 refine Jo (p*101+c) _ (List.mem_range.2 (by omega)) (λx C=>?_) ?_ ?_
 .simp only[gz,C,Bool.true_or]
 .rw[A,B];exact h
 .simp[gz,A,B]
def fF(w:World)(b:Nat)(C:Nat->Nat->Cv)(S:Nat->Nat->Bool):Prop:=
 ∃D n,w.ownsMap prog 280 l8 b n D/\n<=pw S/\∀p c:Nat,p<=400->c<=100->∀kl,keyOf prog 280 (Ø #[Ê Ë (p:Int),Ê Ë (c:Int)])=Ç kl->
  Maps.has D kl=S p c/\D.atKey kl (.held (dQ gP))=.held (dQ (if S p c=true then C p c else gP))
section
variable {w w':World} {b:Nat} {C:Nat→Nat→Cv} {S:Nat→Nat→Bool} {p c:Nat}
theorem fF.lt(h:fF w b C S):b<w.heap.size:=by
 obtain⟨D,n,h,_⟩:=h;exact h.lt
theorem fF.kept(h:fF w b C S)(I:w'.heap[b]?=w.heap[b]?):fF w' b C S:=by
 obtain⟨D,n,⟨B,A,E,G⟩,H⟩:=h;exact⟨D,n,⟨B,A,I.trans E,G⟩,H⟩
theorem fF.look(h:fF w b C S)(K:p<=400)(J:c<=100):(Instr.lookup 276 (.map (Ç b)) (Ø #[(p:Int),(c:Int)]) false).run prog w=.ok (dQ (if S p c=true then C p c else gP)) w:=by
 obtain⟨D,n,h,_,G⟩:=h;obtain⟨H,E⟩:=wu (p:=p) (c:=c) (by omega) (by omega);obtain⟨v,I,A,B⟩:=h.lookup nI Tryz.underlying276 (yO w) (zd:=.held (dQ gP)) (zp:=[]) rfl E;rw[(G p c K J H E).2]at B;simp only[l8,Option.some.injEq,Prod.mk.injEq,DataW.held.injEq]at B;rw[A,B.1]
theorem fF.look_ok(h:fF w b C S)(K:p<=400)(J:c<=100):(Instr.lookup 276 (.map (Ç b)) (Ø #[(p:Int),(c:Int)]) true).run prog w=.ok (.tuple #[dQ (if S p c=true then C p c else gP),Ö (S p c)]) w:=by
 obtain⟨D,n,h,_,G⟩:=h;obtain⟨H,B⟩:=wu (p:=p) (c:=c) (by omega) (by omega);obtain⟨v,I,A,E⟩:=h.look_ok nI Tryz.underlying276 (yO w) (zd:=.held (dQ gP)) (zp:=[]) rfl B;rw[(G p c K J H B).2]at E;simp only[l8,Option.some.injEq,Prod.mk.injEq,DataW.held.injEq]at E;rw[A,E.1,(G p c K J H B).1]
theorem fF.store(h:fF w b C S)(a:p<=400)(Z:c<=100)(f:S p c=false):
  ∃Y,(Instr.mapUpdate 276 (.map (Ç b)) (Ø #[(p:Int),(c:Int)]) (dQ (C p c))).run prog w=.ok () Y/\fF Y b C (gz S p c)/\w.grownBy Y (Ç b):=by
 obtain⟨D,n,h,N,L⟩:=h;obtain⟨K,A⟩:=wu (p:=p) (c:=c) (by omega) (by omega);obtain⟨O,E,B,M⟩:=h.update nI Tryz.underlying276 (by have:=Kf S;unfold maxLen;omega) A (d:=.held (dQ (C p c))) (ps:=[]) (val:=dQ (C p c)) rfl;refine⟨O,E,⟨_,_,B,Æ (Nat.add_le_add_right N 1) (T3 a Z f),λV R X W U P=>?_⟩,M⟩;by_cases e:V=p/\R=c
 .obtain⟨rfl,rfl⟩:=e;have I:U=K:=by rw[A]at P;exact(Option.some.inj P).symm
  subst I;have H:gz S V R V R=true:=by simp[gz]
  rw[H,if_pos rfl];exact⟨has_put_same h.isMap (nI.key A) _,atKey_put_same h.isMap (nI.key A) _ _⟩
 .have ne:U≠K:=by
   intro I;subst I
   have:=nI.inj P A
   simp at this;omega
  have H:gz S p c V R=S V R:=by
   simp only[gz];by_cases J:V=p
   .have G:¬R=c:=λG=>e ⟨J,G⟩
    simp[G]
   .simp[J]
  rw[H,has_put_other ne,atKey_put_other ne];exact L V R X W U P
end
theorem fF.made(w:World)(C:Nat->Nat->Cv):fF (w.alloc (.map #[] 0)) w.heap.size C (λ_ _=>false):=
 ⟨.map [],0,World.ownsMap_made _ _ _ _,Nat.zero_le _,λ_ _ _ _ _ _=>⟨rfl,rfl⟩⟩
