import Derived.Test.YtelcnplcpboonaaGreatDoorPe00
import Derived.Deep.OwnRows
import Derived.Deep.AppendLies
import Derived.OwnWalk
import Derived.Lib.SmallJoins
import Derived.Laws.AppendOwn
import Derived.Laws.AppendOwnNone
open Go.Proofs.Tryz
open List renaming length->ſ
open Option renaming some->À,none->Ä,map_eq_some_iff->Û
open Go.Value renaming pointer->Á,slice->Â,string->Ï,ownBlock->à,tuple->â,int->è,bool->õ
open List renaming length_append->Ã,eq_nil_of_length_eq_zero->Æ,getElem?_append_right->Ë,set_append_right->Ð,getElem?_eq_some_iff->Ô,getElem?_take_of_lt->Õ,length_cons->Ø,drop_eq_nil_of_le->Ù,all_eq_true->ä,getElem_mem->å,append_nil->ç,mem_map->ï
open Nat renaming add_sub_cancel_left->Å,le_add_right->Ñ,le_refl->ß,sub_self->ð
open Go.RowKit.Below renaming heap_setCell->Ç,refl->é,drew->ô
open Option.some renaming injEq->È
open Go.Obj renaming cells->É
open Array renaming getElem?_eq_some_iff->Ê,getElem?_modify->Ü
open Go.Ending renaming returned->Ì
open Go.World renaming setCell->Í,cell?->Ý,frozen?->í,shape?->ñ
open Go renaming World->Î,wpList_append_own_none->Ú,Value->Þ,wpList_append_own->ã,Calls->æ,wpList->ê,info_parts->ë,maxLen->î,Addr->ó
open Go.Proofs.Tryz renaming prog->Ò
open Go.RowKit renaming Below->Ó
open Go.Lib renaming byteCells->Ö,strCells_length->á,OthersKept->ì,strCells->ò
namespace Go.Proofs.YtelcnplcpboonaaGreatDoor
open Go Go.RowKit
def ep(B:Nat)(w:Î)(a:Option ó)(ws:List ByteArray):Prop:=
 ∀i(h:i<ſ ws),∃b o,a=À ⟨b,o,Ä⟩/\b<B/\w.cell? ⟨b,o+i,Ä⟩=À (Ï ws[i])
theorem ep.W{B w w' a ws}(h:ep B w a ws)(E:Ó B w w'):ep B w' a ws:=by
 intro i D;obtain⟨b,o,e,A,C⟩:=h i D;exact⟨b,o,e,A,(E.cell (p:=⟨b,_,Ä⟩) A).trans C⟩
theorem ep.up{B A w a ws}(h:ep B w a ws)(C:B<=A):ep A w a ws:=by grind [ep]
theorem ep.nil(B w a):ep B w a []:=λi hi=>by simp at hi
theorem ep.take{B w a ws}(h:ep B w a ws)(k):ep B w a (ws.take k):=by
 intro i E;have A:i<ſ ws:=by simp at E;omega
 obtain⟨b,o,e,C,D⟩:=h i A;exact⟨b,o,e,C,by rw[List.getElem_take];exact D⟩
theorem ep.drop{B w b o ws}(h:ep B w (À ⟨b,o,Ä⟩) ws)(k):ep B w (À ⟨b,o+k,Ä⟩) (ws.drop k):=by
 intro i E;have A:k+i<ſ ws:=by simp at E;omega
 obtain⟨G,H,e,C,D⟩:=h (k+i) A;simp only[È,Addr.mk.injEq,and_true]at e;obtain⟨rfl,rfl⟩:=e;refine⟨b,o+k,rfl,C,?_⟩;rw[List.getElem_drop,Nat.add_assoc];exact D
theorem ep.some{B w a ws}(h:ep B w a ws)(C:0<ſ ws):∃b o,a=À ⟨b,o,Ä⟩/\b<B:=by
 obtain⟨b,o,e,A,_⟩:=h 0 C;exact⟨b,o,e,A⟩
abbrev bN(w:Î)(a:Option ó)(ws:List ByteArray):Prop:=ep w.heap.size w a ws
theorem bN.W{w w' a ws}(h:bN w a ws)(A:Ó w w w'):bN w' a ws:=(ep.W h A).up A.size
def eK(B:Nat)(w:Î)(a:Option ó)(ws:List Int):Prop:=
 ∀i(h:i<ſ ws),∃b o,a=À ⟨b,o,Ä⟩/\b<B/\w.cell? ⟨b,o+i,Ä⟩=À (è .i64 ws[i])
theorem eK.W{B w w' a ws}(h:eK B w a ws)(E:Ó B w w'):eK B w' a ws:=by
 intro i D;obtain⟨b,o,e,A,C⟩:=h i D;exact⟨b,o,e,A,(E.cell (p:=⟨b,_,Ä⟩) A).trans C⟩
theorem eK.rest{B w}{b o:Nat}{x ws}(h:eK B w (À ↑(b,o)) (x::ws)):eK B w (À ↑(b,o+1)) ws:=by
 intro i E;obtain⟨D,G,e,A,C⟩:=h (i+1) (by simp;omega);simp only[È,Addr.mk.injEq,and_true]at e;obtain⟨rfl,rfl⟩:=e;refine⟨b,o+1,rfl,A,?_⟩;rw[show o+1+i=o+(i+1) by omega];exact C
theorem eK.slid{B w}{b o C:Nat}{x ws}(h:eK B w (À ↑(b,o)) (x::ws))(D:ſ ws+1<=C):
  eK B w (if C=1 then À ↑(b,o)else À ↑(b,o+1)) ws:=by
 by_cases A:C=1
 .have:ws=[]:=Æ (by omega)
  subst this;exact λi hi=>by simp at hi
 .rw[if_neg A];exact h.rest
abbrev eE(w:Î)(a:Option ó)(ws:List Int):Prop:=eK w.heap.size w a ws
theorem eK.up{B A w a ws}(h:eK B w a ws)(C:B<=A):eK A w a ws:=by grind [eK]
theorem eE.W{w w' a ws}(h:eE w a ws)(A:Ó w w w'):eE w' a ws:=(eK.W h A).up A.size
set_option maxRecDepth 100000
theorem LE(a n c k)(B:k<=c)(W):
  (Instr.slice 72 (Â a n c) Ä (À ↑(k:Int)) Ä).run Ò W=.ok (Â a k c) W:=by
 rw[run_slice_h W 72 a n c Tryz.underlying72 .i64 (k:Int) (by omega) (by omega)];have A:(sizeOf (prog.elem 72)).run Ò W=.ok 1 W:=by kernel_rfl
 rw[A];simp[Result.andThen,sliced,Addr.add]
theorem LF{B w}{b o c k:Nat}{ws}(h:ep B w (À ↑(b,o)) ws)(G:k<=ſ ws)(E:ſ ws<=c):
  ∃A,(∀W:Î,(Instr.slice 72 (Â (À ↑(b,o)) (ſ ws) c) (À ↑(k:Int)) Ä Ä).run Ò W=.ok (Â A (ws.drop k).length (c-k)) W)/\ep B w A (ws.drop k):=by
 refine⟨if c=k then À ↑(b,o)else À ↑(b,o+k),λW=>?_,?_⟩
 .rw[run_slice_l W 72 _ (ſ ws) c Tryz.underlying72 .i64 (k:Int) (by omega) (by omega)];have D:(sizeOf (prog.elem 72)).run Ò W=.ok 1 W:=by kernel_rfl
  rw[D]
  have C:((b,o):ó).add k=(b,o+k):=by
   unfold Addr.add
   split
   .rename_i h;subst h;rfl
   .rfl
  simp[Result.andThen,sliced,C]
 .by_cases e:c=k
  .have:ws.drop k=[]:=Ù (by omega)
   rw[this];exact ep.nil _ _ _
  .rw[if_neg e];exact h.drop k
theorem wZ(b o n c i k:Nat)(hi:i<c)(G:i+k<=c)(W):
  (Instr.slice 72 (Â (À ↑(b,o)) n c) (À ↑(i:Int)) (À ↑((i:Int)+(k:Int))) Ä).run Ò W=.ok (Â (À ↑(b,o+i)) k (c-i)) W:=by
 rw[run_slice_lh W 72 _ n c Tryz.underlying72 .i64 .i64 (i:Int) ((i:Int)+(k:Int)) (by omega) (by omega) (by omega)];have E:(sizeOf (prog.elem 72)).run Ò W=.ok 1 W:=by kernel_rfl
 rw[E]
 have D:((b,o):ó).add i=(b,o+i):=by
  unfold Addr.add
  split
  .rename_i h;subst h;rfl
  .rfl
 have A:((i:Int)+(k:Int)).toNat=i+k:=by omega
 have B:¬c=i:=by omega
 have C:i+k-i=k:=by omega
 simp[Result.andThen,sliced,D,A,B,C]
theorem lW:(prog.info? 3).map (λi=>(i.zero,i.size,i.bytes))=À (À (è .i64 0),1,8):=by kernel_rfl
theorem j7:(prog.info? 9).map (λi=>(i.zero,i.size,i.bytes))=À (À (Ï ⟨#[]⟩),1,16):=by kernel_rfl
def fV(w:Î)(b n:Nat):Prop:=∃a T,w.heap[b]?=À (É a T (0,0))/\a.size=n
theorem fV.lt{w b n}(h:fV w b n):b<w.heap.size:=by grind [fV]
theorem fV.cell{w b n i}(h:fV w b n)(hi:i<n):∃y,w.cell? (b,i)=À y:=by
 obtain⟨A,T,h,B⟩:=h;refine⟨A[i],?_⟩;simp[Ý,h]
theorem fV.frozen{w}{b n i:Nat}(h:fV w b n):w.frozen? (b,i)=false:=by
 obtain⟨A,T,h,B⟩:=h;simp[í,h]
theorem fV.kept{w w' b n}(h:fV w b n)(A:w'.heap[b]?=w.heap[b]?):fV w' b n:=by grind [fV]
theorem fV.set{w}{b n c i:Nat}{v}(h:fV w b n):fV (w.setCell (c,i) v) b n:=by
 by_cases e:c=b
 .subst e;obtain⟨A,T,h,B⟩:=h;exact⟨A.setIfInBounds i v,T,by simp[Í,Ü,h],by simpa using B⟩
 .exact h.kept (Ç _ _ _ _ (Ne.symm e))
theorem DA{n j}(z)(h:j<n):(madeCells #[z] n)[j]?=À z:=by
 simp[madeCells,h,Nat.mod_one]
def je(ks:List Nat):List Þ:=ks.map λ(k:Nat)=>è .i64 (k:Int)
theorem IQ(a b):je (a++b)=je a++je b:=by simp[je]
def jm(B:Nat)(v:Þ)(ks:List Nat)(w:Î):Prop:=w.ownsRow B 3 1 v (ſ ks) (je ks)
theorem aP{B w A}(h:Ó B w A)(n):Ó B w (A.drewN n):=h.trans ⟨rfl,rfl,rfl,ß _,λ_ _=>rfl⟩
theorem EZ{B w D}{b1 A b2 C:Nat}{H I}(h:Ó B w D)(E:B<=b1)(G:B<=b2):Ó B w ((D.setCell (b1,A) H).setCell (b2,C) I):=
 (h.setCell (p:=(b1,A)) E _).setCell (p:=(b2,C)) G _
theorem JI{B w A n c L}(h:jm B (Â A n c) L w)(j)(M:j<ſ L):∃g,A=À ⟨g,0,Ä⟩/\g<w.heap.size/\w.cell? ⟨g,j,Ä⟩=À (è .i64 ((L[j]:Nat):Int)):=by
 rcases h.2 with⟨E,K⟩|⟨g,c,H,E,_,G,I,_,J,C⟩
 .omega
 .simp only[Value.slice.injEq]at E;obtain⟨rfl,rfl,rfl⟩:=E;refine⟨g,rfl,(Ê.1 G).1,?_⟩;have D:(je L)[j]?=À ↑((L[j]:Nat):Int):=by simp[je,M]
  rw[<-C]at D;rw[Õ (by omega)]at D;simp only[Ý,G];simpa using D
theorem gN{w:Î}{I B e A n v J}(h:w.ownsRow B e A v n J)(K:Ó w w I):I.ownsRow B e A v n J:=by
 refine⟨h.1,?_⟩;rcases h.2 with G|⟨g,c,D,rfl,H,E,C⟩
 .exact .inl G
 .exact .inr ⟨g,c,D,rfl,H,(K.block g (Ê.1 E).1).trans E,C⟩
def strCells(xs:List ByteArray):List Þ:=xs.map λx=>Ï x
theorem lB(a b):strCells (a++b)=strCells a++strCells b:=by simp[strCells]
def cP(B:Nat)(v:Þ)(xs:List ByteArray)(w:Î):Prop:=w.ownsRow B 9 1 v (ſ xs) (strCells xs)
theorem jR{B w A n c M}(h:cP B (Â A n c) M w):bN w A M:=by
 intro j I;rcases h.2 with⟨E,L⟩|⟨g,c,H,E,_,G,J,_,K,C⟩
 .omega
 .simp only[Value.slice.injEq]at E;obtain⟨rfl,rfl,rfl⟩:=E;refine⟨g,0,rfl,(Ê.1 G).1,?_⟩;have D:(strCells M)[j]?=À (Ï M[j]):=by simp[strCells,I]
  rw[<-C]at D;rw[Õ (by omega)]at D;rw[Nat.zero_add];simp only[Ý,G];simpa using D
theorem GP{w:Î}{B e A n k v G}(h:w.ownsRow B e A v n G)(E:v.ownBlock=À k):∃D,w.heap[k]?=À (É D e (0,0)):=by
 rcases h.2 with⟨rfl,_⟩|⟨g,c,D,rfl,_,C,_⟩
 .simp[à]at E
 .simp only[à,È]at E;subst E;exact⟨D,C⟩
theorem oU{w M:Î}{B O e K A C n V v L N D}(h:w.ownsRow B e A v n N)(R:w.ownsRow O K C L V D)(S:e≠K)(U:w.grownBy M L.ownBlock):M.ownsRow B e A v n N:=by
 refine h.kept U ?_;cases H:v.ownBlock with
 | none=>exact .inl rfl
 | some k=>
  refine .inr λP=>?_
  obtain⟨I,G⟩:=GP h H;obtain⟨J,E⟩:=GP R P.symm;rw[G]at E;cases E;exact S rfl
structure ak(B b:Nat)(w w':Î):Prop where
 os:w'.os=w.os
 tape:w'.tape=w.tape
 output:w'.output=w.output
 size:w.heap.size<=w'.heap.size
 block:∀k,k<B->k≠b->w'.heap[k]?=w.heap[k]?
section
variable {B b:Nat} {w w' a:Î}
theorem ak.refl(B b w):ak B b w w:=⟨rfl,rfl,rfl,ß _,λ_ _ _=>rfl⟩
theorem ak.trans{c}(h:ak B b a w)(k:ak B b w c):ak B b a c:=
 ⟨k.os.trans h.os,k.tape.trans h.tape,k.output.trans h.output,Nat.le_trans h.size k.size,λi a A=>(k.block i a A).trans (h.block i a A)⟩
theorem ak.drew(h:ak B b a w):ak B b a w.drew:=⟨h.os,h.tape,h.output,h.size,h.block⟩
theorem ak.of(h:Ó B w w'):ak B b w w':=⟨h.os,h.tape,h.output,h.size,λk A _=>h.block k A⟩
theorem ak.W(h:ak B b w w')(C:B<=b):Ó B w w':=⟨h.os,h.tape,h.output,h.size,λk A=>h.block k A (by omega)⟩
theorem ak.mono{B'}(h:ak B b w w')(A:B'<=B):ak B' b w w':=⟨h.os,h.tape,h.output,h.size,λk C=>h.block k (by omega)⟩
theorem ak.alloc(h:ak B b a w)(A:B<=w.heap.size)(o):ak B b a (w.alloc o):=
 h.trans (.of ((é B w).alloc A o))
theorem ak.setCell(h:ak B b a w){p}(D:p.block=b\/B<=p.block)(u):ak B b a (w.setCell p u):=
 h.trans ⟨rfl,rfl,rfl,by simp[Í],λk C A=>Ç _ _ _ _ (by omega)⟩
theorem ak.grown{row}(h:ak B b a w)(A:w.grownBy w' row)(D:B<=w.heap.size)(C:∀k,row=À k->B<=k):ak B b a w':=
 h.trans ⟨A.os,A.tape,A.output,A.size,λk E _=>A.block k (by omega) (λe=>by have:=C k e.symm;omega)⟩
theorem ak.cell(h:ak B b w w'){p}(C:p.block<B)(A:p.block≠b):w'.cell? p=w.cell? p:=World.cell?_of_block (w:=w) (h.block p.block C A)
end
theorem ak.low{B b w C}(h:ak B b w C){A}(D:A<=B)(E:A<=b):Ó A w C:=(h.mono D).W E
theorem qo(b o k:Nat):((b,o):ó).add k=(b,o+k):=by
 unfold Addr.add
 split
 .rename_i h;subst h;rfl
 .rfl
theorem uF{w E rest o a}{Q:Exit->Act->Î->Prop}(I:o.guard=Ä)(s x)
  (i:o.op=.call {callee:=.builtin .append,args:=#[s,x],argTypes:=#[72,72]})
  (B v d) (k:a.eval s=v) (C:cP B v d w)
  (f n ws) (r:ſ ws=n) (wc) (l:a.eval x=Â f n wc) (p:bN w f ws) (K:f=Ä->n=0/\wc=0)
  (m) (q:ſ d+n=m) (t:m<=1000000) (D:B<=w.heap.size)
  (h:∀A c Z,cP B (Â A m c) (d++ws) Z->w.grownBy Z v.ownBlock->ê Ò E Q rest (a.put o.dst (Â A m c)) Z):ê Ò E Q (o::rest) a w:=by
 subst r q;obtain⟨W,V,P,R,S⟩:=ë j7
 have U:∀G Z,cP B G (d++ws) Z->w.grownBy Z v.ownBlock->ê Ò E Q rest (a.put o.dst G) Z:=by
  intro G Z H N
  obtain⟨A,c,rfl⟩:∃A c,G=Â A (ſ d+ſ ws) c:=by
   rcases H.2 with⟨M,L⟩|⟨g,c,X,M,_⟩
   .rw[Ã]at L;exact⟨Ä,0,by rw[M,L]⟩
   .rw[Ã]at M;exact⟨_,c,M⟩
  exact h A c Z H N
 cases f with
 | none=>
  obtain⟨L,rfl⟩:=K rfl;obtain rfl:ws=[]:=Æ L;refine Ú I s x 72 i B 9 W 1 Tryz.underlying72 V v (ſ d) (strCells d) k C l ?_;refine U v w ?_ ⟨rfl,rfl,rfl,ß _,λ_ _ _=>rfl⟩;rw[ç];exact C
 | some ad=>
  refine ã w I s x 72 i B 9 W _ 1 16 Tryz.underlying72 V P R S rfl (by decide) v (ſ d) (strCells d) k C ad (ſ ws) wc (strCells ws) l (by simp[strCells]) ?_ ?_ (by unfold î;omega) (by omega) D ?_
  .intro j u O;have J:j<ſ ws:=by have:=(Ô.1 O).1;simpa[strCells]using this
   obtain⟨b,o,e,_,c⟩:=p j J;simp only[È]at e;subst e;rw[qo]
   have:u=Ï ws[j]:=by simp[strCells,J]at O;exact O.symm
   rw[this];exact c
  .intro u Y;obtain⟨x,_,rfl⟩:=ï.1 Y;rfl
  .intro G Z H N _;rw[<-lB]at H;refine U G Z ?_ N;show Z.ownsRow _ _ _ _ _ _;rw[Ã];exact H
def gO(ks:List Int):List Þ:=ks.map λk=>è .i64 k
theorem xN(a b):gO (a++b)=gO a++gO b:=by simp[gO]
def mo(B:Nat)(v:Þ)(ks:List Int)(w:Î):Prop:=w.ownsRow B 3 1 v (ſ ks) (gO ks)
theorem TI{w E rest o a}{Q:Exit->Act->Î->Prop}(I:o.guard=Ä)(s x)
  (i:o.op=.call {callee:=.builtin .append,args:=#[s,x],argTypes:=#[73,73]})
  (B v d) (k:a.eval s=v) (C:mo B v d w)
  (f n ws) (r:ſ ws=n) (wc) (l:a.eval x=Â f n wc) (p:eE w f ws) (K:f=Ä->n=0/\wc=0)
  (m) (q:ſ d+n=m) (t:m<=1000000) (D:B<=w.heap.size)
  (h:∀A c Z,mo B (Â A m c) (d++ws) Z->w.grownBy Z v.ownBlock->ê Ò E Q rest (a.put o.dst (Â A m c)) Z):ê Ò E Q (o::rest) a w:=by
 subst r q;obtain⟨W,V,P,R,S⟩:=ë lW
 have U:∀G Z,mo B G (d++ws) Z->w.grownBy Z v.ownBlock->ê Ò E Q rest (a.put o.dst G) Z:=by
  intro G Z H N
  obtain⟨A,c,rfl⟩:∃A c,G=Â A (ſ d+ſ ws) c:=by
   rcases H.2 with⟨M,L⟩|⟨g,c,X,M,_⟩
   .rw[Ã]at L;exact⟨Ä,0,by rw[M,L]⟩
   .rw[Ã]at M;exact⟨_,c,M⟩
  exact h A c Z H N
 cases f with
 | none=>
  obtain⟨L,rfl⟩:=K rfl;obtain rfl:ws=[]:=Æ L;refine Ú I s x 73 i B 3 W 1 Tryz.underlying73 V v (ſ d) (gO d) k C l ?_;refine U v w ?_ ⟨rfl,rfl,rfl,ß _,λ_ _ _=>rfl⟩;rw[ç];exact C
 | some ad=>
  refine ã w I s x 73 i B 3 W _ 1 8 Tryz.underlying73 V P R S rfl (by decide) v (ſ d) (gO d) k C ad (ſ ws) wc (gO ws) l (by simp[gO]) ?_ ?_ (by unfold î;omega) (by omega) D ?_
  .intro j u O;have J:j<ſ ws:=by have:=(Ô.1 O).1;simpa[gO]using this
   obtain⟨b,o,e,_,c⟩:=p j J;simp only[È]at e;subst e;rw[qo]
   have:u=ws[j]:=by simp[gO,J]at O;exact O.symm
   rw[this];exact c
  .intro u Y;obtain⟨x,_,rfl⟩:=ï.1 Y;rfl
  .intro G Z H N _;rw[<-xN]at H;refine U G Z ?_ N;show Z.ownsRow _ _ _ _ _ _;rw[Ã];exact H
theorem Uy{s}(C:1<=s.size)(D:s.size<=20)(h:∀k(h:k<s.size),fS s[k]=true):fH s=true:=by
 simp only[fH,C,D,decide_true,Bool.true_and,ä];intro b A;obtain⟨i,B,rfl⟩:=List.getElem_of_mem A;exact h i (by rw[<-fu];exact B)
theorem KA{s k}(h:k<s.size)(A:fS s[k]=false):fH s=false:=by
 cases e:fH s with
 | false=>rfl
 | true=>
  simp only[fH,Bool.and_eq_true,ä]at e
  have:=e.2 s[k] (by
   have:k<ſ s.data.toList:=by rw[fu];exact h
   exact å this)
  rw[A]at this;cases this
theorem M2{b}(h:fS b=false):(b.toNat:Int)<32\/(¬(b.toNat:Int)<32/\126<(b.toNat:Int)):=by
 simp[fS]at h;omega
theorem OE{b}(h:fS b=true):¬(b.toNat:Int)<32/\¬126<(b.toNat:Int):=by
 simp[fS]at h;omega
theorem GX{s:ByteArray}(h:s.size≠0):¬s.toList=[]:=by
 rw[ByteArray.toList_eq];intro e
 have:=fu s
 rw[e]at this;exact h this.symm
theorem Ra{op:Int}(A:¬op<1)(B:¬9<op):op=1\/op=2\/op=3\/op=4\/op=5\/op=6\/op=7\/op=8\/op=9:=by omega
theorem RB{A}(h:400<ſ A):bM A=3:=by rw[bM,if_pos h]
theorem RC{A k}(D:ſ A<=400)(C:k<ſ A)(B:∀x∈A.take k,bz x=0)(h:bz A[k]≠0):bM A=bz A[k]:=by grind [CH,bM,bz]
theorem Ub{A}(C:ſ A<=400)(B:∀x∈A,bz x=0):bM A=if bB A 0 1=À (ſ A) then 0 else 2:=by
 rw[bM,if_neg (by omega),if_pos (Ju A B)]
theorem VH{A:List Nd}{k}(h:¬k<ſ A)(B:∀x∈A.take k,bz x=0):∀x∈A,bz x=0:=by
 rw[List.take_of_length_le (by omega)]at B;exact B
theorem S4{A:List Nd}{k}(h:k<ſ A)(C:∀x∈A.take k,bz x=0)(B:bz A[k]=0):∀x∈A.take (k+1),bz x=0:=by grind [List.take_succ_eq_append_getElem,bz]
def lU(o:Option Nat):Int:=match o with|some j=>j|none=>-1
theorem fg{A:List Nd}{i x r}(h:A.drop i=x::r):∃a:i<ſ A,A[i]=x/\A.drop (i+1)=r:=by grind [Nat.lt_or_ge,Ù,List.drop_eq_getElem_cons]
theorem pX{B A r:List Nd}{i}(h:B.drop i=A++r):B.drop (i+ſ A)=r:=by
 rw[<-List.drop_drop,h,List.drop_left]
set_option maxHeartbeats 4000000
theorem Nq(op:Int)(w):Cw 253 #[op] w (dL op):=by
 unfold Cw;by_cases A:op=6
 .subst A;go_in;go_wp2;go_ret;exact⟨rfl,rfl⟩
 by_cases D:op=9
 .subst D;go_in;go_wp2;go_ret;exact⟨rfl,rfl⟩
 by_cases B:op=7
 .subst B;go_in;go_wp2;go_ret;exact⟨rfl,rfl⟩
 by_cases C:op=8
 .subst C;go_in;go_wp2;go_ret;exact⟨rfl,rfl⟩
 have e:dL op=0:=by simp[dL,A,B,C,D]
 rw[e];go_in;go_wp2;go_ret;exact⟨rfl,rfl⟩
theorem Jy(s w):Cw 252 #[Ï s] w (õ (fH s)):=by
 unfold Cw;by_cases L:(s.size:Int)<1
 .have e:fH s=false:=by simp[fH];omega
  rw[e];go_in;go_wp2;go_ret;exact⟨rfl,rfl⟩
 by_cases M:20<(s.size:Int)
 .have e:fH s=false:=by simp[fH];omega
  rw[e];go_in;go_wp2;go_ret;exact⟨rfl,rfl⟩
 go_in;go_wp2
 go_loopw [14] (λi wr=>wr=w/\∃k:Nat,k<=s.size/\i=k/\∀j(h:j<s.size),j<k->fS s[j]=true) (λi _=>s.size-(intOf i).toNat)
 case atStart=>exact⟨rfl,0,Nat.zero_le _,rfl,λj _ K=>by omega⟩
 case round=>
  obtain⟨rfl,k,N,rfl,A⟩:=hrel;have H:=aa A;by_cases G:k<s.size
  .cases C:fS s[k]with
   | false=>
    have B:=aa (KA G C);have D:=M2 C;rcases D with D|⟨D,J⟩
    .go_wp2;go_ret;exact⟨by rw[B.o];rfl,rfl⟩
    .go_wp2;go_ret;exact⟨by rw[B.o];rfl,rfl⟩
   | true=>
    have I:=aa C;obtain⟨D,J⟩:=OE C;go_wp2
    go_roundw
    case rel=>
     refine⟨by trivial,k+1,by omega,by go_num,?_⟩;intro j h K;by_cases E:j=k
     .subst E;exact I.o
     .exact H.o j h (by omega)
    case measure=>simp[intOf];omega
  .have B:=aa (Uy (by omega) (by omega) λj h=>H.o j h (by omega));go_wp2;go_ret;exact⟨by rw[B.o];rfl,rfl⟩
theorem IG(x)(w:Î):Cb 226 #[Q8 x] w (aF (bz x)):=by
 unfold Cb;obtain⟨D,C,n⟩:=x;by_cases H:D<1
 .have e:bz ⟨D,C,n⟩=1:=by simp[bz,H]
  rw[e,o5];go_in;go_wp2;go_ret;exact⟨rfl,Zb.alloc Zl _⟩
 by_cases I:9<D
 .have e:bz ⟨D,C,n⟩=1:=by simp[bz,I]
  rw[e,o5];go_in;go_wp2;go_ret;exact⟨rfl,Zb.alloc Zl _⟩
 rcases Ra H I with rfl|rfl|rfl|rfl|rfl|rfl|rfl|rfl|rfl
 case inl=>
  by_cases B:n=0
  .subst B;cases K:fH C with
   | false=>
    have e:bz ⟨1,C,0⟩=5:=by simp[bz,K]
    rw[e,Hw];go_in;go_wp2_with(go_at_call 252;refine(Jy _ _).mono ?_;rintro e M⟨rfl,rfl⟩);go_ret;exact⟨rfl,Zb.alloc Zl _⟩
   | true=>
    have e:bz ⟨1,C,0⟩=0:=by simp[bz,K]
    rw[e,cS];go_in;go_wp2_with(go_at_call 252;refine(Jy _ _).mono ?_;rintro e M⟨rfl,rfl⟩);go_ret;exact⟨rfl,Zb.alloc Zl _⟩
  .have e:bz ⟨1,C,n⟩=2:=by simp[bz,B]
   rw[e,pF];have E:(n != 0)=true:=by simp[B]
   go_in;go_wp2;go_ret;exact⟨rfl,Zb.alloc Zl _⟩
 case inr.inr.inr.inr.inr.inr.inl=>
  by_cases A:C.size=0
  .obtain rfl:=DS A;by_cases B:n<0
   .have e:bz ⟨7,⟨#[]⟩,n⟩=1:=by simp[bz,B,A]
    rw[e,o5];go_in;go_wp2;go_ret;exact⟨rfl,Zb.alloc Zl _⟩
   by_cases J:8<n
   .have e:bz ⟨7,⟨#[]⟩,n⟩=1:=by simp[bz,J,A]
    rw[e,o5];go_in;go_wp2;go_ret;exact⟨rfl,Zb.alloc Zl _⟩
   have e:bz ⟨7,⟨#[]⟩,n⟩=0:=by simp[bz,B,J,A]
   rw[e,cS];go_in;go_wp2;go_ret;exact⟨rfl,Zb.alloc Zl _⟩
  .have e:bz ⟨7,C,n⟩=2:=by simp[bz,A]
   rw[e,pF];have G:=GX A;go_in;go_wp2;go_ret;exact⟨rfl,Zb.alloc Zl _⟩
 all_goals
  by_cases A:C.size=0
  .obtain rfl:=DS A;by_cases B:n=0
   .subst B;rw[show ∀k:Int,k=0->aF k=.nilIface from λk L=>by rw[L];rfl]
    .clear A;go_in;go_wp2;go_ret;exact⟨rfl,Zb.alloc Zl _⟩
    .simp[bz,A]
   .have E:(n != 0)=true:=by simp[B]
    rw[show ∀k:Int,k=2->aF k=.iface 50 (è .i64 2)from λk L=>by rw[L];rfl]
    .clear A B;go_in;go_wp2;go_ret;exact⟨rfl,Zb.alloc Zl _⟩
    .simp[bz,B]
  .have G:=GX A;rw[show ∀k:Int,k=2->aF k=.iface 50 (è .i64 2)from λk L=>by rw[L];rfl]
   .clear A;go_in;go_wp2;go_ret;exact⟨rfl,Zb.alloc Zl _⟩
   .simp[bz,A]
end Go.Proofs.YtelcnplcpboonaaGreatDoor
namespace Go.Proofs.YtelcnplcpboonaaGreatDoor
def kM(f g:Nat->List Int->Except Int (List UInt8 × List Int))(deep:Nat)(ws:List Int):Except Int (List UInt8 × List Int):=
 match f deep ws with
 | .error e=>.error e
 | .ok (s,ws1)=>match g deep ws1 with
  | .error e=>.error e
  | .ok (t,ws2)=>.ok (s++t,ws2)
def kJ(f:Nat->List Int->Except Int (List UInt8 × List Int))(sA:ByteArray)(fl:Bool)(deep:Nat)(ws:List Int):Except Int (List UInt8 × List Int):=
 match ws with
 | []=>.error 2
 | c::ws=>if c=1 then f deep ws else if fl=true then .ok (sA.data.toList,ws)else .error 4
def lH(f g:Nat->List Int->Except Int (List UInt8 × List Int))(deep:Nat)(ws:List Int):Except Int (List UInt8 × List Int):=
 match ws with
 | []=>.error 2
 | c::ws=>if c=0 then f deep ws else g deep ws
theorem Uq{t:Tr}{s}(h:t.Wf)(e:t.flat=À s):ſ s<=20*ſ t.N:=by
 have:=lN t h
 rw[e]at this;exact this
theorem jV:∀(t:Tr)(A:Nat)(ws:List Int)(u:List UInt8)(v:List Int),t.Wf->t.lay A ws=.ok (u,v)->A+8*ſ t.N<=3300->ſ u<=4000*ſ t.N
 | .leaf x,A,ws,u,v,h,e,hd=>by
  obtain⟨_,_,_,_,G,_⟩:=fJ h.1;simp only[Tr.lay]at e;simp only[Tr.N,Ø,List.length_nil]at hd⊢
  split at e
  .rename_i h1;cases e
   have:=jS (G h1)
   rw[fu];omega
  .split at e
   .cases e;simp
   .cases e;simp;omega
 | .one x a,A,ws,u,v,h,e,hd=>by
  obtain⟨_,_,_,_,_,H⟩:=fJ h.1;simp only[Tr.lay]at e;simp only[Tr.N,Ø]at hd⊢
  split at e
  .rename_i h7
   have:=H h7
   have:=jV a _ ws u v h.2.2 e (by omega)
   omega
  .match ws,e with
   | c::ws,e=>
    simp only at e
    split at e
    .have:=jV a A ws u v h.2.2 e (by omega)
     omega
    .cases E:a.flat with
     | none=>rw[E]at e;cases e
     | some w=>
      rw[E]at e;cases e
      have:=Uq h.2.2 E
      omega
 | .two x a b,A,ws,u,v,h,e,hd=>by
  simp only[Tr.lay]at e;simp only[Tr.N,Ø,Ã]at hd⊢
  split at e
  .cases C:a.lay A ws with
   | error e0=>rw[C]at e;cases e
   | ok p=>
    obtain⟨I,B⟩:=p;rw[C]at e;simp only at e;cases D:b.lay A B with
    | error e0=>rw[D]at e;cases e
    | ok q=>
     obtain⟨J,K⟩:=q;rw[D]at e;cases e
     have:=jV a A ws I B h.2.2.1 C (by omega)
     have:=jV b A B J _ h.2.2.2 D (by omega)
     rw[Ã];omega
  .match ws,e with
   | c::ws,e=>
    simp only at e
    split at e
    .have:=jV a A ws u v h.2.2.1 e (by omega)
     omega
    .have:=jV b A ws u v h.2.2.2 e (by omega)
     omega
theorem F8{x a b}(h:x.op=6):Tr.lay (.two x a b)=kM a.lay b.lay:=by
 funext deep ws
 simp only[Tr.lay,kM,if_pos h];rfl
theorem JC{x a b}(h:x.op=9):Tr.lay (.two x a b)=lH a.lay b.lay:=by
 funext deep ws
 simp only[Tr.lay,lH,if_neg (show ¬x.op=6 by omega)];rfl
theorem CM{x a}(h:x.op=8):Tr.lay (.one x a)=kJ a.lay a.line a.isFlat:=by
 funext deep ws
 simp only[Tr.lay,kJ,if_neg (show ¬x.op=7 by omega)];cases ws with
 | nil=>rfl
 | cons c ws=>
  simp only[xW,Tr.isFlat];cases a.flat with
  | none=>rfl
  | some s=>rfl
def ei(r:Except Int (List UInt8)):ByteArray:=match r with| .ok s=>⟨s.toArray⟩| .error _=>⟨#[]⟩
def qc(r:Except Int (List UInt8)):Int:=match r with| .ok _=>0| .error e=>e
theorem Og{t:Tr}{ws k}(h:k<ſ ws)(A:ws[k]≠0)(B:ws[k]≠1):t.show ws=.error 1:=by grind [Tr.show,å]
theorem AW{t:Tr}{ws:List Int}(h:ez ws):t.show ws=match t.lay 0 ws with| .error e=>.error e| .ok (s,[])=>.ok s| .ok (_,_::_)=>.error 2:=by
 unfold Tr.show;rw[if_pos (pC.2 h)];rfl
noncomputable def gn(ds:List Nd)(ws:List Int):Except Int (List UInt8):=if h:bM ds=0 then(lT ds h).show ws else .error (bM ds)
theorem DR{A ws}(h:bM A≠0):gn A ws=.error (bM A):=dif_neg h
theorem xI{A ws}{t:Tr}(C:t.Wf)(e:A=t.N)(B:ſ A<=400):gn A ws=t.show ws:=by grind [bM,qH,gn,vF]
theorem Vr{A ws u}(h:gn A ws=.ok u):bM A=0/\(ſ A)<=400/\∃t:Tr,t.Wf/\A=t.N/\t.show ws=.ok u:=by grind [bM,gn,mD,mX,my,DR]
theorem Hb:∀(t:Tr)(u:List Int),u∈t.ways->ſ u<=ſ t.N:=by intro t;induction t<;>grind [Tr.ways,Tr.N]
theorem SR{t:Tr}{ws u}(h:t.show ws=.ok u):ez ws/\t.lay 0 ws=.ok (u,[]):=by grind [Tr.show,ez]
theorem SQ{I ws u}(h:gn I ws=.ok u):ſ u<=1600000/\(ſ ws)<=400:=by
 obtain⟨_,H,t,E,e,A⟩:=Vr h;have G:=(yb t ws).1 ⟨u,A⟩;have B:=Hb t ws G;obtain⟨_,C⟩:=SR A;rw[<-e]at B;have D:=jV t 0 ws u [] E C (by rw[<-e];omega);rw[<-e]at D;omega
end Go.Proofs.YtelcnplcpboonaaGreatDoor
namespace Go.Proofs.YtelcnplcpboonaaGreatDoor
open Go Go.RowKit
set_option maxRecDepth 100000
set_option maxHeartbeats 1000000
theorem Jr(S a V U w)(X:aS w a S)(Y:ſ S<=400)(hi:U<=ſ S):
  æ Ò 227 #[Â a (ſ S) V,U] w λe W=>((∃j:Nat,bB S U 1=À j/\e=Ì (â #[j,õ true]))\/(bB S U 1=Ä/\e=Ì (â #[ſ S,õ false])))/\w=W:=by
 have G:=aa X;go_in;go_wp2
 go_loopw [1,6] (λi m wr=>wr=w/\∃k q:Nat,k<=ſ S/\q<=k+1/\i=k/\m=q/\bB S U 1=bB S k q) (λi _ _=>ſ S-(intOf i).toNat)
 case atStart=>exact⟨rfl,U,1,hi,by omega,rfl,rfl,rfl⟩
 case round=>
  obtain⟨rfl,k,q,P,R,rfl,rfl,K⟩:=hrel;have C:=aa K;by_cases J:q=0
  .subst J;have A:=aa (C.o.trans (Jt _ _));go_wp2;go_ret2;exact⟨.inl ⟨k,A.o,rfl⟩,rfl⟩
  .obtain⟨E,rfl⟩:∃E,q=E+1:=⟨q-1,by omega⟩;by_cases B:k<ſ S
   .obtain⟨b,o,I,O,L,M,N⟩:=G.o k B;have H:=aa (C.o.trans (Js _ _ _ B));have Q:=wX S[k].op;subst I;go_wp2_with(go_at_call 253;refine(Nq _ _).mono ?_;rintro e W⟨rfl,rfl⟩)
    go_roundw
    case rel=>
     exact⟨by trivial,k+1,dL S[k].op+E,by omega,by omega,by go_num,by go_num,H.o⟩
    case measure=>simp[intOf];omega
   .have D:k=ſ S:=by omega
    subst D;have A:=aa (C.o.trans (CD _ _ _ (by omega)));go_wp2;go_ret2;exact⟨.inr ⟨A.o,rfl⟩,rfl⟩
theorem I0{A C j}(a B w)(D:aS w a A)(E:ſ A<=400)(hi:C<=ſ A)(h:bB A C 1=À j):
  Cw 227 #[Â a (ſ A) B,è .i64 C] w (â #[è .i64 j,õ true]):=by unfold Cw;grind [Jr,aS,bB]
theorem Pq{A C}(a B w)(J:aS w a A)(K:ſ A<=400)(hi:C<=ſ A)(h:bB A C 1=Ä):
  æ Ò 227 #[Â a (ſ A) B,C] w λe G=>e=Ì (â #[ſ A,õ false])/\w=G:=
 (Jr A a B C w J K hi).mono λe G⟨H,I⟩=>⟨by
  rcases H with⟨L,D,E⟩|⟨_,E⟩
  .rw[h]at D;cases D
  .exact E,I⟩
set_option maxHeartbeats 2000000
def dJ(T:TypeId)(B b:Nat)(pre:List Þ)(p:Þ)(bs R:List Þ)(w:Î):Prop:=
 ∃v,w.heap[b]?=À (É (pre++p::v::R).toArray T (0,0))/\w.ownsRowF B 5 1 v (ſ bs) bs/\v.ownBlock≠À b/\(bs=[]->v=Â Ä 0 0)
def cQ(T:TypeId)(B b:Nat)(pre bs R:List Þ)(w:Î):Prop:=
 dJ T B b pre (Á Ä) bs R w\/dJ T B b pre (Á (À ⟨b,ſ pre,Ä⟩)) bs R w
section
variable {T:TypeId} {B b:Nat} {p v:Þ} {pre bs R:List Þ} {w:Î}
theorem s8(A:w.heap[b]?=À (É (pre++p::v::R).toArray T (0,0)))(i:Nat):w.cell? (b,i)=(pre++p::v::R)[i]?:=by
 simp[Ý,A]
theorem wW(A:w.heap[b]?=À (É (pre++p::v::R).toArray T (0,0))):w.cell? (b,ſ pre)=À p:=by
 rw[s8 A,Ë Zl,ð];rfl
theorem ry(A:w.heap[b]?=À (É (pre++p::v::R).toArray T (0,0))):w.cell? (b,ſ pre+1)=À v:=by
 rw[s8 A,Ë (Ñ _ _),Å];rfl
theorem EG(A:w.heap[b]?=À (É (pre++p::v::R).toArray T (0,0))):b<w.heap.size:=by grind
theorem dJ.cell0(h:dJ T B b pre p bs R w):w.cell? (b,ſ pre)=À p:=by
 obtain⟨v,A,_⟩:=h;exact wW A
theorem dJ.cellP(h:dJ T B b pre p bs R w)(i)(hi:i<ſ pre):w.cell? (b,i)=pre[i]?:=by
 obtain⟨v,A,_⟩:=h;rw[s8 A,List.getElem?_append_left hi]
theorem dJ.cellR(h:dJ T B b pre p bs R w)(i):w.cell? (b,ſ pre+(i+2))=R[i]?:=by
 obtain⟨v,A,_⟩:=h;rw[s8 A,Ë (Ñ _ _),Å];rfl
theorem dJ.shape(h:dJ T B b pre p bs R w):w.shape? b=À (T,ſ pre+(ſ R+2)):=by
 obtain⟨v,A,_⟩:=h;simp[ñ,A]
theorem dJ.lt(h:dJ T B b pre p bs R w):b<w.heap.size:=by
 obtain⟨v,A,_⟩:=h;exact EG A
theorem ww(A:w.heap[b]?=À (É (pre++p::v::R).toArray T (0,0)))(i q):(w.setCell (b,i) q).heap[b]?=À (É ((pre++p::v::R).set i q).toArray T (0,0)):=by
 simp[Í,Ü,A]
theorem dJ.used(h:dJ T B b pre p bs R w)(q):dJ T B b pre q bs R (w.setCell (b,ſ pre) q):=by
 obtain⟨v,E,C,A,D⟩:=h;refine⟨v,?_,?_,A,D⟩
 .rw[ww E,Ð _ _ Zl,ð];rfl
 .exact C.kept (row:=À b) ⟨rfl,rfl,rfl,by simp[Í],λk _ G=>Ç _ _ _ _ (λe=>G (by simp[e]))⟩ (Or.inr A)
theorem dJ.stored(h:dJ T B b pre p bs R w)(i q):dJ T B b pre p bs (R.set i q) (w.setCell (b,ſ pre+(i+2)) q):=by
 obtain⟨v,E,C,A,D⟩:=h;refine⟨v,?_,?_,A,D⟩
 .rw[ww E,Ð _ _ (Ñ _ _),Å];rfl
 .exact C.kept (row:=À b) ⟨rfl,rfl,rfl,by simp[Í],λk _ G=>Ç _ _ _ _ (λe=>G (by simp[e]))⟩ (Or.inr A)
theorem dJ.frozen(h:dJ T B b pre p bs R w)(i:Nat):w.frozen? (b,i)=false:=by
 obtain⟨v,A,_⟩:=h;simp[í,A]
theorem dJ.put{E bs'}(G:w.heap[b]?=À (É (pre++p::v::R).toArray T (0,0)))(A:w.ownsRowF B 5 1 E (ſ bs') bs')(D:T≠5)(H:bs'=[]->E=Â Ä 0 0):
  dJ T B b pre p bs' R (w.setCell (b,ſ pre+1) E):=by
 have C:=Lib.ownBlock_neF A G D;refine⟨E,?_,?_,C,H⟩
 .rw[ww G,Ð _ _ (Ñ _ _),Å];rfl
 .exact A.kept (row:=À b) ⟨rfl,rfl,rfl,by simp[Í],λk _ I=>Ç _ _ _ _ (λe=>I (by simp[e]))⟩ (Or.inr C)
theorem dJ.alloc(h:dJ T B b pre p bs R w)(o):dJ T B b pre p bs R (w.alloc o):=by
 have C:=h.lt;obtain⟨v,G,A,D,E⟩:=h;exact⟨v,(Lib.alloc_old w o b C).trans G,A.kept (World.grownBy_alloc w o Ä) (by cases H:v.ownBlock<;>simp),D,E⟩
theorem dJ.W{w'}(h:dJ T B b pre p bs R w)(I:Ó w w w'):dJ T B b pre p bs R w':=by
 have C:=h.lt;obtain⟨v,G,A,D,E⟩:=h;exact⟨v,(I.block b C).trans G,A.kept (row:=Ä) ⟨I.os,I.tape,I.output,I.size,λk J _=>I.block k J⟩ (by cases H:v.ownBlock<;>simp),D,E⟩
theorem cQ.at(h:cQ T B b pre bs R w):∃p,dJ T B b pre p bs R w:=by
 rcases h with h|h
 .exact⟨_,h⟩
 .exact⟨_,h⟩
theorem cQ.lt(h:cQ T B b pre bs R w):b<w.heap.size:=h.at.elim λ_ h=>h.lt
theorem cQ.cellP(h:cQ T B b pre bs R w)(i)(hi:i<ſ pre):w.cell? (b,i)=pre[i]?:=h.at.elim λ_ h=>h.cellP i hi
theorem cQ.cellR(h:cQ T B b pre bs R w)(i):w.cell? (b,ſ pre+(i+2))=R[i]?:=h.at.elim λ_ h=>h.cellR i
theorem cQ.frozen(h:cQ T B b pre bs R w)(i:Nat):w.frozen? (b,i)=false:=h.at.elim λ_ h=>h.frozen i
theorem cQ.alloc(h:cQ T B b pre bs R w)(o):cQ T B b pre bs R (w.alloc o):=h.imp (·.alloc o) (·.alloc o)
theorem cQ.W{w'}(h:cQ T B b pre bs R w)(A:Ó w w w'):cQ T B b pre bs R w':=h.imp (·.W A) (·.W A)
theorem cQ.stored(h:cQ T B b pre bs R w)(i q):cQ T B b pre bs (R.set i q) (w.setCell (b,ſ pre+(i+2)) q):=h.imp (·.stored i q) (·.stored i q)
theorem cQ.unused(T B b w pre R)(h:w.heap[b]?=À (É (pre++Á Ä::Â Ä 0 0::R).toArray T (0,0))):cQ T B b pre [] R w:=
 Or.inl ⟨Â Ä 0 0,h,World.ownsRowF_nil _ _ _ _,by simp[à],λ_=>rfl⟩
end
theorem MS(b o:Nat)(w)(C:w.cell? (b,o)=À (Á (À ↑(b,o)))):
  æ Ò 24 #[Á (À ↑(b,o))] w λe B=>e=Ì (â #[])/\B=w:=by
 obtain⟨j,A,_⟩:=Û.1 th;go_in;go_wp2;rw[Lib.run_neq_ptr_same w _ Tryz.underlying35 A];go_wp2
 go_end0
 exact⟨rfl,rfl⟩
theorem Pc(T n b o w)(I:liesAt Ò prog.depth T (n / prog.cellsOf T) o 38 1=true)(L:w.cell? (b,o)=À (Á Ä))(B:w.shape? b=À (T,n))(J:o<n)(H:w.frozen? (b,o)=false):
  æ Ò 24 #[Á (À ↑(b,o))] w λe K=>e=Ì (â #[])/\K=w.setCell (b,o) (Á (À ↑(b,o))):=by
 obtain⟨j,D,A⟩:=Û.1 th;have G:=aa I;have C:=aa B;have E:Hid (j.size≠0):=(show j.size≠0 by rw[A];decide);go_in;go_wp2;rw[Lib.run_to_unsafe w (b,o) Tryz.underlying35 Tryz.underlying94 D E.o C.o J];simp only[Result.andThen];rw[Oper.upon_value];go_wp2;rw[run_callFunc_extern func40 (by kernel_rfl) (by kernel_rfl) (by kernel_rfl) (e:=Extern.AbiNoEscape.same) (by kernel_rfl)];rw[Lib.run_noEscape];simp only[Result.andThen];rw[Oper.upon_value];go_wp2;rw[Lib.run_from_unsafe w (b,o) Tryz.underlying94 Tryz.underlying35 D C.o G.o];simp only[Result.andThen];rw[Oper.upon_value];go_wp2
 go_end0
 exact⟨rfl,rfl⟩
def pz(T n o:Nat):Prop:=liesAt Ò prog.depth T (n / prog.cellsOf T) o 38 1=true
theorem NQ(T B b o A bs R w)(E:ſ A=o)(D:pz T (o+(ſ R+2)) o)(h:cQ T B b A bs R w):
  æ Ò 24 #[Á (À ↑(b,o))] w λe C=>e=Ì (â #[])/\(dJ T B b A (Á (À ↑(b,ſ A))) bs R C/\am B b w C/\ì 5 (À b) w C):=by
 subst E;rcases h with h|h
 .refine gv (Pc T (ſ A+(ſ R+2)) b (ſ A) w D h.cell0 h.shape (by omega) (h.frozen _)) ?_;exact⟨rfl,h.used _,(am.refl B b w).setCell (p:=(b,ſ A)) (.inl rfl) _,(Lib.OthersKept.refl _ _ w).setCell (b,ſ A) rfl _⟩
 .refine gv (MS b (ſ A) w h.cell0) ?_;exact⟨rfl,h,am.refl B b _,Lib.OthersKept.refl _ _ _⟩
theorem MT(T B b o A bs R s w)(ho:ſ A=o)(hl:pz T (o+(ſ R+2)) o)(hT:T≠5)(h:cQ T B b A bs R w)(f:ſ bs+s.size<=140737488355328)(u:B<=w.heap.size):
  æ Ò 10 #[Á (À ⟨b,o,Ä⟩),Ï s] w λe a=>e=Ì (â #[è .i64 s.size,.nilIface])/\(cQ T B b A (bs++ò s) R a/\am B b w a/\ì 5 (À b) w a):=by
 obtain⟨y,x,Y,Z,a⟩:=ë qn;have m:Hid (pz T (o+(ſ R+2)) o):=hl;have n:Hid (T≠5):=hT;have M:Hid (ſ A=o):=ho;have H:Hid (cQ T B b A bs R w):=h;clear hl hT h ho;go_in;go_wp2_with(go_at_call 24;refine(NQ T B b o A bs R _ M.o m.o H.o).mono ?_);rintro e P⟨rfl,S,L,U⟩;obtain⟨v,I,E,W,d⟩:=S;have l:Hid (bs=[]->v=Â Ä 0 0):=d;have N:Hid (P.heap[b]?=À (É (A++Á (À ↑(b,ſ A))::v::R).toArray T (0,0))):=I;clear d;have z:P.cell? (b,o)=À (Á (À ↑(b,o))):=by have:=wW I;rw[M.o]at this;exact this
 have c1:P.cell? (b,o+1)=À v:=by have:=ry I;rw[M.o]at this;exact this
 clear I;go_wp2_with(at_builtin;refine Lib.wpList_append_own_stringF _ rfl _ _ 36 9 rfl B 5 y Tryz.underlying36 Tryz.underlying9 x Y Z a _ _ _ rfl E s rfl ?c3 ?c4 ?c5 ?_)
 case c3=>unfold î;omega
 case c4=>omega
 case c5=>have:=L.size;omega
 intro j O G C J;have q:Hid (j=Â Ä 0 0↔v=Â Ä 0 0/\s.size=0):=(show _↔_ by simpa using J);clear J;have V:b<P.heap.size:=EG N.o
 have D:O.heap[b]?=À (É (A++Á (À ↑(b,ſ A))::v::R).toArray T (0,0)):=by
  rw[C.block b V (λe=>W e.symm)];exact N.o
 have Q:Hid (O.heap[b]?=À (É (A++Á (À ↑(b,ſ A))::v::R).toArray T (0,0))):=D;have d0:O.cell? (b,o)=À (Á (À ↑(b,o))):=by have:=wW D;rw[M.o]at this;exact this
 have d1:O.cell? (b,o+1)=À v:=by have:=ry D;rw[M.o]at this;exact this
 have f1:O.frozen? (b,o+1)=false:=Lib.frozen_of_heap D (o+1);clear D
 obtain⟨c,i,K,rfl⟩:∃c i K,j=Â c i K:=by
  rcases G.2 with⟨X,_⟩|⟨g,K,r,fz,X,_⟩
  .exact⟨_,_,_,X⟩
  .exact⟨_,_,_,X⟩
 go_wp2;go_ret2;refine⟨rfl,.inr ?_,?_,(U.grown C (Lib.ownsRowF_kind E)).setCell (b,o+1) rfl _⟩
 .rw[<-M.o];refine dJ.put Q.o (bs':=bs++ò s) (by simpa[á]using G) n.o (λh=>?_);obtain⟨S,t⟩:=List.append_eq_nil_iff.1 h;refine q.o.2 ⟨l.o S,?_⟩;rw[<-á,t];rfl
 .exact(L.grown C (by have:=L.size;omega) (λk a=>(E.lt k a).1)).setCell (p:=(b,o+1)) (.inl rfl) _
theorem St(T B b o E l R w)(d:ſ E=o)(h:cQ T B b E (Ö l) R w)(c:l≠[]):
  æ Ò 12 #[Á (À ↑(b,o))] w λe f=>e=Ì (Ï ⟨l.toArray⟩)/\Ó B w f:=by
 obtain⟨p,H⟩:=h.at;obtain⟨v,J,D,W,_⟩:=H;have M:ſ l≠0:=by simpa using c
 rw[Lib.byteCells_length]at D
 obtain⟨g,A,C,G,rfl,I,U,S,V,K,Q,N⟩:∃g A C G,v=Â (À ⟨g,0,Ä⟩) (ſ l) A/\B<=g/\w.heap[g]?=À (É C 5 G)/\G.2<=ſ l*1/\(ſ l)<=A/\A<=î/\C.size=A*1/\C.toList.take (ſ l*1)=Ö l:=by
  rcases D.2 with⟨_,Z⟩|⟨g,A,C,G,X,r⟩
  .exact absurd Z M
  .exact⟨g,A,C,G,X,r⟩
 have a:w.drew.cell? (b,o+1)=À (Â g (ſ l) A):=by
  have:w.drew.heap[b]?=À (É (E++p::Â ↑g (ſ l) A::R).toArray T (0,0)):=J
  have:=ry this
  rw[d]at this;exact this
 have O:(Builtin.unsafeSliceData_ #[36] 68 #[Â (À ⟨g,0,Ä⟩) (ſ l) A]).run Ò w.drew=.ok (Á (À ⟨g,0,Ä⟩)) w.drew:=
  Lib.run_unsafeSliceData_row _ _ _ _ _ _ (by omega)
 have P:(Builtin.unsafeString_ #[68,3] 9 #[Á g,ſ l]).run Ò w.drew=.ok (Ï ⟨l.toArray⟩) (w.drew.freeze g (ſ l)):=by
  refine Lib.run_unsafeString_row w.drew 68 3 9 5 Tryz.underlying68 xj g C.size (by have L:w.drew.heap[g]?=À (É C 5 G):=U;simp[ñ,L]) l c (by omega) (by unfold î at K;omega) ?_;intro j x Y
  have:=D.cells (g:=g) rfl j (è .u8 x.toNat) (by simp[Ö,Y])
  exact this
 go_in;go_wp2
 go_region
 all_goals (go_wp2;go_ret;exact⟨rfl,Lib.below_freeze (ô (é B w)) (p:=g) I _⟩)
theorem Sr(T B b o A R w)(L:ſ A=o)(h:cQ T B b A [] R w):
  æ Ò 12 #[Á (À ↑(b,o))] w λe M=>e=Ì (Ï ⟨#[]⟩)/\Ó B w M:=by
 obtain⟨p,E⟩:=h.at;obtain⟨v,C,D,G,H⟩:=E;obtain rfl:=H rfl;clear D G H;have J:∀(W:Î)(q:Option ó),(Builtin.unsafeString_ #[68,3] 9 #[Á q,è .i64 0]).run Ò W=.ok (Ï .empty) W:=λW q=>Lib.run_unsafeString_none W _ _ _ q
 have K:w.drew.cell? (b,o+1)=À (Â Ä 0 0):=by
  have:w.drew.heap[b]?=À (É (A++p::Â Ä 0 0::R).toArray T (0,0)):=C
  have:=ry this
  rw[L]at this;exact this
 have I:(Builtin.unsafeSliceData_ #[36] 68 #[Â Ä 0 0]).run Ò w.drew=.ok (Á Ä) w.drew:=rfl;clear C;go_in;go_wp2
 go_region
 all_goals (go_wp2;go_ret;exact⟨rfl,ô (é B w)⟩)
theorem U6(T B b o A l R w)(D:ſ A=o)(h:cQ T B b A (Ö l) R w):
  æ Ò 12 #[Á (À ↑(b,o))] w λe E=>e=Ì (Ï ⟨l.toArray⟩)/\Ó B w E:=by
 by_cases C:l=[]
 .subst C;exact Sr T B b o A R w D h
 .exact St T B b o A l R w D h C
