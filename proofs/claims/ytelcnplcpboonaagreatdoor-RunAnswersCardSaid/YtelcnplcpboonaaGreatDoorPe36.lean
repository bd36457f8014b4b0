import Derived.Test.YtelcnplcpboonaaGreatDoorPe31
import Derived.Test.YtelcnplcpboonaaGreatDoorPe27
import Derived.StringKeys
open Go.Proofs.Tryz
open List renaming length->ſ
open Go.Ending renaming returned->À
open Go.Value renaming string->Á,slice->Å,pointer->Ç,tuple->É,int->Ï,nilIface->Ö,bool->â
open List renaming length_append->Â,length_cons->Ä,eq_nil_of_length_eq_zero->Ë,length_nil->Î,append_assoc->Ð,take_succ_eq_append_getElem->Ñ,mem_cons->Û,getElem_mem->Ü,take_of_length_le->Ý,length_drop->æ,all_append->ç
open Go.World renaming cell?->Ã,setCell->Ó,frozen?->ã
open Option renaming none->Æ,some->Ì
open Array renaming getElem?_modify->È,getElem?_eq_some_iff->Ø,toList_inj->ä
open Go renaming World->Ê,Calls->Þ,TypeId->é
open Option.some renaming injEq->Í,inj->ê
open ByteArray renaming size_append->Ò
open Go.RowKit renaming Below->Ô
open Go.IntKind renaming i64->Õ
open Nat renaming zero_le->Ù,le_refl->ß,add_zero->è
open Bool renaming true->Ú,false->á,and_eq_true->å
open Go.Obj renaming cells->à
namespace Go.Proofs.YtelcnplcpboonaaGreatDoor
open Go Go.RowKit
set_option maxRecDepth 100000
set_option maxHeartbeats 4000000
theorem Tm{U b}(bs rest w tx)(f:ſ bs+tx.size<=400000)(Z:a7 U b bs rest w):
  Þ prog 167 #[Ç b,Á tx] w λe R=>e=À (É #[])/\a7 U b (bs++(if tx.size=0 then [35]else [35,32]++ae tx)) rest R:=by
 have I:Hid (Cp 132 #[Ç b,Ï .u8 35] w λe R=>e=À Ö/\a7 U b (bs++[35]) rest R):=by
  obtain⟨A,c,h⟩:=Z;refine ai (p9 h 35 (by omega)) λR a=>?_
  exact⟨rfl,_,_,a⟩
 by_cases C:tx.size=0
 .rw[if_pos C]
  have G:tx=⟨#[]⟩:=by
   apply ByteArray.ext;apply ä.1;exact qC.1 C
  subst G;go_in;go_wp2_with fail;refine ai I.o λd V=>?_
  have E:=aa V;go_wp2
  go_end0
  exact⟨rfl,E.o⟩
 .rw[if_neg C]
  have B:(tx.toList==[])=false:=by
   rw[Lib.toList_data];cases O:tx.data.toList with
   | nil=>exact absurd (qC.2 O) C
   | cons=>rfl
  have J:¬tx.toList=[]:=by
   intro e;rw[e]at B;cases B
  have H:(⟨#[32]⟩:ByteArray).size=1:=rfl
  have D:∀S:ByteArray,S.size<=1000000->ae S=32::ae tx->∀W,a7 U b (bs++[35]) rest W->Þ prog 10 #[Ç b,Á S] W λe R=>(∃z,e=À (É #[z,Ö]))/\a7 U b (bs++([35,32]++ae tx)) rest R:=λS X Y W Z=>by
   obtain⟨A,c,h⟩:=Z;refine(mL h S (by simp only[Â,Ä,Î];omega) X).mono ?_;rintro e R⟨rfl,h,_⟩;refine⟨⟨_,rfl⟩,A,c,?_⟩;rw[Y]at h;have M:bs++([35,32]++ae tx)=bs++[35]++32::ae tx:=by simp
   rw[M];exact h
  have K:=aa (D (⟨#[32]⟩++tx) (by rw[Ò,H];omega) (by simp[ae]));go_in;go_wp2_with fail;refine ai I.o λd V=>?_
  have E:=aa V;go_wp2_with fail;refine(K.o _ E.o).mono ?_;rintro e P⟨⟨q,rfl⟩,N⟩;have L:=aa N;go_wp2
  go_end0
  exact⟨rfl,L.o⟩
theorem Tu{w0 b}(ht:gH w0)(bs ds)(hf:ag ds=0)(w)(hl:ſ bs<=200000)(hW:a7 w0 b bs ds w):
  Þ prog 131 #[Ç b] w λe a=>e=À (É #[])/\a7 w0 b (bs++aT ds) [] a:=by
 have D:=rD hf;rcases kL hf with⟨⟨op,B,n⟩,rfl,s,t,L⟩|⟨x,F,rfl,M,d,H,O⟩
 .dsimp only at s t L;subst s;have J:aT [⟨9,B,n⟩]=if B.size=0 then [35]else [35,32]++ae B:=rfl
  have v:=tQ L;rw[J]at D⊢;obtain⟨A,c,h⟩:=hW;have P:=aa (mJ h);have q:Hid (∀W,a7 w0 b bs [] W->Cp 167 #[Ç b,Á B] W λe a=>e=À (É #[])/\a7 w0 b (bs++(if B.size=0 then [35]else [35,32]++ae B)) [] a):=λW hW=>Tm bs [] W B (by omega) hW
  generalize(if B.size=0 then [35]else [35,32]++ae B)=X at q⊢
  go_in;go_wp2_with fail;refine P.o.mono ?_;rintro e G⟨rfl,l,r,H⟩;have Q:Hid (∀W:Ê,Ô G G W->a7 w0 b bs [] W):=λW hb=>⟨_,_,H.grew hb⟩
  go_wp2_with fail;refine ai (q.o _ (Q.o _ (aC G _))) λw3 a=>?_
  have V:=aa a;go_wp2;refine bodyPost_ret (results_none rfl _ _ _) rfl ?_;exact⟨rfl,V.o⟩
 .obtain⟨y,k,rfl⟩:=wN H;have u:iJ w0 b y k:=(vx ht _ M d).1
  have f:(Fo.cons y k .nil).len=aE x:=by
   rw[H];rcases O with⟨e,_⟩|⟨e,_⟩<;>(unfold aE;rw[e];rfl)
  have J:=(jJ M f).1;have g:(Fo.cons y k .nil).N=y::k.N:=by simp[Fo.N]
  have Ab:iM (Fo.cons y k .nil).R=bh y k.R:=rfl;rw[J]at D⊢;rw[g]at hW;obtain⟨A,c,h⟩:=hW
  have o:Hid (∀a W,ſ a+(bh y k.R).length<=500000->a7 w0 b a (y::k.N) W->Cp 168 #[Ç b] W λe c=>e=À (É #[])/\a7 w0 b (a++bh y k.R) [] c):=λbs' W hb hW=>by
   refine u bs' [] W hb ?_;rw[List.append_nil];exact hW
  have m:Hid (∀a W,ſ a<=500000->a7 w0 b a [] W->Cp 132 #[Ç b,Ï .u8 59] W λe c=>e=À Ö/\a7 w0 b (a++[59]) [] c):=λbs' W hb hW=>by
   obtain⟨A,c,h⟩:=hW;refine ai (p9 h 59 (by omega)) λw' H=>?_
   exact⟨rfl,_,_,H⟩
  obtain⟨op,B,n⟩:=x;have P:=aa (mJ h);rcases O with⟨e,I,_⟩|⟨e,_,_⟩
  .dsimp only at e I;subst e
   have Ac:B.size<=8:=by
    simp only[aL,å,decide_eq_true_eq]at I;exact I.1.1.2
   have K:fT ⟨7,B,n⟩ (Fo.cons y k .nil).R=[108,101,116,32]++ae B++[32,61,32]++bh y k.R++[59]:=rfl;rw[K]at D⊢;simp only[Â,Ä,Î]at D;have i:(⟨#[108,101,116,32]⟩:ByteArray).size=4:=rfl;have j:(⟨#[32,61,32]⟩:ByteArray).size=3:=rfl;have Aa:=aw B;go_in;go_wp2_with fail;refine P.o.mono ?_;rintro e G⟨rfl,l,r,H⟩
   have U:∀S:ByteArray,S.size<=100->ae S=[108,101,116,32]++ae B++[32,61,32]->∀W:Ê,Ô G G W->Þ prog 10 #[Ç b,Á S] W λe a=>(∃z,e=À (É #[z,Ö]))/\a7 w0 b (bs++([108,101,116,32]++ae B++[32,61,32])) (y::k.N) a:=λS hS1 hS2 W hb=>by
    refine(mL (H.grew hb) S (by omega) (by omega)).mono ?_;rintro e w'⟨rfl,h,_⟩;rw[hS2]at h;exact⟨⟨_,rfl⟩,_,_,h⟩
   have p:=aa (U (⟨#[108,101,116,32]⟩++B++⟨#[32,61,32]⟩) (by rw[Ò,Ò,i,j];omega) (by simp[ae]));have C:Hid (∀W,a7 w0 b (bs++([108,101,116,32]++ae B++[32,61,32])) (y::k.N) W->Cp 168 #[Ç b] W λe a=>e=À (É #[])/\a7 w0 b (bs++([108,101,116,32]++ae B++[32,61,32])++bh y k.R) [] a):=λW hW=>o.o _ W (by simp only[Â,Ä,Î];omega) hW
   have E:Hid (∀W,a7 w0 b (bs++([108,101,116,32]++ae B++[32,61,32])++bh y k.R) [] W->Cp 132 #[Ç b,Ï .u8 59] W λe a=>e=À Ö/\a7 w0 b (bs++([108,101,116,32]++ae B++[32,61,32]++bh y k.R++[59])) [] a):=λW hW=>by
    refine ai (m.o _ W (by simp only[Â,Ä,Î];omega) hW) λw' h=>?_
    refine⟨rfl,?_⟩;simp only[Ð]at h⊢;exact h
   generalize(bs++([108,101,116,32]++ae B++[32,61,32])++bh y k.R)=P2 at C E
   generalize(bs++([108,101,116,32]++ae B++[32,61,32]))=P1 at p C
   go_wp2_with fail
   go_region_with (go_at_call 10;refine(p.o _ (jp G _)).mono ?_;rintro e w3⟨⟨z,rfl⟩,a⟩)
   all_goals
    have V:=aa a;go_wp2_with fail;refine ai (C.o _ V.o) λw4 h4=>?_
    have Y:=aa h4;go_wp2_with fail;refine ai (E.o _ Y.o) λw5 h5=>?_
    have Z:=aa h5;go_wp2
    go_end0
    exact⟨rfl,Z.o⟩
  .dsimp only at e;subst e;have K:fT ⟨8,B,n⟩ (Fo.cons y k .nil).R=bh y k.R++[59]:=rfl;rw[K]at D⊢;simp only[Â,Ä,Î]at D;have C:Hid (∀W,a7 w0 b bs (y::k.N) W->Cp 168 #[Ç b] W λe a=>e=À (É #[])/\a7 w0 b (bs++bh y k.R) [] a):=λW hW=>o.o _ W (by omega) hW
   have E:Hid (∀W,a7 w0 b (bs++bh y k.R) [] W->Cp 132 #[Ç b,Ï .u8 59] W λe a=>e=À Ö/\a7 w0 b (bs++(bh y k.R++[59])) [] a):=λW hW=>by
    refine ai (m.o _ W (by simp only[Â];omega) hW) λw' h=>?_
    refine⟨rfl,?_⟩;rw[Ð]at h;exact h
   generalize bs++bh y k.R=P1 at C E;go_in;go_wp2_with fail;refine P.o.mono ?_;rintro e G⟨rfl,l,r,H⟩;have Q:Hid (∀W:Ê,Ô G G W->a7 w0 b bs (y::k.N) W):=λW hb=>⟨_,_,H.grew hb⟩
   go_wp2_with fail;refine ai (C.o _ (Q.o _ (aC G _))) λw4 h4=>?_
   have Y:=aa h4;go_wp2_with fail;refine ai (E.o _ Y.o) λw5 h5=>?_
   have Z:=aa h5;go_wp2
   go_end0
   exact⟨rfl,Z.o⟩
structure wl(w0:Ê)(b:Nat)(ps:List (List Td))(i:Nat)(w:Ê):Prop where
 le:i<=ſ ps
 w:a7 w0 b (dh (ps.take i)) [] w
theorem NW{ps:List (List Td)}{i}(h:i<ſ ps):dh (ps.take (i+1))=dh (ps.take i)++aT ps[i]++[10]:=by
 rw[Ñ h,NV];simp
theorem Vc{ps:List (List Td)}(A:∀t∈ps,ag t=0)(B:ſ ps<=20)(i):(dh (ps.take i)).length<=50000:=by grind [GT,ag,dh]
theorem Pg(ps a cap)(w:Ê)(hc:ſ ps<=cap)(hP:bP w a ps)(G:∀t∈ps,fU t)(ht:gH w):Cb 106 #[Å a (ſ ps) cap] w (É #[Á (nJ ps),aF (aW ps).2]):=by
 unfold Cb;have B:Hid (Cb 87 #[Å a (ſ ps) cap] w (É #[Ï Õ ((aW ps).1:Int),aF (aW ps).2])):=DT ps a cap w hc hP G;by_cases C:(aW ps).2=0
 .obtain⟨f,s⟩:=r9 C;have D:=ut ps 0 s;have H:Hid (∀t∈ps,ag t=0):=D;have X:=(show Hid (∀i,(dh (ps.take i)).length<=50000)from Vc D f);rw[GU C];rw[C]at B⊢;have m:Hid (bP w a ps):=hP;have o:Hid (gH w):=ht
  generalize(aW ps).1=K at B
  clear hP G C s ht D;go_in;go_wp2_with fail;refine ai B.o λw2 b2=>?_
  rw[cS];have V:Hid (bP w2 a ps):=m.o.W b2;have Y:Hid (gH w2):=o.o.W b2;have R:=aa b2;have b:Hid (wl w2 w2.heap.size ps 0 (w2.alloc (à #[Ç Æ,Å Æ 0 0,Å Æ 0 0] 203))):=⟨by omega,Æ,0,a6.fresh 203 w2 [Å Æ 0 0],ß _,aG.nil _ _,aC w2 _,ß _⟩;clear b2 B m o;go_wp2_with fail
  go_loopw [19] (λx wr=>∃i:Nat,x=Ï Õ (i:Int)/\wl w2 w2.heap.size ps i wr) (λx _=>ſ ps-(intOf x).toNat)
  case atStart=>exact⟨0,rfl,b.o⟩
  case round=>
   obtain⟨i,rfl,Aa,L⟩:=hrel;have P:=X.o i;by_cases N:i<ſ ps
   .have g:(i:Int)<(ſ ps:Int):=by omega
    obtain⟨b0,o0,Q,d,rfl,j,r,M,I⟩:=V.o i N;obtain⟨A,c,h⟩:=L;obtain⟨q,_⟩:=a9 h.bl;have e0:wr.cell? ⟨b0,o0+i,Æ⟩=Ì (Å Q ps[i].length d):=(q _ _ j).trans r;have cR:wr.cell? ⟨w2,2,Æ⟩=Ì (Å A ([]:List Td).length c):=h.x.cellR 0;have fR:wr.frozen? ⟨w2,2,Æ⟩=false:=h.x.frozen 2;have hz:=h.bl.size
    have n:Hid (Cp 131 #[Ç (Ì ⟨w2,0,Æ⟩)] (wr.setCell ⟨w2,2,Æ⟩ (Å Q ps[i].length d)) λe a=>e=À (É #[])/\a7 w2 w2.heap.size (dh (ps.take i)++aT ps[i]) [] a):=by
     refine Tu Y.o _ ps[i] (H.o _ (Ü N)) _ (by omega) ⟨Q,d,h.x.stored 0 _,M,I,h.bl.setCell (p:=⟨w2,2,Æ⟩) Zl _,ß _⟩
    have k:=rD (H.o _ (Ü N))
    have v:Hid (∀W,a7 w2 w2.heap.size (dh (ps.take i)++aT ps[i]) [] W->Cp 132 #[Ç (Ì ⟨w2,0,Æ⟩),Ï .u8 10] W λe a=>e=À Ö/\wl w2 w2.heap.size ps (i+1) a):=λW L=>by
     obtain⟨A,c,h⟩:=L;refine ai (p9 h 10 (by rw[Â];omega)) λw' f=>?_
     exact⟨rfl,N,A,c,by rw[NW N];exact f⟩
    clear h r I q k P M;generalize ps[i].length=pn at e0 n;go_wp2_with fail;refine ai n.o λw3 h3=>?_
    have y:=aa h3;clear h3;go_wp2_with fail;refine ai (v.o _ y.o) λw4 h4=>?_
    have z:=aa h4;clear h4;go_wp2;refine⟨⟨i+1,by go_num,z.o⟩,?_⟩;simp[intOf];omega
   .have g:¬(i:Int)<(ſ ps:Int):=by omega
    have O:ps.take i=ps:=Ý (by omega);rw[O]at L;obtain⟨A,c,h⟩:=L;have l:Hid (Cp 12 #[Ç (Ì ⟨w2,0,Æ⟩)] wr λe a=>e=À (Á (ab (dh ps)))/\Ô w2 wr a):=tT _ _ _ _ _ _ h.x;have S:Hid (Ô w2 w2 wr):=h.bl;generalize J:ab (dh ps)=T at l;have Z:Hid (ab (dh ps)=T):=J;clear h O P J;go_wp2_with fail;refine ai l.o λw3 b3=>?_
    have u:=aa (aH R.o Zl (S.o.trans b3));clear b3;go_wp2;go_ret2;exact⟨by rw[Z.o];rfl,u.o⟩
 .rw[Lt C];have U:Hid (aF (aW ps).2=.iface 50 (Ï Õ (aW ps).2)):=cN C
  generalize(aW ps).2=E at B U⊢
  generalize(aW ps).1=K at B
  clear hP G C ht;go_in;go_wp2_with fail;refine ai B.o λw2 b2=>?_
  rw[U.o];go_wp2;go_ret2;exact⟨by rw[U.o];rfl,b2⟩
theorem OY(ps a A)(w:Ê)(D:ſ ps<=A)(C:bP w a ps)(B:∀t∈ps,fU t)(E:eo w):Þ prog 106 #[Å a (ſ ps) A] w λe G=>e=À (É #[Á (nJ ps),aF (aW ps).2])/\Ô w w G:=
 Pg ps a A w D C B E.pow
abbrev QX:Prop:=∀(t:List Td)(a:Option Addr)(cap:Nat)(wd:Int)(w:Ê),ſ t<=cap->aG w a t->fU t->eo w->
 Þ prog 89 #[Å a (ſ t) cap,Ï Õ wd] w λe w'=>e=À (É #[Á (kQ t wd),aF (iz t wd)])/\Ô w w w'
def pD(s:ByteArray)(wd:Int)(w:Ê)(e:Ending)(w':Ê):Prop:=∃T k f,e=À (É #[Á T,Ï Õ k,aF f])/\lP s wd T k f/\Ô w w w'
abbrev EJ:Prop:=∀(s:ByteArray)(wd:Int)(w:Ê),eo w->Þ prog 65 #[Á s,Ï Õ wd] w λe w'=>pD s wd w e w'
theorem r7{t A}(h:iz t A≠0):kQ t A=⟨#[]⟩:=by rw[kQ,if_neg h]
theorem uu{t}{n:Nat}(h:iz t (n:Int)=0):kQ t (n:Int)=ab (ce n t):=by rw[kQ,if_pos h];rfl
theorem AC{n:Nat}(A:10<=n)(B:n<=100):¬((n:Int)<10\/100<(n:Int)):=by omega
theorem Lz{t a D w}(G:ſ t<=D)(E:aG w a t):bP (w.alloc (à #[Å a (ſ t) D] 82)) w.heap.size [t]:=by
 intro i B;have A:i=0:=by simp at B;exact B
 subst A;refine⟨w.heap.size,0,a,D,rfl,by rw[World.size_alloc];omega,?_,G,E.alloc _⟩
 have C:(w.alloc (à #[Å a (ſ t) D] 82)).heap[w.heap.size]?=Ì (à #[Å a (ſ t) D] 82):=by
  show(w.heap.push _)[w.heap.size]?=_
  simp
 simp only[Ã,Option.isSome_none,Bool.false_eq_true,if_false,C,Nat.zero_add];rfl
structure Ss where
 tx:List UInt8
 ps:List (List Td)
 wd:Nat
def ig(f:Int):List UInt8:=[69,114,114]++(if f=1 then [82,97,110,103,101]else if f=2 then [83,104,97,112,101]else if f=3 then [70,117,108,108]else if f=4 then [78,111,110,101]else [83,121,110,116,97,120])
def eI:List UInt8:=[111,107,10]
def jZ:List UInt8:=[98,97,100,10]
def bQ(k f:Int):List UInt8:=ig f++(if f=5 then 32::aA k.toNat else [])++[10]
def gh(s:List UInt8):Bool:=decide (1<=ſ s)&&decide (ſ s<=4)&&s.all ay&&(decide (ſ s=1)||s.head? != Ì 48)
inductive Kd where
 | add (x:List UInt8)
 | wide (x:List UInt8)
 | set
 | text
 | look
 | drop
 | bad
def ip:List UInt8:=[119,105,100,101,32]
def lj:List UInt8:=[115,101,116]
def nV:List UInt8:=[116,101,120,116]
def lu:List UInt8:=[108,111,111,107]
def nR:List UInt8:=[100,114,111,112]
def cG(l:List UInt8):Kd:=
 if l.head?=Ì 43 then .add l.tail
 else if l.take 5=ip then .wide (l.drop 5)
 else if l=lj then .set
 else if l=nV then .text
 else if l=lu then .look
 else if l=nR then .drop
 else .bad
def rl(s:List UInt8):List (List UInt8):=if(cy s).getLast (pJ s)=[]then(cy s).dropLast else cy s
def gF(t:List UInt8):List UInt8:=(rl t).flatMap λl=>124::(l++[10])
def fd(n:Int):List UInt8:=if n<0 then [45,49,10]else aA n.toNat++[10]
inductive ck (σ:Ss):Kd->List UInt8->Ss->Prop where
 | add (x:List UInt8):ck σ (.add x) eI ⟨σ.tx++(x++[10]),σ.ps,σ.wd⟩
 | wideN {x:List UInt8} (h:gh x=á):ck σ (.wide x) jZ σ
 | wideR {x:List UInt8} (h:gh x=Ú) (hw:¬(10<=aY x/\aY x<=100)):ck σ (.wide x) (bQ 0 1) σ
 | wide {x:List UInt8} (h:gh x=Ú) (hw:10<=aY x/\aY x<=100):ck σ (.wide x) eI ⟨σ.tx,σ.ps,aY x⟩
 | setE {ps k f} (h:cJ (ab σ.tx) ps k f) (hf:f≠0):ck σ .set (bQ k f) σ
 | setF {ps} (h:cJ (ab σ.tx) ps 0 0) (hf:bu ps≠0):ck σ .set (bQ 0 (bu ps)) σ
 | set {ps} (h:cJ (ab σ.tx) ps 0 0) (hf:bu ps=0):ck σ .set (aA (cV ps σ.ps)++[10]) ⟨σ.tx,ps,σ.wd⟩
 | text:ck σ .text (gF (aJ σ.wd σ.ps)++eI) σ
 | lookE {ps k f} (h:cJ (ab σ.tx) ps k f) (hf:f≠0):ck σ .look (bQ k f) σ
 | lookF {ps} (h:cJ (ab σ.tx) ps 0 0) (hf:bu ps≠0):ck σ .look (bQ 0 (bu ps)) σ
 | look {ps} (h:cJ (ab σ.tx) ps 0 0) (hf:bu ps=0):ck σ .look (fd (cL σ.tx (aJ σ.wd ps) 0)) σ
 | drop:ck σ .drop eI ⟨[],σ.ps,σ.wd⟩
 | bad:ck σ .bad jZ σ
theorem KT{σ:Ss}{l a b}{τ υ:Ss}(h:ck σ l a τ)(A:ck σ l b υ):a=b/\τ=υ:=by
 cases h with
 | add=>cases A;exact⟨rfl,rfl⟩
 | wideN h=>cases A with
  | wideN=>exact⟨rfl,rfl⟩
  | wideR h1=>rw[h]at h1;cases h1
  | wide h1=>rw[h]at h1;cases h1
 | wideR h hw=>cases A with
  | wideN h1=>rw[h]at h1;cases h1
  | wideR=>exact⟨rfl,rfl⟩
  | wide _ hw'=>exact absurd hw' hw
 | wide h hw=>cases A with
  | wideN h1=>rw[h]at h1;cases h1
  | wideR _ hw'=>exact absurd hw hw'
  | wide=>exact⟨rfl,rfl⟩
 | setE h hf=>cases A with
  | setE h1=>
   obtain⟨_,rfl,rfl⟩:=eP h h1;exact⟨rfl,rfl⟩
  | setF h1=>exact absurd (eP h h1).2.2 hf
  | set h1=>exact absurd (eP h h1).2.2 hf
 | setF h hf=>cases A with
  | setE h1 hf1=>exact absurd (eP h1 h).2.2 hf1
  | setF h1=>
   obtain⟨rfl,_⟩:=eP h h1;exact⟨rfl,rfl⟩
  | set h1 hf1=>
   obtain⟨rfl,_⟩:=eP h h1;exact absurd hf1 hf
 | set h hf=>cases A with
  | setE h1 hf1=>exact absurd (eP h1 h).2.2 hf1
  | setF h1 hf1=>
   obtain⟨rfl,_⟩:=eP h h1;exact absurd hf hf1
  | set h1=>
   obtain⟨rfl,_⟩:=eP h h1;exact⟨rfl,rfl⟩
 | text=>cases A;exact⟨rfl,rfl⟩
 | lookE h hf=>cases A with
  | lookE h1=>
   obtain⟨_,rfl,rfl⟩:=eP h h1;exact⟨rfl,rfl⟩
  | lookF h1=>exact absurd (eP h h1).2.2 hf
  | look h1=>exact absurd (eP h h1).2.2 hf
 | lookF h hf=>cases A with
  | lookE h1 hf1=>exact absurd (eP h1 h).2.2 hf1
  | lookF h1=>
   obtain⟨rfl,_⟩:=eP h h1;exact⟨rfl,rfl⟩
  | look h1 hf1=>
   obtain⟨rfl,_⟩:=eP h h1;exact absurd hf1 hf
 | look h hf=>cases A with
  | lookE h1 hf1=>exact absurd (eP h1 h).2.2 hf1
  | lookF h1 hf1=>
   obtain⟨rfl,_⟩:=eP h h1;exact absurd hf hf1
  | look h1=>
   obtain⟨rfl,_⟩:=eP h h1;exact⟨rfl,rfl⟩
 | drop=>cases A;exact⟨rfl,rfl⟩
 | bad=>cases A;exact⟨rfl,rfl⟩
inductive iK:Ss->List (List UInt8)->List UInt8->Ss->Prop where
 | nil (σ:Ss):iK σ [] [] σ
 | cons {σ τ υ:Ss} {l:List UInt8} {ls:List (List UInt8)} {a b:List UInt8} (h:ck σ (cG l) a τ) (hr:iK τ ls b υ):iK σ (l::ls) (a++b) υ
theorem GV:∀{ls:List (List UInt8)}{σ τ υ:Ss}{a b:List UInt8},iK σ ls a τ->iK σ ls b υ->a=b/\τ=υ
 | [],_,_,_,_,_,h,h'=>by cases h;cases h';exact⟨rfl,rfl⟩
 | _::ls,_,_,_,_,_,h,h'=>by
  cases h with
  | cons h hr=>cases h' with
   | cons h1 hr1=>
    obtain⟨rfl,rfl⟩:=KT h h1;obtain⟨rfl,rfl⟩:=GV hr hr1;exact⟨rfl,rfl⟩
theorem vl:∀{ls:List (List UInt8)}{σ τ υ:Ss}{l a b:List UInt8},iK σ ls a τ->ck τ (cG l) b υ->iK σ (ls++[l]) (a++b) υ
 | [],_,_,_,_,_,b,h,h'=>by
  cases h
  have:=iK.cons h' (iK.nil _)
  simpa using this
 | _::ls,_,_,_,_,_,_,h,h'=>by
  cases h with
  | cons h hr=>
   rw[Ð];exact .cons h (vl hr h')
def cB(A:List (List UInt8)):List UInt8:=A.flatMap λl=>l++[10]
theorem KS:cB []=[]:=rfl
theorem kK(l A):cB (l::A)=l++10::cB A:=by simp[cB]
theorem qv(A l):cB (A++[l])=cB A++(l++[10]):=by simp[cB]
theorem Gc:∀(A:List (List UInt8))(r:List UInt8),(∀l∈A,(10:UInt8)∉l)->cy (cB A++r)=A++cy r
 | [],r,_=>rfl
 | l::A,r,h=>by
  rw[kK,Ð,List.cons_append,xD,rX l (h l (by simp)),Gc A r λx B=>h x (by simp[B])];rfl
theorem wY{A}(r)(h:∀l∈A,(10:UInt8)∉l):rl (cB A++r)=A++rl r:=by grind [Gc,pJ,rl,cy,cB]
theorem rB:rl []=[]:=rfl
theorem IF{A}(h:∀l∈A,(10:UInt8)∉l):rl (cB A)=A:=by
 have:=wY [] h
 simpa[rB]using this
theorem yj{r}(h:(10:UInt8)∉r)(A:r≠[]):rl r=[r]:=by grind [rl,rX]
theorem IE{A r}(h:∀l∈A,(10:UInt8)∉l)(B:(10:UInt8)∉r):rl (cB A++r)=A++if r=[]then []else [r]:=by grind [wY,rB,yj,rl,cB]
theorem JY{A}(h:∀l∈A,(10:UInt8)∉l):gF (cB A)=A.flatMap λl=>124::(l++[10]):=by rw[gF,IF h]
theorem Ie:∀s:List UInt8,∃A r,s=cB A++r/\(∀l∈A,(10:UInt8)∉l)/\(10:UInt8)∉r
 | []=>⟨[],[],rfl,by simp,by simp⟩
 | c::s=>by
  obtain⟨A,r,e,B,C⟩:=Ie s;by_cases D:c=10
  .refine⟨[]::A,r,?_,?_,C⟩
   .rw[kK,e,D];rfl
   .intro l hl;rcases Û.1 hl with rfl|hl
    .simp
    .exact B l hl
  .cases A with
   | nil=>
    refine⟨[],c::r,?_,by simp,?_⟩
    .rw[e];rfl
    .simp only[Û,not_or];exact⟨λq=>D q.symm,C⟩
   | cons l A=>
    refine⟨(c::l)::A,r,?_,?_,C⟩
    .rw[e,kK,kK];rfl
    .intro x hx;rcases Û.1 hx with rfl|hx
     .have:=B l (by simp)
      simp only[Û,not_or];exact⟨λq=>D q.symm,this⟩
     .exact B x (by simp[hx])
theorem yl{t}(h:ag t=0):aW [t]=(0,0):=by grind [aW,fB,ag]
theorem zb{f:Int}(h:f=1\/f=2\/f=3\/f=4\/f=5)(w):Cw 28 #[f] w (Á (ab (ig f))):=by
 unfold Cw;rcases h with rfl|rfl|rfl|rfl|rfl
 all_goals
  go_in;go_wp2;go_ret;exact⟨rfl,rfl⟩
theorem vm(s)(A:s.size<=1000000)(w):Cw 15 #[Á s,Ï Õ 0,Ï Õ 0] w (Á (s++(⟨#[10]⟩:ByteArray))):=by
 unfold Cw;go_in;go_wp2;go_ret;exact⟨rfl,rfl⟩
theorem qM(f):(ig f).length<=20:=by
 unfold ig;simp only[Â]
 split<;>(try split)<;>(try split)<;>(try split)<;>decide
theorem oL{f:Int}(h:f=1\/f=2\/f=3\/f=4\/f=5)(s)(k:Nat)(O:k<=999999)(w):Cw 15 #[Á s,(k:Int),f] w (Á (ab (bQ k f))):=by
 unfold Cw;have B:=aa (zb h w);have N:=qM f;have I:(ab (ig f)).size<=20:=by rw[cg];exact N
 by_cases G:f=5
 .subst G;have H:=aa (qz k O w)
  have M:(ab (aA k)).size<=6:=by
   rw[cg];exact gX 5 k (by omega)
  have A:Hid (ab (ig 5)++(⟨#[32]⟩:ByteArray)++ab (aA k)++(⟨#[10]⟩:ByteArray)=ab (bQ k 5)):=by
   show _=_;have K:(⟨#[32]⟩:ByteArray)=ab [32]:=rfl;have C:(⟨#[10]⟩:ByteArray)=ab [10]:=rfl;rw[K,C,bn,bn,bn,bQ,if_pos rfl,Int.toNat_natCast];simp
  generalize ab (bQ k 5)=R at A⊢;generalize ab (ig 5)=E at B A I;generalize ab (aA k)=D at H A M;go_in
  go_wp2_with(first
   | (go_at_call 28;refine B.o.mono ?_;rintro e J⟨rfl,rfl⟩)
   | (go_at_call 19;refine H.o.mono ?_;rintro e J⟨rfl,rfl⟩))
  go_ret;exact⟨by rw[<-A.o];rfl,rfl⟩
 .have L:(f==5)=false:=by simpa using G
  have A:Hid (ab (ig f)++(⟨#[10]⟩:ByteArray)=ab (bQ k f)):=by
   show _=_;have C:(⟨#[10]⟩:ByteArray)=ab [10]:=rfl;rw[C,bn,bQ,if_neg G];simp
  generalize ab (bQ k f)=R at A⊢;generalize ab (ig f)=E at B A I;go_in;go_wp2_with(go_at_call 28;refine B.o.mono ?_;rintro e J⟨rfl,rfl⟩);go_ret;exact⟨by rw[<-A.o];rfl,rfl⟩
theorem FN{c}:ay c=Ú↔48<=c.toNat/\c.toNat<=57:=by grind [ay]
theorem ur:∀(k:Nat)(l:List UInt8),ſ l=k->l.all ay=Ú->aY l+1<=10 ^ k
 | 0,l,h,_=>by
  rw[Ë h];decide
 | k+1,l,h,ha=>by
  have C:l≠[]:=λe=>by rw[e]at h;cases h
  have e:=List.dropLast_concat_getLast C;have D:ſ l.dropLast=k:=by rw[List.length_dropLast,h];rfl
  generalize l.dropLast=d at e D;generalize l.getLast C=c at e;subst e;rw[ç,å]at ha;have A:=ur k d D ha.1;have B:=FN.1 (by simpa using ha.2);rw[tw,Nat.pow_succ];omega
def gA(x:List UInt8):Int:=if gh x=Ú then(aY x:Int)else -1
theorem AB{x}(h:ſ x<1\/4<ſ x):gA x=-1:=by grind [gh,gA]
theorem Li{x}(h:1<ſ x)(A:x.head?=Ì 48):gA x=-1:=by grind [gh,gA]
theorem MC{x k}(h:k<ſ x)(A:ay x[k]=á):gA x=-1:=by grind [ay,gh,gA]
theorem QF{x}(A:1<=ſ x)(B:ſ x<=4)(C:x.all ay=Ú)(D:ſ x=1\/x.head?≠Ì 48):gA x=(aY x:Int):=by grind [gh,gA,ay,aY]
theorem Vf(s w):Cw 13 #[Á s] w (gA (ae s)):=by
 unfold Cw;have E:=aw s;by_cases c:s.size<1
 .have D:Hid (gA (ae s)=-1):=AB (.inl (by omega));rw[D.o];have V:(s.size:Int)<1:=by omega
  go_in;go_wp2;go_ret;exact⟨rfl,rfl⟩
 .have V:¬(s.size:Int)<1:=by omega
  by_cases d:4<s.size
  .have D:Hid (gA (ae s)=-1):=AB (.inr (by omega));rw[D.o];have W:(4:Int)<(s.size:Int):=by omega
   go_in;go_wp2;go_ret;exact⟨rfl,rfl⟩
  .have W:¬(4:Int)<(s.size:Int):=by omega
   have G:(ae s).head?=Ì (s[0]):=by
    rw[List.head?_eq_getElem?,List.getElem?_eq_getElem (by omega)];rfl
   by_cases K:1<s.size/\s[0]=48
   .have D:Hid (gA (ae s)=-1):=Li (by omega) (by rw[G,K.2]);rw[D.o];have R:(1:Int)<(s.size:Int):=by omega
    have X:((s[0].toNat:Nat):Int)=48:=by rw[K.2];rfl
    go_in;go_wp2;go_ret;exact⟨rfl,rfl⟩
   .have N:Hid ((ae s).length=1\/(ae s).head?≠Ì 48):=by
     show _\/_;rw[G,E];rcases Classical.em (s.size=1)with q|q
     .exact .inl q
     .exact .inr λe=>K ⟨by omega,by simpa using e⟩
    have O:¬(1:Int)<(s.size:Int)\/(1:Int)<(s.size:Int)/\(((s[0].toNat:Nat):Int)==48)=false:=by
     rcases Classical.em (s.size=1)with q|q
     .exact .inl (by omega)
     .refine .inr ⟨by omega,?_⟩;simp only[beq_eq_false_iff_ne,ne_eq];exact λe=>K ⟨by omega,UInt8.toNat_inj.1 (by simpa using(by omega:s[0].toNat=48))⟩
    have J:=aa E;generalize Z:gA (ae s)=v;have D:=aa Z;rcases O with R|⟨R,X⟩
    all_goals
     go_in;go_wp2_with fail
     go_loopw [3,4] (λn i wr=>wr=w/\∃k:Nat,k<=s.size/\i=(k:Int)/\n=(aY ((ae s).take k):Nat)/\((ae s).take k).all ay=Ú) (λ_ i _=>s.size-(intOf i).toNat)
     case atStart=>exact⟨rfl,0,Ù _,rfl,rfl,rfl⟩
     case round=>
      obtain⟨rfl,k,f,rfl,rfl,A⟩:=hrel;have Y:=ur _ _ rfl A;have g:10 ^ ((ae s).take k).length<=10 ^ 4:=Nat.pow_le_pow_right (by decide) (by rw[List.length_take];omega);have I:aY ((ae s).take k)<=9999:=by omega
      by_cases Q:k<s.size
      .have P:(k:Int)<(s.size:Int):=by omega
       have H:k<(ae s).length:=by rw[J.o];exact Q
       have C:(ae s).take (k+1)=(ae s).take k++[s[k]]:=by rw[Ñ H];rfl
       cases B:ay s[k]with
       | false=>
        have L:=aa (MC H B)
        have M:Hid (Cw 27 #[Ï .u8 (s[k].toNat:Int)] wr (â á)):=by
         have:=jz s[k] wr
         rw[B]at this;exact this
        generalize aY ((ae s).take k)=nv at *;go_wp2_with fail;refine an M.o ?_;go_wp2;go_ret;exact⟨by rw[<-D.o,L.o];rfl,rfl⟩
       | true=>
        have M:Hid (Cw 27 #[Ï .u8 (s[k].toNat:Int)] wr (â Ú)):=by
         have:=jz s[k] wr
         rw[B]at this;exact this
        obtain⟨a,b⟩:=FN.1 B
        have U:Hid ((aY ((ae s).take (k+1)):Int)=(aY ((ae s).take k):Int)*10+(s[k].toNat:Int)-48):=by
         show _=_;rw[C,tw];omega
        have S:Hid (((ae s).take (k+1)).all ay=Ú):=by
         show _=_;rw[C,ç,A];simp[B]
        generalize aY ((ae s).take k)=nv at *;go_wp2_with fail;refine an M.o ?_;go_wp2
        go_roundw
        case rel=>exact⟨by first|exact rfl|trivial,k+1,by omega,by go_num,by rw[U.o],S.o⟩
        case measure=>simp[intOf];omega
      .have P:¬(k:Int)<(s.size:Int):=by omega
       have C:(ae s).take k=ae s:=Ý (by rw[J.o];omega);rw[C]at A I;rw[C];have L:=aa (QF (by rw[J.o];omega) (by rw[J.o];omega) A N.o);generalize aY (ae s)=nv at *;go_wp2;go_ret;exact⟨by rw[<-D.o,L.o];rfl,rfl⟩
theorem kR{w}{B g o:Nat}{v}:am B g w (w.setCell (g,o) v):=(am.refl B g w).setCell (p:=(g,o)) (.inl rfl) v
def a8(T:é)(w:Ê)(M:Nat)(σ:Ss)(b:Bool):Prop:=∃A c,w.heap[M]?=Ì (à #[Á (ab σ.tx),Ï Õ (σ.wd:Int),Å A σ.ps.length c,â b] T (0,0))/\bP w A σ.ps
section
variable {T:é} {w w':Ê} {M:Nat} {σ:Ss} {b:Bool}
theorem a8.lt(h:a8 T w M σ b):M<w.heap.size:=by grind [a8]
theorem a8.W(h:a8 T w M σ b)(E:Ô w w w'):a8 T w' M σ b:=by
 have D:=h.lt;obtain⟨A,c,B,C⟩:=h;exact⟨A,c,(E.block M D).trans B,C.W E⟩
theorem a8.cell(h:a8 T w M σ b):∃A c,w.cell? ⟨M,0,Æ⟩=Ì (Á (ab σ.tx))/\w.cell? ⟨M,1,Æ⟩=Ì (Ï Õ (σ.wd:Int))/\w.cell? ⟨M,2,Æ⟩=Ì (Å A σ.ps.length c)/\w.cell? ⟨M,3,Æ⟩=Ì (â b)/\(∀o,w.frozen? ⟨M,o,Æ⟩=á)/\bP w A σ.ps:=by
 obtain⟨A,c,B,C⟩:=h;exact⟨A,c,by simp[Ã,B],by simp[Ã,B],by simp[Ã,B],by simp[Ã,B],λo=>by simp[ã,B],C⟩
theorem aG.offS{a L}(h:aG w a L)(N:a8 T w M σ b)(K:am w M w w'):aG w' a L:=by
 obtain⟨A,c,I,_⟩:=N;intro i J;obtain⟨C,o,e,B,D,E,H⟩:=h i J
 have G:C≠M:=by
  rintro rfl;simp only[Ã,I]at D E;generalize o+i*3=k at D E;rcases k with _|_|_|_|k<;>simp at D E
 have:=K.size
 exact⟨C,o,e,by omega,(K.cell (p:=⟨C,_,Æ⟩) B G).trans D,(K.cell (p:=⟨C,_,Æ⟩) B G).trans E,(K.cell (p:=⟨C,_,Æ⟩) B G).trans H⟩
theorem VP{t}(h:ag t=0):0<ſ t:=by
 rcases Nat.eq_zero_or_pos (ſ t) with A|A
 .rw[Ë A]at h;exact absurd h (by decide)
 .exact A
theorem bP.offS{a ps}(h:bP w a ps)(E:∀t∈ps,ag t=0)(g:a8 T w M σ b)(f:am w M w w'):bP w' a ps:=by
 intro i J;obtain⟨C,o,K,L,e,D,B,O,G⟩:=h i J;have U:=VP (E _ (Ü J))
 have S:C≠M:=by
  rintro rfl;obtain⟨A,c,Q,R⟩:=g;have N:=B;simp only[Ã,Q]at B;generalize o+i=k at B;rcases k with _|_|_|_|k<;>simp at B
  obtain⟨rfl,Y,_⟩:=B;obtain⟨W,Z,rfl,_,H,_⟩:=G 0 U;obtain⟨X,d,V,P,I,_,q,_⟩:=R 0 (by omega);simp only[Í,Addr.mk.injEq,and_true]at I;obtain⟨rfl,rfl⟩:=I;rw[è]at q;rw[Nat.zero_mul,è,q]at H;cases H
 have:=f.size
 exact⟨C,o,K,L,e,by omega,(f.cell (p:=⟨C,_,Æ⟩) D S).trans B,O,G.offS g f⟩
theorem a8.setTx(h:a8 T w M σ b)(B:∀t∈σ.ps,ag t=0)(s):a8 T (w.setCell M (Á (ab s))) M ⟨s,σ.ps,σ.wd⟩ b:=by
 have C:=h;obtain⟨A,c,D,E⟩:=h;exact⟨A,c,by simp[Ó,È,D],E.offS B C kR⟩
theorem a8.setWd(h:a8 T w M σ b)(B:∀t∈σ.ps,ag t=0)(n:Nat):a8 T (w.setCell (M,1) (n:Int)) M ⟨σ.tx,σ.ps,n⟩ b:=by
 have C:=h;obtain⟨A,c,D,E⟩:=h;exact⟨A,c,by simp[Ó,È,D],E.offS B C kR⟩
theorem a8.setPs{ps A c}(h:a8 T w M σ b)(B:∀t∈ps,ag t=0)(H:bP w A ps):a8 T (w.setCell (M,2) (Å A (ſ ps) c)) M ⟨σ.tx,ps,σ.wd⟩ b:=by
 have C:=h;obtain⟨E,G,D,_⟩:=h;exact⟨A,c,by simp[Ó,È,D],H.offS B C kR⟩
theorem a8.setBad(h:a8 T w M σ b)(B:∀t∈σ.ps,ag t=0):a8 T (w.setCell (M,3) (â Ú)) M σ true:=by
 have C:=h;obtain⟨A,c,D,E⟩:=h;exact⟨A,c,by simp[Ó,È,D],E.offS B C kR⟩
end
structure fE(σ:Ss)(b:Bool)(k:Nat):Prop where
 ok:∀t∈σ.ps,ag t=0
 len:σ.ps.length<=20
 w1:10<=σ.wd
 w2:σ.wd<=100
 fm:b=á->bu σ.ps=0
 tx:σ.tx.length<=k
end Go.Proofs.YtelcnplcpboonaaGreatDoor
namespace Go.Proofs.YtelcnplcpboonaaGreatDoor
open Go Go.RowKit Go.Maps
def cH(t:List Td):ByteArray:=ab (dh [t])
theorem vP{t u}(B:ag t=0)(C:ag u=0)(h:cH t=cH u):t=u:=by
 have e:∀v:List Td,ae (cH v)=aT v++[10]:=λv=>(show dh [v]=_ by simp[dh])
 have A:ae (cH t)=ae (cH u):=by rw[h]
 rw[e,e]at A;exact vq B C (List.append_cancel_right A)
theorem vQ{t}(h:ag t=0):(cH t).size<=2001:=by
 rw[cH,cg]
 have:=rD h
 simp[dh];omega
theorem zt{a b:ByteArray}(h:a.data.toList=b.data.toList):a=b:=by
 cases a;cases b
 congr 1
 exact ä.1 h
theorem mi:Keyed prog 9:=string_keyed Tryz.underlying9
theorem sP{s}(h:s.size<=1000000):keyOf prog 9 (Á s)=Ì (.string s.data.toList):=WideMaps.keyOf_string_mk Tryz.underlying9 (by unfold maxLen;omega)
abbrev jN(A:Option Addr)(l c:Nat)(s:ByteArray):Value:=.agg #[Å A l c,Á s]
abbrev i2:Value:=jN Æ 0 0 ⟨#[]⟩
theorem sX(w):(zeroValue 137).run prog w=.ok i2 w:=by kernel_rfl
structure o6(w:Ê)(x:Nat):Prop where
 cs:∃c T f,w.heap[x]?=Ì (à c T f)
 str:∀o s,w.cell? ⟨x,o,Æ⟩≠Ì (Á s)
section
variable {w w':Ê} {x:Nat}
theorem aG.apart{a I}(h:aG w a I)(H:am w x w w')(J:o6 w x):aG w' a I:=by
 intro i G;obtain⟨b,o,e,A,D,C,E⟩:=h i G
 have B:b≠x:=by
  rintro rfl;exact J.str _ _ C
 have:=H.size
 exact⟨b,o,e,by omega,(H.cell (p:=⟨b,_,Æ⟩) A B).trans D,(H.cell (p:=⟨b,_,Æ⟩) A B).trans C,(H.cell (p:=⟨b,_,Æ⟩) A B).trans E⟩
theorem bN.apart{a ws}(h:bN w a ws)(E:am w x w w')(G:o6 w x):bN w' a ws:=by
 intro i D;obtain⟨b,o,e,A,B⟩:=h i D
 have C:b≠x:=by
  rintro rfl;exact G.str _ _ B
 have:=E.size
 exact⟨b,o,e,by omega,(E.cell (p:=⟨b,_,Æ⟩) A C).trans B⟩
end
def dd(w0 w:Ê)(b:Nat)(qs:List (List Td))(n:Nat):Prop:=
 ∃D m,w.ownsMap prog 9 l8 b m D/\m<=ſ qs/\
  (∀t∈qs,∃A c,has D (.string (cH t).data.toList)=Ú/\D.atKey (.string (cH t).data.toList) (.held i2)=.held (jN A (ſ t) c (ab (ce n t)))/\(ſ t)<=c/\aG w0 A t)/\
  ∀k:ByteArray,(∀t∈qs,cH t≠k)->has D (.string k.data.toList)=á/\D.atKey (.string k.data.toList) (.held i2)=.held i2
section
variable {w0 w w':Ê} {b n:Nat} {qs:List (List Td)} {t:List Td}
theorem dd.lt(h:dd w0 w b qs n):b<w.heap.size:=by
 obtain⟨D,m,h,_⟩:=h;exact h.lt
theorem dd.isMap(h:dd w0 w b qs n):∃B a,w.heap[b]?=Ì (.map B a):=by
 obtain⟨D,m,⟨B,cl,A,_⟩,_⟩:=h;exact⟨B,cl,A⟩
theorem dd.kept(h:dd w0 w b qs n)(H:w'.heap[b]?=w.heap[b]?):dd w0 w' b qs n:=by
 obtain⟨D,m,⟨B,A,C,E⟩,G⟩:=h;exact⟨D,m,⟨B,A,H.trans C,E⟩,G⟩
theorem dd.up{L}(h:dd w0 w b qs n)(M:∀A t,aG w0 A t->aG L A t):dd L w b qs n:=by
 obtain⟨D,m,B,C,E,G⟩:=h;refine⟨D,m,B,C,λt N=>?_,G⟩;obtain⟨A,c,H,I,J,K⟩:=E t N;exact⟨A,c,H,I,J,M A t K⟩
theorem dd.W(h:dd w w b qs n)(A:Ô w w w'):dd w' w' b qs n:=(h.kept (A.block b h.lt)).up λ_ _ q=>q.W A
theorem dd.apart{x}(h:dd w w b qs n)(G:am w x w w')(E:o6 w x):dd w' w' b qs n:=by
 refine(h.kept (G.block b h.lt ?_)).up λ_ _ q=>q.apart G E
 rintro rfl;obtain⟨D,C,B⟩:=h.isMap;obtain⟨c,T,f,A⟩:=E.cs;rw[B]at A;cases A
theorem dd.made(B w:Ê)(n):dd B (w.alloc (.map #[] 0)) w.heap.size [] n:=
 ⟨.map [],0,World.ownsMap_made _ _ _ _,Ù _,λt A=>by simp at A,λ_ _=>⟨rfl,rfl⟩⟩
theorem dd.look(h:dd w0 w b qs n)(N:t∈qs)(M:ag t=0):∃A c,(Instr.lookup 89 (.map (Ì b)) (Á (cH t)) á).run prog w=.ok (jN A (ſ t) c (ab (ce n t))) w/\
  (Instr.lookup 89 (.map (Ì b)) (Á (cH t)) Ú).run prog w=.ok (É #[jN A (ſ t) c (ab (ce n t)),â Ú]) w/\(ſ t)<=c/\aG w0 A t:=by
 obtain⟨D,m,h,_,H,_⟩:=h;obtain⟨A,c,J,G,K,L⟩:=H t N;have E:=sP (s:=cH t) (by have:=vQ M;omega);refine⟨A,c,?_,?_,K,L⟩
 .obtain⟨v,I,B,C⟩:=h.lookup mi Tryz.underlying89 (sX w) (zd:=.held i2) (zp:=[]) rfl E;rw[G]at C;simp only[l8,Í,Prod.mk.injEq,DataW.held.injEq]at C;rw[B,C.1]
 .obtain⟨v,I,B,C⟩:=h.look_ok mi Tryz.underlying89 (sX w) (zd:=.held i2) (zp:=[]) rfl E;rw[G]at C;simp only[l8,Í,Prod.mk.injEq,DataW.held.injEq]at C;rw[B,C.1,J]
theorem dd.miss(h:dd w0 w b qs n){k}(J:k.size<=1000000)(B:∀t∈qs,cH t≠k):
  (Instr.lookup 89 (.map (Ì b)) (Á k) Ú).run prog w=.ok (É #[i2,â á]) w:=by
 obtain⟨D,m,h,_,_,E⟩:=h;obtain⟨G,H⟩:=E k B;obtain⟨v,I,A,C⟩:=h.look_ok mi Tryz.underlying89 (sX w) (zd:=.held i2) (zp:=[]) rfl (sP J);rw[H]at C;simp only[l8,Í,Prod.mk.injEq,DataW.held.injEq]at C;rw[A,C.1,G]
theorem UV(w){k}(A:k.size<=1000000):
  (Instr.lookup 89 (.map Æ) (Á k) Ú).run prog w=.ok (É #[i2,â á]) w:=by
 rw[Maps.look_nil Ú mi Tryz.underlying89 (sX w) (sP A)];rfl
theorem dd.again(h:dd w0 w b qs n)(A:t∈qs):dd w0 w b (qs++[t]) n:=by grind [dd]
theorem dd.put(h:dd w0 w b qs n)(I:∀u∈qs,ag u=0)(g:ſ qs<=20)(Z:ag t=0)(O:t∉qs){A c}(f:ſ t<=c)(a:aG w0 A t):
  ∃Y,(Instr.mapUpdate 89 (.map (Ì b)) (Á (cH t)) (jN A (ſ t) c (ab (ce n t)))).run prog w=.ok () Y/\dd w0 Y b (qs++[t]) n/\w.grownBy Y (Ì b):=by
 obtain⟨D,m,h,V,L,M⟩:=h;have H:=sP (s:=cH t) (by have:=vQ Z;omega);obtain⟨U,E,C,N⟩:=h.update mi Tryz.underlying89 (by unfold maxLen;omega) H (d:=.held (jN A (ſ t) c (ab (ce n t)))) (ps:=[]) (val:=jN A (ſ t) c (ab (ce n t))) rfl;refine⟨U,E,⟨_,_,C,by rw[Â,List.length_singleton];omega,λu X=>?_,λk W=>?_⟩,N⟩
 .by_cases e:u=t
  .subst e;exact⟨A,c,has_put_same h.isMap (mi.key H) _,atKey_put_same h.isMap (mi.key H) _ _,f,a⟩
  .have G:u∈qs:=by
    rcases List.mem_append.1 X with B|B
    .exact B
    .simp at B;exact absurd B e
   obtain⟨J,K,P,Q,R,S⟩:=L u G
   have ne:(Lit.string (cH u).data.toList)≠.string (cH t).data.toList:=by
    intro B;simp only[Lit.string.injEq]at B;exact e (vP (I u G) Z (zt B))
   refine⟨J,K,?_,?_,R,S⟩
   .rw[has_put_other ne];exact P
   .rw[atKey_put_other ne];exact Q
 .have ne:(Lit.string k.data.toList)≠.string (cH t).data.toList:=by
   intro B;simp only[Lit.string.injEq]at B;exact W t (by simp) (zt B).symm
  rw[has_put_other ne,atKey_put_other ne];exact M k λu X=>W u (by simp[X])
end
structure fG(w:Ê)(ov mv:Value)(qs:List (List Td))(n:Nat):Prop where
 ok:∀t∈qs,ag t=0
 pg:∀t∈qs,bS t=0
 ni:∀t∈qs,fU t
 len:ſ qs<=20
 w1:10<=n
 w2:n<=100
 ord:∃A c,ov=Å A (ſ qs) c/\bN w A (qs.map cH)
 kn:(mv=.map Æ/\qs=[])\/∃b,mv=.map (Ì b)/\dd w w b qs n
 ty:∀b o l c,ov=Å (Ì ⟨b,o,Æ⟩) l c->0<l->∃a f,w.heap[b]?=Ì (à a 9 f)
section
variable {w w':Ê} {ov mv:Value} {n:Nat} {qs:List (List Td)}
theorem fG.W(h:fG w ov mv qs n)(C:Ô w w w'):fG w' ov mv qs n:=by
 refine⟨h.ok,h.pg,h.ni,h.len,h.w1,h.w2,?_,?_,λb o l c e D=>?_⟩
 .obtain⟨A,c,e,q⟩:=h.ord;exact⟨A,c,e,q.W C⟩
 .rcases h.kn with e|⟨b,e,q⟩
  .exact .inl e
  .exact .inr ⟨b,e,q.W C⟩
 .obtain⟨B,f,q⟩:=h.ty b o l c e D;exact⟨B,f,(C.block b (Ø.1 q).1).trans q⟩
theorem fG.apart{x}(h:fG w ov mv qs n)(L:am w x w w')(K:o6 w x):fG w' ov mv qs n:=by
 refine⟨h.ok,h.pg,h.ni,h.len,h.w1,h.w2,?_,?_,λb o l c e M=>?_⟩
 .obtain⟨A,c,e,q⟩:=h.ord;exact⟨A,c,e,q.apart L K⟩
 .rcases h.kn with e|⟨b,e,q⟩
  .exact .inl e
  .exact .inr ⟨b,e,q.apart L K⟩
 .obtain⟨D,f,q⟩:=h.ty b o l c e M;refine⟨D,f,(L.block b (Ø.1 q).1 ?_).trans q⟩;rintro rfl;obtain⟨A,I,B,E⟩:=h.ord;rw[e]at B;simp only[Value.slice.injEq]at B;obtain⟨rfl,rfl,rfl⟩:=B;obtain⟨H,J,C,_,G⟩:=E 0 (by simpa using M);simp only[Í,Addr.mk.injEq,and_true]at C;obtain⟨rfl,rfl⟩:=C;exact K.str _ _ G
end
def cq(T:é)(w:Ê)(d:Nat)(qs:List (List Td))(n:Nat):Prop:=∃a b,w.heap[d]?=Ì (à #[Ï Õ (n:Int),a,b] T (0,0))/\fG w a b qs n
section
variable {T:é} {w w':Ê} {d n:Nat} {qs:List (List Td)}
theorem cq.lt(h:cq T w d qs n):d<w.heap.size:=by grind [mv,cq]
theorem cq.W(h:cq T w d qs n)(G:Ô w w w'):cq T w' d qs n:=by
 have C:=h.lt;obtain⟨E,D,A,B⟩:=h;exact⟨E,D,(G.block d C).trans A,B.W G⟩
theorem cq.cell(h:cq T w d qs n):∃A c m,w.cell? ⟨d,0,Æ⟩=Ì (Ï Õ (n:Int))/\w.cell? ⟨d,1,Æ⟩=Ì (Å A (ſ qs) c)/\w.cell? ⟨d,2,Æ⟩=Ì (.map m)/\(∀o,w.frozen? ⟨d,o,Æ⟩=á)/\bN w A (qs.map cH)/\((m=Æ/\qs=[])\/∃b,m=Ì b/\dd w w b qs n):=by
 obtain⟨G,E,B,C⟩:=h;obtain⟨A,c,rfl,D⟩:=C.ord;rcases C.kn with⟨rfl,e⟩|⟨b,rfl,q⟩
 .exact⟨A,c,Æ,by simp[Ã,B],by simp[Ã,B],by simp[Ã,B],λo=>by simp[ã,B],D,.inl ⟨rfl,e⟩⟩
 .exact⟨A,c,Ì b,by simp[Ã,B],by simp[Ã,B],by simp[Ã,B],λo=>by simp[ã,B],D,.inr ⟨b,rfl,q⟩⟩
theorem Oz{a b c}{o:Nat}{v f}(h:w.heap[d]?=Ì (à #[a,b,c] T f))(A:w.cell? (d,o)=Ì v):v=a\/v=b\/v=c:=by
 simp only[Ã,h]at A;rcases o with _|_|_|o<;>simp at A
 .exact .inl A.symm
 .exact .inr (.inl A.symm)
 .exact .inr (.inr A.symm)
theorem cq.blk(h:cq T w d qs n):o6 w d:=by
 obtain⟨G,E,B,C⟩:=h;obtain⟨A,c,rfl,D⟩:=C.ord;refine⟨⟨_,_,_,B⟩,λo s H=>?_⟩;rcases Oz B H with e|e|e
 .cases e
 .cases e
 .rcases C.kn with⟨rfl,_⟩|⟨b,rfl,_⟩<;>cases e
theorem cq.put{ps m G mv}(h:cq T w d qs n)(H:fG w G mv ps m):
  cq T (((w.setCell ⟨d,0,Æ⟩ (Ï Õ (m:Int))).setCell ⟨d,1,Æ⟩ G).setCell ⟨d,2,Æ⟩ mv) d ps m/\am w d w (((w.setCell ⟨d,0,Æ⟩ (Ï Õ (m:Int))).setCell ⟨d,1,Æ⟩ G).setCell ⟨d,2,Æ⟩ mv):=by
 have A:am w d w (((w.setCell ⟨d,0,Æ⟩ (Ï Õ (m:Int))).setCell ⟨d,1,Æ⟩ G).setCell ⟨d,2,Æ⟩ mv):=(((am.refl _ _ w).setCell (p:=⟨d,0,Æ⟩) (.inl rfl) _).setCell (p:=⟨d,1,Æ⟩) (.inl rfl) _).setCell (p:=⟨d,2,Æ⟩) (.inl rfl) _;refine⟨?_,A⟩;have C:=h.blk;obtain⟨E,D,B,_⟩:=h;exact⟨G,mv,by simp[Ó,È,B],H.apart A C⟩
end
theorem rT:∀a:List (List Td),(∀t∈a,bS t=0)->bu a=0
 | [],_=>rfl
 | t::r,h=>by rw[lK (h t (by simp))];exact rT r λu A=>h u (by simp[A])
end Go.Proofs.YtelcnplcpboonaaGreatDoor
namespace Go.Proofs.YtelcnplcpboonaaGreatDoor
open Go Go.RowKit
set_option maxRecDepth 100000
set_option maxHeartbeats 2000000
inductive js (ps:List (List Td)) (wd:Nat):ByteArray->Int->Bool->Prop where
 | ok (h:bu ps=0):js ps wd (ab (aJ wd ps)) 0 Ú
 | full (h:bu ps≠0):js ps wd ⟨#[]⟩ (bu ps) Ú
 | many:js ps wd ⟨#[]⟩ 0 á
abbrev jr:Prop:=∀(ps:List (List Td))(wd:Nat)(a:Option Addr)(cap:Nat)(W:Ê),(∀t∈ps,ag t=0)->ſ ps<=20->10<=wd->wd<=100->bP W a ps->
 Þ prog 29 #[Å a (ſ ps) cap,Ï Õ (wd:Int)] W λe w'=>(∃S f k,e=À (É #[Á S,Ï Õ f,â k])/\js ps wd S f k)/\Ô W W w'
abbrev lY:Prop:=∀(s:ByteArray)(W:Ê),Þ prog 17 #[Á s] W λe w'=>∃ps k f A c,e=À (É #[Å A (ſ ps) c,Ï Õ k,Ï Õ f])/\cJ s ps k f/\bP w' A ps/\Ô W W w'
abbrev q7:Prop:=∀(ps old:List (List Td))(A B:Option Addr)(c c':Nat)(W:Ê),bP W A ps->bP W B old->(∀t∈ps,ag t=0)->(∀t∈old,ag t=0)->ſ ps<=20->ſ old<=20->
 Þ prog 18 #[Å A (ſ ps) c,Å B (ſ old) c'] W λe w'=>e=À (Ï Õ (cV ps old:Nat))/\Ô W W w'
abbrev qZ:Prop:=∀(a b:ByteArray),a.size<=100000000->b.size<=100000000->∀W:Ê,Þ prog 20 #[Á a,Á b] W λe w'=>e=À (Ï Õ (cL (ae a) (ae b) 0))/\Ô W W w'
theorem sE(Z:jr){σ:Ss}{b}(ps)(E:∀t∈ps,ag t=0)(B:ſ ps<=20)(V:Nat)(i:10<=V)(j:V<=100)(a X M)(W:Ê)(g:a8 32 W M σ b)(h:∀t∈σ.ps,ag t=0)(d:bP W a ps):
  Þ prog 16 #[Ç (Ì ⟨M,0,Æ⟩),Å a (ſ ps) X,Ï Õ (V:Int)] W λe Y=>∃S f k,e=À (É #[Á S,Ï Õ f])/\js ps V S f k/\a8 32 Y M σ (b||!k)/\am W M W Y:=by
 have K:Hid (Cp 29 #[Å a (ſ ps) X,Ï Õ (V:Int)] W λe Y=>(∃S f k,e=À (É #[Á S,Ï Õ f,â k])/\js ps V S f k)/\Ô W W Y):=Z ps V a X W E B i j d;have N:Hid (a8 32 W M σ b):=g;have Q:Hid (∀t∈σ.ps,ag t=0):=h;clear Z g h d E B;generalize (ſ ps)=np at *;go_in;go_wp2_with fail;refine K.o.mono ?_;rintro e G⟨⟨S,f,k,rfl,P⟩,J⟩;have L:Hid (js ps V S f k):=P;have C:Hid (a8 32 G M σ b):=N.o.W J;have D:Hid (am W M W G):=am.of J;clear P J K N;cases k with
 | true=>
  go_wp2;go_ret2;exact⟨S,f,Ú,rfl,L.o,by simpa using C.o,D.o⟩
 | false=>
  obtain⟨A,c,_,_,_,U,O,_⟩:=C.o.cell;have R:=O 3;have I:Hid (a8 32 (G.setCell ⟨M,3,Æ⟩ (â Ú)) M σ Ú):=C.o.setBad Q.o;have H:Hid (am W M W (G.setCell ⟨M,3,Æ⟩ (â Ú))):=D.o.trans kR;clear O;go_wp2;go_ret2;exact⟨S,f,á,rfl,L.o,by simpa using I.o,H.o⟩
theorem wT:∀(n:Nat)(s:List UInt8)(i k:Nat),ſ s<=n->cM s i=Ì k->k<=i+ſ s
 | 0,s,i,k,h,hk=>by
  have:s=[]:=Ë (by omega)
  subst this;rw[cM,j5]at hk;cases hk
 | n+1,[],i,k,h,hk=>by
  rw[cM,j5]at hk;cases hk
 | n+1,c::r,i,k,h,hk=>by
  simp only[Ä]at h⊢;cases B:cZ c with
  | true=>
   rw[cM,ku r i B]at hk
   have:=wT n r (i+1) k (by omega) hk
   omega
  | false=>
   cases C:bX (c::r)with
   | false=>
    rw[cM,pL i B C]at hk
    have:i=k:=ê hk
    omega
   | true=>
    have D:=lJ c r;have A:=oN (c::r);rw[cM,nk i B C]at hk
    have:=wT n ((c::r).drop (aV (c::r))) (i+aV (c::r)) k (by simp only[æ,Ä];omega) hk
    simp only[æ,Ä]at this A;omega
theorem KO(s):fX s<=ſ s:=by
 unfold fX
 split
 .cases h:cM s 0 with
  | none=>exact Ù _
  | some k=>
   have:=wT _ s 0 k Zl h
   simpa using this
 .exact Ù _
theorem Va(s u):s9 s u<=s.size:=by
 unfold s9;cases h:(ec (ae s))[(aQ (ae s)).length-ſ u]? with
 | none=>exact ß _
 | some k=>
  obtain⟨A,rfl⟩:=List.getElem?_eq_some_iff.1 h
  have:=(uo (ae s) _ (Nat.lt_of_lt_of_eq A (kX _).symm) A).1
  rw[aw]at this
  show(ec (ae s))[_]<=s.size
  omega
def eN(f:Int):Prop:=f=1\/f=2\/f=3\/f=4\/f=5
theorem UW(x):aq x=0\/eN (aq x):=by
 unfold aq cX dF eN
 split
 .exact .inr (.inl rfl)
 .split
  .exact .inr (.inl rfl)
  .split
   .exact .inr (.inr (.inl rfl))
   .split
    .split
     .exact .inr (by decide)
     .split
      .exact .inl rfl
      .exact .inr (by decide)
    .split
     .exact .inr (by decide)
     .exact .inl rfl
theorem zH:∀A:List Td,iQ A=0\/eN (iQ A)
 | []=>.inl rfl
 | x::r=>by
  rw[iQ]
  split
  .exact zH r
  .exact UW x
theorem S7(t):ag t=0\/eN (ag t):=by grind [ag,eN,zH]
theorem SC:∀(ps:List (List Td))(prev:Int)(k:Nat),(fB prev k ps).2=0\/eN (fB prev k ps).2:=by intro ps;induction ps<;>grind [fB,S7,eN]
theorem SB(ps):(aW ps).2=0\/eN (aW ps).2:=by grind [aW,eN,SC]
theorem UJ(s):dc s=0\/eN (dc s):=by grind [dc,eN]
theorem xY{s ps k f}(h:cJ s ps k f)(A:f≠0):eN f/\∃n:Nat,k=(n:Int)/\n<=s.size:=by
 cases h with
 | lex h1=>exact⟨(UJ _).resolve_left h1,_,rfl,by have:=KO (ae s);rwa[aw]at this⟩
 | bad _ _=>exact⟨by unfold eN;decide,_,rfl,Va s _⟩
 | full _ _ h1=>exact⟨(SB _).resolve_left h1,0,rfl,Ù _⟩
 | ok=>exact absurd rfl A
