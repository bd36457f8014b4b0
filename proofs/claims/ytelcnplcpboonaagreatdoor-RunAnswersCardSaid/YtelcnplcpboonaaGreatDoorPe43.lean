import Derived.Test.YtelcnplcpboonaaGreatDoorPe38
import Derived.Test.YtelcnplcpboonaaGreatDoorPe39
open Go.Proofs.Tryz
open List renaming length->ſ
open Go.Value renaming string->À,pointer->È,slice->Ê,int->Í
open Go renaming undef->Á,callsIn_wide->Ç,cell_kept->É,run_takeDeferred->Ë,World->Ì,ownFrom_below->Î,belowK_b->Ï
open Array renaming toList_inj->Â
open Option renaming some->Ã,none->Æ
open Option.some renaming inj->Ä
open Go.Obj renaming cells->Å
namespace Go.Proofs.YtelcnplcpboonaaGreatDoor
open Go Go.RowKit Go.Shelf
attribute [local go_sem] Oper.semAt_some
set_option maxRecDepth 100000
set_option maxHeartbeats 4000000
theorem Mb{W:Ì}{B i:Nat}{A t v}(h:W.heap[B]?=Ã (Å A t (0,0)))(hi:A[i]?=Ã v):W.cell? (B,i)=Ã v/\W.frozen? (B,i)=false:=by
 constructor<;>simp[World.cell?,World.frozen?,h,hi]
theorem tm(W:Ì)(A t)(i:Nat)(v)(hi:A[i]?=Ã v):(W.alloc (Å A t)).cell? (W.heap.size,i)=Ã v/\(W.alloc (Å A t)).frozen? (W.heap.size,i)=false:=Mb (World.alloc_heap_new W _) hi
theorem uJ{W:Ì}{a v}(o)(h:W.cell? a=Ã v):(W.alloc o).cell? a=Ã v:=É h (World.grownBy_alloc W o Æ) (λr e=>by cases e)
theorem Uu{W:Ì}{a v}(o)(h:W.cell? a=Ã v)(A:W.frozen? a=false):(W.alloc o).frozen? a=false:=(frozen_kept h (World.grownBy_alloc W o Æ) (λr e=>by cases e)).trans A
def lX(b:ByteArray)(pre:List gb):Prop:=ſ pre<=(aX b).length/\pre.map (·.1)=(aX b).take (ſ pre)
def q8(b:ByteArray)(k:Nat)(pre:List gb):Prop:=∃a x,pre=a++[x]/\lX b a/\(ſ a)=k/\∀h:k<(aX b).length,x.1≠(aX b)[k]
theorem TF{b A x}(h:lX b A)(B:ſ A<(aX b).length)(C:x.1=(aX b)[ſ A]):lX b (A++[x]):=by
 refine⟨by simp;omega,?_⟩;rw[List.map_append,h.2,List.length_append,List.map_cons,List.map_nil,List.length_singleton,List.take_succ_eq_append_getElem B,C]
theorem TE{a b B}(h:lX b B)(C:B.map (·.1)=aX a):dP (cy a.data.toList) (cy b.data.toList)=ſ B:=by
 have A:(aX a).length=ſ B:=by rw[<-C,List.length_map]
 refine FF a b (ſ B) ?_ (by omega) h.1 (λD _=>by omega);rw[<-h.2,C,List.take_of_length_le (by omega)]
theorem TG{a b k A}(h:q8 b k A)(H:A.map (·.1) <+:aX a):dP (cy a.data.toList) (cy b.data.toList)=k:=by
 obtain⟨C,x,rfl,D,rfl,E⟩:=h;obtain⟨r,B⟩:=H;rw[List.map_append,List.map_cons,List.map_nil,List.append_assoc,List.singleton_append]at B;have G:(C.map (·.1)).length=ſ C:=List.length_map _;refine FF a b (ſ C) ?_ (by rw[<-B];simp) D.1 (λq1 q2 e=>E q2 ?_)
 .rw[<-B,List.take_append_of_le_length (by omega),List.take_of_length_le (by omega),D.2]
 .rw[<-e]
  have:(aX a)[ſ C]?=Ã x.1:=by rw[<-B,List.getElem?_append_right (by omega),G,Nat.sub_self];rfl
  rw[List.getElem?_eq_getElem q1]at this;exact(Ä this).symm
theorem Rx(n)(hn:5<=n)(a b)(ha:a.size<=100000000)(hb:b.size<=100000000)(w:Ì):
  CallsIn Fence.wide n prog 66 #[À a,À b] w λe c=>e=.returned (Í .i64 ((dP (cy a.data.toList) (cy b.data.toList):Nat):Int))/\Below w w c:=by
 have h1:1<=n:=by omega
 have lb:(aX b).length<=100000001:=by have:=zV b;omega
 obtain⟨m,J⟩:∃m,dP (cy a.data.toList) (cy b.data.toList)=m:=⟨_,rfl⟩;have HM:Hid (dP (cy a.data.toList) (cy b.data.toList)=m):=J;rw[J];clear J;obtain⟨F,H⟩:∃F,F=Fence.wide:=⟨_,rfl⟩;rw[<-H];have hF:∀f,F.fn f:=λf=>by rw[H];trivial
 have i:F.round=none:=by rw[H];rfl
 have P:Hid (F=Fence.wide):=H;clear H;refine callsIn_of_wp_marks func66 rfl (hF 66) ?_ i;simp only[ntmps66,List.size_toArray,List.length_cons,List.length_nil,Nat.reduceAdd,Nat.reduceSub,Array.replicate_succ,Array.replicate_zero,List.push_toArray,List.append_toArray,List.nil_append,List.cons_append];have d:=(tm w #[À b] 9 0 (À b) rfl).1
 gi_wp2_with (first
  | (gi_at_call 91;rw[P.o];refine(Ç.2 (Sa _ _)).mono ?_;rintro e w'⟨rfl,rfl⟩)
  | (gi_at_call 90;rw[P.o];refine(Ç.2 (Pp b hb w.heap.size _ (by simp) d)).mono ?_;rintro e E⟨A,c,rfl,hO,b2⟩))
 rename_i Q0 K0 hK0;have R:Below w w E:=((Below.refl _ w).alloc Zl _).trans (b2.mono (by simp));have HW:Hid (ep E.heap.size E A (aX b)):=jR hO;have j:w.heap.size<=E.heap.size:=R.size;clear b2 hO d;have c0:=tm E #[Ê A (aX b).length c] 72 0 (Ê A (aX b).length c) rfl;have q:=tm (E.alloc (Å #[Ê A (aX b).length c] 72)) #[Í .i64 0] 3 0 (Í .i64 0) rfl;have c2:=tm ((E.alloc (Å #[Ê A (aX b).length c] 72)).alloc (Å #[Í .i64 0] 3)) #[À a] 9 0 (À a) rfl;simp only[World.size_alloc]at q c2;have t:Below E E (((E.alloc (Å #[Ê A (aX b).length c] 72)).alloc (Å #[Í .i64 0] 3)).alloc (Å #[À a] 9)):=(((Below.refl _ E).alloc Zl _).alloc (by simp) _).alloc (by simp;omega) _;have O:=I7 (n-1) (by omega) (E.heap.size+1+1) E.heap.size a ha _ (by simp) c2.1;rw[<-P.o]at O
 refine wpIn_rangeFunc_ownF i h1 (gf:=124) (lb:=#[È (Ã ⟨E.heap.size+1+1,0,Æ⟩)]) rfl (hF 124) (enters_of func124 (by kernel_rfl) rfl)
  O belowK_t (Ï (by simp;omega)) Zb (λ_=>rfl)
  (λC W=>(W.cell? ⟨E,0,Æ⟩=Ã (Ê A (aX b).length c)/\W.cell? ⟨E.heap.size+1,0,Æ⟩=Ã (Í .i64 (ſ C:Int))/\W.frozen? ⟨E.heap.size+1,0,Æ⟩=false/\lX b C)/\Below E E W)
  (λa C W=>(W.cell? ⟨E.heap.size+1,0,Æ⟩=Ã (Í .i64 ((ſ C-1:Nat):Int))/\a=.exit 0/\q8 b (ſ C-1) C)/\Below E E W)
  (OwnFrom.and (Own.from (λs A B a b U c=>⟨É b.1 U c,É b.2.1 U c,(frozen_kept b.2.1 U c).trans b.2.2.1,b.2.2.2⟩) _) (Î Zl (by simp;omega)))
  (λ_=>OwnFrom.and (Own.from (λs A B a b U c=>⟨É b.1 U c,b.2⟩) _) (Î Zl (by simp;omega)))
  ⟨⟨uJ _ (uJ _ c0.1),uJ _ q.1,Uu _ q.1 q.2,Nat.zero_le _,rfl⟩,t⟩
  (λx=>{tmps:=#[À a,À b,Á,Á,Í .i64 0,È (Ã ⟨E,0,Æ⟩),È (Ã ⟨E.heap.size+1,0,Æ⟩),À x.1,À b,.func (.func 124) #[] #[È (Ã ⟨w,0,Æ⟩)],Ê A (aX b).length c,À a,.func (.func 124) #[] #[È (Ã ⟨E.heap.size+1+1,0,Æ⟩)],À x.1,Á,Á,Á,Á,Á,Á,Á,Á,Á,Á,Á,Á,Á,Á,Á],defers:=[]}) ?assign ?body ?done ?stop
 case assign=>
  intro l x W K S
  gi_wp2
  exact S
 case body=>
  rintro l C x W⟨⟨k0,V,Q,G⟩,M⟩Ab;have Aa:=G.1;have r:Hid (lX b C):=G;have I:(C++[x]).length-1=ſ C:=by simp
  have Ad:=x.2;generalize hx:x.1=xs at Ad;have HX:Hid (x.1=xs):=hx;clear G Ab hx;by_cases y:ſ C=(aX b).length
  .have Y:Hid (q8 b (ſ C) (C++[x])):=⟨C,x,rfl,r.o,rfl,λh=>by omega⟩;have z:((ſ C:Int)==((aX b).length:Int))=true:=by simp[y]
   clear y
   generalize(aX b).length=L at *
   gi_wp2
   exact⟨KeepsOthers.refl _,⟨by rw[I];exact V,rfl,by rw[I];exact Y.o⟩,M⟩
  .have Z:ſ C<(aX b).length:=by omega
   have z:((ſ C:Int)==((aX b).length:Int))=false:=by simp;omega
   obtain⟨g,o,rfl,U,hc⟩:=HW.o (ſ C) Z;have v:W.cell? ⟨g,o+ſ C,Æ⟩=Ã (À (aX b)[ſ C]):=(M.cell (p:=⟨g,_,Æ⟩) U).trans hc;have Ae:(ſ C:Int)<((aX b).length:Int):=by omega
   clear hc y Aa;by_cases X:xs=(aX b)[ſ C]
   .have Y:Hid (lX b (C++[x])):=TF r.o Z (by rw[HX.o];exact X);rw[<-X]at v;have Ac:(xs.toList==xs.toList)=true:=by simp
    clear X
    generalize(aX b).length=L at *
    gi_wp2
    refine⟨KeepsOthers.setCell _ _ _,(Below.refl _ W).setCell (p:=⟨E.heap.size+1,0,Æ⟩) (by simp) _,⟨(af (by omega)).trans k0,(cF V).trans ?_,gc.trans Q,Y.o⟩,M.setCell (p:=⟨E.heap.size+1,0,Æ⟩) (by simp) _⟩;simp
   .have Y:Hid (q8 b (ſ C) (C++[x])):=⟨C,x,rfl,r.o,rfl,λh=>by rw[HX.o];exact X⟩
    have Ac:(xs.toList==(aX b)[ſ C].toList)=false:=by
     simp only[beq_eq_false_iff_ne,ne_eq,ByteArray.toList_eq];exact λh=>X (ByteArray.ext (Â.1 h))
    clear X
    generalize(aX b)[ſ C]=ys at *
    generalize(aX b).length=L at *
    gi_wp2
    exact⟨KeepsOthers.refl _,⟨by rw[I];exact V,rfl,by rw[I];exact Y.o⟩,M⟩
 case done=>
  rintro D ys W u k⟨⟨k0,V,Q,G⟩,M⟩S;have J:ſ ys=m:=by rw[<-HM.o];exact(TE G k).symm
  rw[J]at V;apply hK0;clear G k k0 Q J
  gi_wp2
  refine⟨by simp,.inl ⟨_,_,rfl,Ë S,?_⟩⟩;exact⟨_,results_tmp rfl _ _ _,rfl,R.trans (((M.trans (Ï (w:=E) Zl W D _ _ (by simp at u;omega) S rfl rfl))).mono j)⟩
 case stop=>
  rintro D cd C W u N⟨⟨V,rfl,G⟩,M⟩S;have J:ſ C-1=m:=by rw[<-HM.o];exact(TG G N).symm
  rw[J]at V;clear G N J
  gi_wp2
  refine⟨by simp,.inl ⟨_,_,rfl,Ë S,?_⟩⟩;exact⟨_,results_tmp rfl _ _ _,rfl,R.trans (((M.trans (Ï (w:=E) Zl W D _ _ (by simp at u;omega) S rfl rfl))).mono j)⟩
theorem Nn(a b)(C:a.size<=100000000)(D:b.size<=100000000)(A:a≠b)(w:Ì):
  Cb 66 #[À a,À b] w (cL (ae a) (ae b) 0):=by
 unfold Cb;have h:=Ç.1 (Rx 5 Zl a b C D w);have B:=wB a.data.toList b.data.toList 0 (λe=>A (ByteArray.ext (Â.1 e)));rw[Nat.zero_add]at B;rw[B]at h;exact h
def Qh(s:ByteArray)(wd:Int)(w:Ì)(e:Ending)(w':Ì):Prop:=∃T k f,e=.returned (.tuple #[Í .i64 (if f=0 then cL (ae s) (ae T) 0 else 0),Í .i64 k,aF f])/\lP s wd T k f/\Below w w w'
abbrev md:Prop:=∀(s:ByteArray)(wd:Int)(w:Ì),eo w->Calls prog 48 #[À s,Í .i64 wd] w λe a=>Qh s wd w e a
theorem Kw{s T I k}(h:lP s I T k 0):s.size<=60000/\T.size<=100000000/\k=0:=by
 generalize C:(0:Int)=z at h;cases h with
 | range=>cases C
 | bad _ _ hf=>exact absurd C.symm hf
 | full _ _ hf=>exact absurd C.symm hf
 | ok h hp hf=>
  obtain⟨_,_,B,A⟩:=lM hp;have G:=qO I.toNat _ A hf;have H:=Nat.mul_le_mul_right 2000001 B;obtain⟨D,_,_⟩:=NS hp;have E:=(tr D).1;rw[j8];rw[aw]at E;exact⟨by omega,by omega,rfl⟩
theorem PA(S:EJ):md:=by
 intro s P w M;have D:=aa (S s P w M);go_in;go_wp2_with fail;refine D.o.mono ?_;rintro e O⟨T,k,f,rfl,K,J⟩;have A:=aa K;have C:=aa J;by_cases G:f=0
 .subst G;obtain⟨R,Q,rfl⟩:=Kw A.o;rw[cS];by_cases B:s=T
  .have L:(s.toList==T.toList)=true:=by simp[B]
   have E:Hid (cL (ae s) (ae T) 0=-1):=(show _=_ by rw[B];exact Kt _ _);go_wp2;go_ret3;exact⟨T,0,0,by rw[cS,if_pos rfl,E.o];rfl,A.o,C.o⟩
  .have L:(s.toList==T.toList)=false:=by
    simp only[beq_eq_false_iff_ne,ne_eq,ByteArray.toList_eq];exact λh=>B (ByteArray.ext (Â.1 h))
   have H:=aa (Nn s T (by omega) Q B O);generalize N:cL (ae s) (ae T) 0=v at H;have E:=aa N;go_wp2_with fail;refine ai H.o λU b2=>?_
   go_wp2;go_ret3;exact⟨T,0,0,by rw[cS,if_pos rfl,E.o];rfl,A.o,aH C.o Zl b2⟩
 .have I:=aa G;rw[cN G];go_wp2;go_ret3;exact⟨T,k,f,by rw[cN I.o,if_neg I.o];rfl,A.o,C.o⟩
end Go.Proofs.YtelcnplcpboonaaGreatDoor
namespace Go.Proofs.YtelcnplcpboonaaGreatDoor
open Go.ChangeShapes Go.WideShapes Go.RowKit
set_option maxRecDepth 100000
theorem I1{A P d rest W g}(O:prog.globalNamed A=Ã g)(H:(prog.globals[g]?).map (·.type)=Ã 43)
  (h:laidMet prog ((A,.iface P d)::rest) W):nu g W:=by
 obtain⟨M,⟨L,N,K,B,p,q,E,G,D,C,_,_⟩,_⟩:=h;obtain rfl:=Ä (O.symm.trans E);obtain rfl:=Ä (H.symm.trans G);have J:=Tryz.underlying43;have I:=World.var?_cell O D 0;cases B with
 | zero=>simp[DataW.trod]at C
 | succ n=>
  unfold DataW.trod at C;rw[J]at C
  split at C
  all_goals (try (cases C;done))
  all_goals (try (rename_i e2;cases e2;done))
  all_goals (try (rename_i e1 e2;cases e1;done))
  rename_i u v _ e;refine⟨u,v,I.trans ?_⟩;rw[<-Array.getElem?_toList,e];rfl
theorem LI{W}(h:laidMetH prog kT W):fo W:=by
 have h0:=(laidMetH_iff.1 h).1;refine⟨VD h,Ou h,?_,?_⟩
 .have h1 := h0.filter (λx => x.1 == "strconv.ErrSyntax")
  have e : ((kT.filter λx => x.2.handleName?.isNone).filter λx => x.1 == "strconv.ErrSyntax") = [("strconv.ErrSyntax", Rows.laid_strconv_ErrSyntax)] := by rfl
  rw[e]at h1;exact I1 (by kernel_rfl) (by kernel_rfl) h1
 .have h1 := h0.filter (λx => x.1 == "strconv.ErrRange")
  have e : ((kT.filter λx => x.2.handleName?.isNone).filter λx => x.1 == "strconv.ErrRange") = [("strconv.ErrRange", Rows.laid_strconv_ErrRange)] := by rfl
  rw[e]at h1;exact I1 (by kernel_rfl) (by kernel_rfl) h1
