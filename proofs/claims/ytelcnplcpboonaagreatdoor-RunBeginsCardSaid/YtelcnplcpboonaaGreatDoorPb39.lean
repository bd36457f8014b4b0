import Derived.Test.YtelcnplcpboonaaGreatDoorPb30
import Derived.Test.YtelcnplcpboonaaGreatDoorPb35
import Derived.Test.YtelcnplcpboonaaGreatDoorPb33
open Go.Proofs.Tryz
namespace Go.Proofs.YtelcnplcpboonaaGreatDoor
open Go Go.RowKit Go.Shelf
attribute [local go_sem] Oper.semAt_some
set_option maxRecDepth 100000
set_option maxHeartbeats 4000000
theorem y4b{W:World}{B i:Nat}{xs:Array Value}{t:TypeId}{v:Value}(h:W.heap[B]?=some (.cells xs t (0,0)))(hi:xs[i]?=some v):W.cell? ⟨B,i,none⟩=some v/\W.frozen? ⟨B,i,none⟩=false:=by
 constructor<;>simp[World.cell?,World.frozen?,h,hi]
theorem q8l(W:World)(xs:Array Value)(t:TypeId)(i:Nat)(v:Value)(hi:xs[i]?=some v):(W.alloc (.cells xs t)).cell? ⟨W,i,none⟩=some v/\(W.alloc (.cells xs t)).frozen? ⟨W,i,none⟩=false:=y4b (World.alloc_heap_new W _) hi
theorem z6n{W:World}{a:Addr}{v:Value}(o:Obj)(h:W.cell? a=some v):(W.alloc o).cell? a=some v:=cell_kept h (World.grownBy_alloc W o none) (fun r e=>by cases e)
theorem v1x{W:World}{a:Addr}{v:Value}(o:Obj)(h:W.cell? a=some v)(hf:W.frozen? a=false):(W.alloc o).frozen? a=false:=(frozen_kept h (World.grownBy_alloc W o none) (fun r e=>by cases e)).trans hf
def Alk(b:ByteArray)(pre:List LnT):Prop:=pre.length<=(q1x b).length/\pre.map (·.1)=(q1x b).take pre.length
def Oth(b:ByteArray)(k:Nat)(pre:List LnT):Prop:=∃p0 x,pre=p0++[x]/\Alk b p0/\p0.length=k/\∀h:k<(q1x b).length,x.1≠(q1x b)[k]
theorem v0e{b:ByteArray}{A:List LnT}{x:LnT}(h:Alk b A)(hl:A.length<(q1x b).length)(hx:x.1=(q1x b)[A.length]):Alk b (A++[x]):=by
 refine⟨by simp;omega,?_⟩;rw[List.map_append,h.2,List.length_append,List.map_cons,List.map_nil,List.length_singleton,List.take_succ_eq_append_getElem hl,hx]
theorem v0d{a b:ByteArray}{ys:List LnT}(h:Alk b ys)(hy:ys.map (·.1)=q1x a):cmn (lns a.data.toList) (lns b.data.toList)=ys.length:=by
 have A:(q1x a).length=ys.length:=by rw[<-hy,List.length_map]
 refine j2g a b ys.length ?_ (by omega) h.1 (fun h1 _=>by omega);rw[<-h.2,hy,List.take_of_length_le (by omega)]
theorem v0f{a b:ByteArray}{k:Nat}{A:List LnT}(h:Oth b k A)(hp:A.map (·.1) <+:q1x a):cmn (lns a.data.toList) (lns b.data.toList)=k:=by
 obtain⟨C,x,rfl,D,rfl,E⟩:=h;obtain⟨r,B⟩:=hp;rw[List.map_append,List.map_cons,List.map_nil,List.append_assoc,List.singleton_append]at B;have G:(C.map (·.1)).length=C.length:=List.length_map _;refine j2g a b C.length ?_ (by rw[<-B];simp) D.1 (fun q1 q2 e=>E q2 ?_)
 ·rw[<-B,List.take_append_of_le_length (by omega),List.take_of_length_le (by omega),D.2]
 ·rw[<-e]
  have:(q1x a)[C.length]?=some x.1:=by rw[<-B,List.getElem?_append_right (by omega),G,Nat.sub_self];rfl
  rw[List.getElem?_eq_getElem q1]at this;exact(Option.some.inj this).symm
theorem j2o(n:Nat)(hn:5<=n)(a b:ByteArray)(ha:a.size<=100000000)(hb:b.size<=100000000)(w:World):
  CallsIn Fence.wide n prog 66 #[.string a,.string b] w fun e w'=>e=.returned (.int .i64 ((cmn (lns a.data.toList) (lns b.data.toList):Nat):Int))/\Below w w w':=by
 have h1:1<=n:=by omega
 have lb:(q1x b).length<=100000001:=by have:=k5t b;omega
 obtain⟨m,J⟩:∃m,cmn (lns a.data.toList) (lns b.data.toList)=m:=⟨_,rfl⟩;have HM:Hid (cmn (lns a.data.toList) (lns b.data.toList)=m):=J;rw[J];clear J;obtain⟨F,H⟩:∃F,F=Fence.wide:=⟨_,rfl⟩;rw[<-H];have hF:∀f,F.fn f:=fun f=>by rw[H];trivial
 have i:F.round=none:=by rw[H];rfl
 have P:Hid (F=Fence.wide):=H;clear H;refine callsIn_of_wp_marks func66 rfl (hF 66) ?_ i;simp only[ntmps66,List.size_toArray,List.length_cons,List.length_nil,Nat.reduceAdd,Nat.reduceSub,Array.replicate_succ,Array.replicate_zero,List.push_toArray,List.append_toArray,List.nil_append,List.cons_append];have d:=(q8l w #[.string b] 9 0 (.string b) rfl).1
 gi_wp2_with (first
  | (gi_at_call 91;rw[P.o];refine(callsIn_wide.2 (j5f _ _)).mono ?_;rintro e w'⟨rfl,rfl⟩)
  | (gi_at_call 90;rw[P.o];refine(callsIn_wide.2 (k2e b hb w.heap.size _ (by simp) d)).mono ?_;rintro e E⟨A,c,rfl,hO,b2⟩))
 rename_i Q0 K0 hK0;have R:Below w w E:=((Below.refl _ w).alloc Zl _).trans (b2.mono (by simp));have HW:Hid (z1s E.heap.size E A (q1x b)):=q9k hO;have j:w.heap.size<=E.heap.size:=R.size;clear b2 hO d;have c0:=q8l E #[.slice A (q1x b).length c] 72 0 (.slice A (q1x b).length c) rfl;have q:=q8l (E.alloc (.cells #[.slice A (q1x b).length c] 72)) #[.int .i64 0] 3 0 (.int .i64 0) rfl;have c2:=q8l ((E.alloc (.cells #[.slice A (q1x b).length c] 72)).alloc (.cells #[.int .i64 0] 3)) #[.string a] 9 0 (.string a) rfl;simp only[World.size_alloc]at q c2;have t:Below E E (((E.alloc (.cells #[.slice A (q1x b).length c] 72)).alloc (.cells #[.int .i64 0] 3)).alloc (.cells #[.string a] 9)):=(((Below.refl _ E).alloc Zl _).alloc (by simp) _).alloc (by simp;omega) _;have O:=z3e (n-1) (by omega) (E.heap.size+1+1) E.heap.size a ha _ (by simp) c2.1;rw[<-P.o]at O
 refine wpIn_rangeFunc_ownF i h1 (gf:=124) (lb:=#[.pointer (some ⟨E.heap.size+1+1,0,none⟩)]) rfl (hF 124) (enters_of func124 (by kernel_rfl) rfl)
  O belowK_t (belowK_b (by simp;omega)) Zb (fun _=>rfl)
  (fun C W=>(W.cell? ⟨E,0,none⟩=some (.slice A (q1x b).length c)/\W.cell? ⟨E.heap.size+1,0,none⟩=some (.int .i64 (C.length:Int))/\W.frozen? ⟨E.heap.size+1,0,none⟩=false/\Alk b C)/\Below E E W)
  (fun cd C W=>(W.cell? ⟨E.heap.size+1,0,none⟩=some (.int .i64 ((C.length-1:Nat):Int))/\cd=.exit 0/\Oth b (C.length-1) C)/\Below E E W)
  (OwnFrom.and (Own.from (fun s A B row hs U hr=>⟨cell_kept hs.1 U hr,cell_kept hs.2.1 U hr,(frozen_kept hs.2.1 U hr).trans hs.2.2.1,hs.2.2.2⟩) _) (ownFrom_below Zl (by simp;omega)))
  (fun _=>OwnFrom.and (Own.from (fun s A B row hs U hr=>⟨cell_kept hs.1 U hr,hs.2⟩) _) (ownFrom_below Zl (by simp;omega)))
  ⟨⟨z6n _ (z6n _ c0.1),z6n _ q.1,v1x _ q.1 q.2,Nat.zero_le _,rfl⟩,t⟩
  (fun x=>{tmps:=#[.string a,.string b,undef,undef,.int .i64 0,.pointer (some ⟨E,0,none⟩),.pointer (some ⟨E.heap.size+1,0,none⟩),.string x.1,.string b,.func (.func 124) #[] #[.pointer (some ⟨w,0,none⟩)],.slice A (q1x b).length c,.string a,.func (.func 124) #[] #[.pointer (some ⟨E.heap.size+1+1,0,none⟩)],.string x.1,undef,undef,undef,undef,undef,undef,undef,undef,undef,undef,undef,undef,undef,undef,undef],defers:=[]}) ?assign ?body ?done ?stop
 case assign=>
  intro l x W K S
  gi_wp2
  exact S
 case body=>
  rintro l C x W⟨⟨k0,V,Q,G⟩,M⟩Ab;have Aa:=G.1;have r:Hid (Alk b C):=G;have I:(C++[x]).length-1=C.length:=by simp
  have Ad:=x.2;generalize hx:x.1=xs at Ad;have HX:Hid (x.1=xs):=hx;clear G Ab hx;by_cases y:C.length=(q1x b).length
  ·have Y:Hid (Oth b C.length (C++[x])):=⟨C,x,rfl,r.o,rfl,fun h=>by omega⟩;have z:((C.length:Int)==((q1x b).length:Int))=true:=by simp[y]
   clear y
   generalize(q1x b).length=L at *
   gi_wp2
   exact⟨KeepsOthers.refl _,⟨by rw[I];exact V,rfl,by rw[I];exact Y.o⟩,M⟩
  ·have Z:C.length<(q1x b).length:=by omega
   have z:((C.length:Int)==((q1x b).length:Int))=false:=by simp;omega
   obtain⟨g,o,rfl,U,hc⟩:=HW.o C.length Z;have v:W.cell? ⟨g,o+C.length,none⟩=some (.string (q1x b)[C.length]):=(M.cell (p:=⟨g,_,none⟩) U).trans hc;have Ae:(C.length:Int)<((q1x b).length:Int):=by omega
   clear hc y Aa;by_cases X:xs=(q1x b)[C.length]
   ·have Y:Hid (Alk b (C++[x])):=v0e r.o Z (by rw[HX.o];exact X);rw[<-X]at v;have Ac:(xs.toList==xs.toList)=true:=by simp
    clear X
    generalize(q1x b).length=L at *
    gi_wp2
    refine⟨KeepsOthers.setCell _ _ _,(Below.refl _ W).setCell (p:=⟨E.heap.size+1,0,none⟩) (by simp) _,⟨(cso (by omega)).trans k0,(css V).trans ?_,csf.trans Q,Y.o⟩,M.setCell (p:=⟨E.heap.size+1,0,none⟩) (by simp) _⟩;simp
   ·have Y:Hid (Oth b C.length (C++[x])):=⟨C,x,rfl,r.o,rfl,fun h=>by rw[HX.o];exact X⟩
    have Ac:(xs.toList==(q1x b)[C.length].toList)=false:=by
     simp only[beq_eq_false_iff_ne,ne_eq,ByteArray.toList_eq];exact fun h=>X (ByteArray.ext (Array.toList_inj.1 h))
    clear X
    generalize(q1x b)[C.length]=ys at *
    generalize(q1x b).length=L at *
    gi_wp2
    exact⟨KeepsOthers.refl _,⟨by rw[I];exact V,rfl,by rw[I];exact Y.o⟩,M⟩
 case done=>
  rintro D ys W u k⟨⟨k0,V,Q,G⟩,M⟩S;have J:ys.length=m:=by rw[<-HM.o];exact(v0d G k).symm
  rw[J]at V;apply hK0;clear G k k0 Q J
  gi_wp2
  refine⟨by simp,.inl ⟨_,_,rfl,run_takeDeferred S,?_⟩⟩;exact⟨_,results_tmp rfl _ _ _,rfl,R.trans (((M.trans (belowK_b (w:=E) Zl W D _ _ (by simp at u;omega) S rfl rfl))).mono j)⟩
 case stop=>
  rintro D cd C W u N⟨⟨V,rfl,G⟩,M⟩S;have J:C.length-1=m:=by rw[<-HM.o];exact(v0f G N).symm
  rw[J]at V;clear G N J
  gi_wp2
  refine⟨by simp,.inl ⟨_,_,rfl,run_takeDeferred S,?_⟩⟩;exact⟨_,results_tmp rfl _ _ _,rfl,R.trans (((M.trans (belowK_b (w:=E) Zl W D _ _ (by simp at u;omega) S rfl rfl))).mono j)⟩
theorem k7v(a b:ByteArray)(ha:a.size<=100000000)(hb:b.size<=100000000)(A:a≠b)(w:World):
  Calls prog 66 #[.string a,.string b] w fun e w'=>e=.returned (.int .i64 (fdL (btL a) (btL b) 0))/\Below w w w':=by
 have h:=callsIn_wide.1 (j2o 5 Zl a b ha hb w);have B:=j2h a.data.toList b.data.toList 0 (fun e=>A (ByteArray.ext (Array.toList_inj.1 e)));rw[Nat.zero_add]at B;rw[B]at h;exact h
def y8f(s:ByteArray)(wd:Int)(w:World)(e:Ending)(w':World):Prop:=∃T k f,e=.returned (.tuple #[.int .i64 (if f=0 then fdL (btL s) (btL T) 0 else 0),.int .i64 k,q0s f])/\j9w s wd T k f/\Below w w w'
abbrev v7u:Prop:=∀(s:ByteArray)(wd:Int)(w:World),q7n w->Calls prog 48 #[.string s,.int .i64 wd] w fun e w'=>y8f s wd w e w'
theorem v9k{s T:ByteArray}{wd k:Int}(h:j9w s wd T k 0):s.size<=60000/\T.size<=100000000/\k=0:=by
 generalize C:(0:Int)=z at h;cases h with
 | range=>cases C
 | bad _ _ hf=>exact absurd C.symm hf
 | full _ _ hf=>exact absurd C.symm hf
 | ok h hp hf=>
  obtain⟨_,_,B,A⟩:=q9c hp;have G:=k2m wd.toNat _ A hf;have H:=Nat.mul_le_mul_right 2000001 B;obtain⟨D,_,_⟩:=k9c hp;have E:=(z3d D).1;rw[q7t];rw[q0b]at E;exact⟨by omega,by omega,rfl⟩
theorem k3a(hF:y9p):v7u:=by
 intro s E w O;have H:Hid (Calls prog 65 #[.string s,.int .i64 E] w fun e w'=>∃T k f,e=.returned (.tuple #[.string T,.int .i64 k,q0s f])/\j9w s E T k f/\Below w w w'):=hF s E w O;clear O hF;go_in;go_wp2_with fail;refine H.o.mono ?_;rintro e B⟨T,k,f,rfl,N,M⟩;have C:Hid (j9w s E T k f):=N;have G:Hid (Below w w B):=M;clear N M;by_cases D:f=0
 ·subst D;obtain⟨Q,J,rfl⟩:=v9k C.o;rw[q0q];by_cases A:s=T
  ·have S:(s.toList==T.toList)=true:=by simp[A]
   have I:Hid (fdL (btL s) (btL T) 0=-1):=(show _=_ by rw[A];exact j3i _ _);clear A Q J;go_wp2;go_ret3;exact⟨T,0,0,by rw[q0q,if_pos rfl,I.o];rfl,C.o,G.o⟩
  ·have S:(s.toList==T.toList)=false:=by
    simp only[beq_eq_false_iff_ne,ne_eq,ByteArray.toList_eq];exact fun h=>A (ByteArray.ext (Array.toList_inj.1 h))
   have K:Hid (Calls prog 66 #[.string s,.string T] B fun e w'=>e=.returned (.int .i64 (fdL (btL s) (btL T) 0))/\Below B B w'):=k7v s T (by omega) J A B;clear A Q J;generalize P:fdL (btL s) (btL T) 0=v at K;have I:Hid (fdL (btL s) (btL T) 0=v):=P;clear P;go_wp2_with fail;refine K.o.mono ?_;rintro e U⟨rfl,R⟩;go_wp2;go_ret3;exact⟨T,0,0,by rw[q0q,if_pos rfl,I.o];rfl,C.o,q0g G.o Zl R⟩
 ·have L:Hid (f≠0):=D;rw[q0h D];clear D;go_wp2;go_ret3;exact⟨T,k,f,by rw[q0h L.o,if_neg L.o];rfl,C.o,G.o⟩
end Go.Proofs.YtelcnplcpboonaaGreatDoor
