import Derived.Test.YthcpdohdppkmkaaGreatDoorPu44
open Go.Proofs.Tryz
namespace Go.Proofs.YthcpdohdppkmkaaGreatDoor
open Go Go.RowKit Go.Shelf
attribute [local go_sem] Oper.semAt_some
set_option maxRecDepth 100000
set_option maxHeartbeats 2000000
theorem v5s{W:World}{B i:Nat}{xs:Array Value}{t:TypeId}{v:Value}(h:W.heap[B]?=some (.cells xs t (0,0)))(hi:xs[i]?=some v):W.cell? ⟨B,i,none⟩=some v/\W.frozen? ⟨B,i,none⟩=false:=by
 constructor<;>simp[World.cell?,World.frozen?,h,hi]
theorem q5v(W:World)(xs:Array Value)(t:TypeId)(i:Nat)(v:Value)(hi:xs[i]?=some v):(W.alloc (.cells xs t)).cell? ⟨W,i,none⟩=some v/\(W.alloc (.cells xs t)).frozen? ⟨W,i,none⟩=false:=
 v5s (World.alloc_heap_new W _) hi
theorem q0y{W:World}{a:Addr}{v:Value}(o:Obj)(h:W.cell? a=some v):(W.alloc o).cell? a=some v:=cell_kept h (World.grownBy_alloc W o none) (fun r e=>by cases e)
theorem q1z{W:World}{a:Addr}{v:Value}(o:Obj)(h:W.cell? a=some v)(hf:W.frozen? a=false):(W.alloc o).frozen? a=false:=(frozen_kept h (World.grownBy_alloc W o none) (fun r e=>by cases e)).trans hf
abbrev z1p:Value:=.agg #[.int .i64 0,.int .i64 0]
abbrev g0a(n:Int):Value:=.iface 22 (.int .i64 n)
theorem y7n(s:ByteArray)(wd:Int)(w:World)(h:60000<s.size):
  Calls prog 25 #[.string s,.int .i64 wd] w fun e w'=>e=.returned (.tuple #[z1p,g0a 3])/\Below w w w':=by
 have h':(60000:Int)<(s.size:Int):=by omega
 clear h;go_in;go_wp2;exact bodyPost_ret (v:=.tuple #[z1p,g0a 3]) (by simp[results,Tryz.results25,go_sem]) rfl ⟨rfl,(Zb.alloc Zl _).alloc (by simp) _⟩
theorem v8k(s:ByteArray)(wd:Int)(w:World)(h:s.size<=60000)(hw:wd<0\/100<wd):
  Calls prog 25 #[.string s,.int .i64 wd] w fun e w'=>e=.returned (.tuple #[z1p,g0a 1])/\Below w w w':=by
 have h':¬(60000:Int)<(s.size:Int):=by omega
 clear h;rcases hw with hw|hw
 ·go_in;go_wp2;exact bodyPost_ret (v:=.tuple #[z1p,g0a 1]) (by simp[results,Tryz.results25,go_sem]) rfl ⟨rfl,(Zb.alloc Zl _).alloc (by simp) _⟩
 ·have hw':¬wd<0:=by omega
  go_in;go_wp2;exact bodyPost_ret (v:=.tuple #[z1p,g0a 1]) (by simp[results,Tryz.results25,go_sem]) rfl ⟨rfl,(Zb.alloc Zl _).alloc (by simp) _⟩
def ovs(wd:Int)(pre:List LnT):Int:=over wd (pre.map fun x=>(x.1.size:Int))
theorem v8t(wd:Int)(pre:List LnT)(x:LnT):ovs wd (pre++[x])=ovs wd pre+ovr wd x.1.size:=by
 unfold ovs;rw[List.map_append,z5p];simp[over]
theorem j3k(wd:Int)(pre:List LnT):0<=ovs wd pre:=z5q _ _
theorem g2g(wd:Int)(h:0<=wd)(pre:List LnT)(hp:pre.length<=60001):ovs wd pre<=6000100000000:=by
 have:=v1i wd h (M:=100000000) (pre.map fun x=>(x.1.size:Int)) (by
  intro m hm;obtain⟨y,_,rfl⟩:=List.mem_map.1 hm
  have:=y.2
  omega)
 rw[List.length_map]at this;unfold ovs;omega
theorem v8s(wd:Int)(s:ByteArray)(ys:List LnT)(h:ys.map (·.1)=q1w s):ovs wd ys=q2l s wd/\(ys.length:Int)-1=q1p s:=by
 have e:(ys.map fun x=>(x.1.size:Int))=lens s.data.toList:=by
  have e1:(ys.map fun x=>(x.1.size:Int))=(ys.map (·.1)).map fun b=>(b.size:Int):=by rw[List.map_map];rfl
  rw[e1,h];unfold q1w lens;rw[List.map_map];rfl
 refine⟨by unfold ovs q2l;rw[e],?_⟩;unfold q1p;rw[<-e,List.length_map]
theorem v8j(n:Nat)(hn:3<=n)(s:ByteArray)(wd:Int)(w:World)(h:s.size<=60000)(hw0:0<=wd)(hw1:wd<=100):
  CallsIn Fence.wide n prog 25 #[.string s,.int .i64 wd] w fun e w'=>e=.returned (.tuple #[.agg #[.int .i64 (q2l s wd),.int .i64 (q1p s)],.nilIface])/\Below w w w':=by
 have h1:1<=n:=by omega
 have h':¬(60000:Int)<(s.size:Int):=by omega
 have h2:¬wd<0:=by omega
 have h3:¬100<wd:=by omega
 obtain⟨F,hFe⟩:∃F,F=Fence.wide:=⟨_,rfl⟩;rw[<-hFe];have hF:∀f,F.fn f:=fun f=>by rw[hFe];trivial
 have hro:F.round=none:=by rw[hFe];rfl
 have HFe:Hid (F=Fence.wide):=hFe;clear hFe;refine callsIn_of_wp_marks func25 rfl (hF 25) ?_ hro;simp only[ntmps25,List.size_toArray,List.length_cons,List.length_nil,Nat.reduceAdd,Nat.reduceSub,Array.replicate_succ,Array.replicate_zero,List.push_toArray,List.append_toArray,List.nil_append,List.cons_append]
 gi_wp2_with (gi_at_call 66;rw[HFe.o];refine(callsIn_wide.2 (k2w _ _)).mono ?_;rintro e w'⟨rfl,rfl⟩)
 have c0:=q5v w #[.int .i64 wd] 3 0 (.int .i64 wd) rfl;have c1:=q5v (w.alloc (.cells #[.int .i64 wd] 3)) #[.int .i64 0,.int .i64 0] 57 0 (.int .i64 0) rfl;have c2:=q5v (w.alloc (.cells #[.int .i64 wd] 3)) #[.int .i64 0,.int .i64 0] 57 1 (.int .i64 0) rfl;have c3:=q5v ((w.alloc (.cells #[.int .i64 wd] 3)).alloc (.cells #[.int .i64 0,.int .i64 0] 57)) #[.int .i64 0,.int .i64 (-1)] 57 0 (.int .i64 0) rfl;have c4:=q5v ((w.alloc (.cells #[.int .i64 wd] 3)).alloc (.cells #[.int .i64 0,.int .i64 0] 57)) #[.int .i64 0,.int .i64 (-1)] 57 1 (.int .i64 (-1)) rfl;have c5:=q5v (((w.alloc (.cells #[.int .i64 wd] 3)).alloc (.cells #[.int .i64 0,.int .i64 0] 57)).alloc (.cells #[.int .i64 0,.int .i64 (-1)] 57)) #[.string s] 9 0 (.string s) rfl;simp only[World.size_alloc]at c1 c2 c3 c4 c5
 have hB0:Below w w ((((w.alloc (.cells #[.int .i64 wd] 3)).alloc (.cells #[.int .i64 0,.int .i64 0] 57)).alloc (.cells #[.int .i64 0,.int .i64 (-1)] 57)).alloc (.cells #[.string s] 9)):=
  ((((Below.refl _ w).alloc Zl _).alloc (by simp) _).alloc (by simp;omega) _).alloc (by simp;omega) _
 have hlen:(q1w s).length<=60001:=by
  have:=k6n s.data.toList
  rw[<-Lib.size_eq]at this;unfold q1w;simp;omega
 have hseq:=q9m (n-1) (by omega) (w.heap.size+1+1+1) w.heap.size s (by omega) _ (by simp) c5.1;rw[<-HFe.o]at hseq
 refine wpIn_rangeFunc_ownF hro h1 (gf:=112) (lb:=#[.pointer (some ⟨w.heap.size+1+1+1,0,none⟩)]) rfl (hF 112) (enters_of func112 (by kernel_rfl) rfl)
  hseq belowK_t (belowK_b (by simp;omega)) Zb (fun _=>rfl)
  (fun pre W=>(W.cell? ⟨w,0,none⟩=some (.int .i64 wd)/\W.cell? ⟨w.heap.size+1,0,none⟩=some (.int .i64 0)/\W.frozen? ⟨w.heap.size+1,0,none⟩=false/\W.cell? ⟨w.heap.size+1,1,none⟩=some (.int .i64 0)/\W.frozen? ⟨w.heap.size+1,1,none⟩=false
   /\W.cell? ⟨w.heap.size+1+1,0,none⟩=some (.int .i64 (ovs wd pre))/\W.frozen? ⟨w.heap.size+1+1,0,none⟩=false/\W.cell? ⟨w.heap.size+1+1,1,none⟩=some (.int .i64 ((pre.length:Int)-1))/\W.frozen? ⟨w.heap.size+1+1,1,none⟩=false)/\Below w w W)
  (fun _ _ _=>False)
  (OwnFrom.and (Own.from (fun s A B row hs hg hr=>⟨cell_kept hs.1 hg hr,cell_kept hs.2.1 hg hr,(frozen_kept hs.2.1 hg hr).trans hs.2.2.1,cell_kept hs.2.2.2.1 hg hr,(frozen_kept hs.2.2.2.1 hg hr).trans hs.2.2.2.2.1,
   cell_kept hs.2.2.2.2.2.1 hg hr,(frozen_kept hs.2.2.2.2.2.1 hg hr).trans hs.2.2.2.2.2.2.1,cell_kept hs.2.2.2.2.2.2.2.1 hg hr,(frozen_kept hs.2.2.2.2.2.2.2.1 hg hr).trans hs.2.2.2.2.2.2.2.2⟩) _) (ownFrom_below Zl (by simp;omega)))
  (fun _ _ _ _ _ hs _ _=>hs)
  ⟨⟨q0y _ (q0y _ (q0y _ c0.1)),q0y _ (q0y _ c1.1),q1z _ (q0y _ c1.1) (q1z _ c1.1 c1.2),q0y _ (q0y _ c2.1),q1z _ (q0y _ c2.1) (q1z _ c2.1 c2.2),
   q0y _ c3.1,q1z _ c3.1 c3.2,q0y _ c4.1,q1z _ c4.1 c4.2⟩,hB0⟩
  (fun x=>{tmps:=#[.string s,.int .i64 wd,undef,.pointer (some ⟨w,0,none⟩),.pointer (some ⟨w.heap.size+1,0,none⟩),.nilIface,.pointer (some ⟨w.heap.size+1+1,0,none⟩),.string x.1,.string s,.int .i64 s.size,.bool false,undef,undef,.int .i64 wd,.bool false,.bool false,.int .i64 wd,.bool false,.bool false,undef,undef,.agg #[.int .i64 0,.int .i64 (-1)],.string s,.func (.func 112) #[] #[.pointer (some ⟨w.heap.size+1+1+1,0,none⟩)],.string x.1,undef,undef,undef,undef,undef,undef,undef,undef,undef,undef,undef,undef,undef,undef],defers:=[]}) ?assign ?body ?done ?stop
 case assign=>
  intro l x W K hK
  gi_wp2
  exact hK
 case body=>
  rintro l pre x W⟨⟨hw,r0,fr0,r1,fr1,k0,fk0,k1,fk1⟩,hB⟩hlt;have hx:=x.2;have b1:=j3k wd pre;have b4:=g2g wd hw0 pre (by omega);have b5:((pre.length:Int))<=60001:=by omega
  have b6:(0:Int)<=(pre.length:Int):=by omega
  have b7:((x.1.size:Nat):Int)<=100000000:=by omega
  clear hlt hx hlen c0 c1 c2 c3 c4 c5
  gi_wp2
  all_goals
   refine⟨(KeepsOthers.setCell _ _ _).trans (KeepsOthers.setCell _ _ _),((Below.refl w.heap.size W).setCell (p:=⟨w.heap.size+1+1,1,none⟩) (by simp;omega) _).setCell (p:=⟨w.heap.size+1+1,0,none⟩) (by simp;omega) _,⟨?_,?_,?_,?_,?_,?_,?_,?_,?_⟩,(hB.setCell (p:=⟨w.heap.size+1+1,1,none⟩) (by simp;omega) _).setCell (p:=⟨w.heap.size+1+1,0,none⟩) (by simp;omega) _⟩
   ·exact(cso (by omega)).trans ((cso (by omega)).trans hw)
   ·exact(cso (by omega)).trans ((cso (by omega)).trans r0)
   ·exact csf.trans (csf.trans fr0)
   ·exact(cso (by omega)).trans ((cso (by omega)).trans r1)
   ·exact csf.trans (csf.trans fr1)
   ·refine(css ((cso (by omega)).trans k0)).trans ?_;rw[v8t];unfold ovr;refine congrArg (fun z:Int=>some (Value.int .i64 z)) ?_;omega
   ·exact csf.trans (csf.trans fk0)
   ·refine(cso (by omega)).trans ((css k1).trans ?_);refine congrArg (fun z:Int=>some (Value.int .i64 z)) ?_;simp
   ·exact csf.trans (csf.trans fk1)
 case done=>
  rintro D ys W hD hys⟨⟨hw,r0,fr0,r1,fr1,k0,fk0,k1,fk1⟩,hB⟩hK;obtain⟨e1,e2⟩:=v8s wd s ys hys;rw[e1]at k0;rw[e2]at k1;clear e1 e2 hys
  gi_wp2
  have hK':=((KeepsOthers.setCell W ⟨w.heap.size+1,0,none⟩ (.int .i64 (q2l s wd))).trans (KeepsOthers.setCell _ ⟨w.heap.size+1,1,none⟩ (.int .i64 (q1p s)))).same D _ hK rfl;refine⟨by simp,.inl ⟨_,_,rfl,run_takeDeferred hK',?_⟩⟩
  have q0:((W.setCell ⟨w.heap.size+1,0,none⟩ (.int .i64 (q2l s wd))).setCell ⟨w.heap.size+1,1,none⟩ (.int .i64 (q1p s))).cell? ⟨w.heap.size+1,0,none⟩=some (.int .i64 (q2l s wd)):=
   (cso (by omega)).trans (css r0)
  have q1:((W.setCell ⟨w.heap.size+1,0,none⟩ (.int .i64 (q2l s wd))).setCell ⟨w.heap.size+1,1,none⟩ (.int .i64 (q1p s))).cell? ⟨w.heap.size+1,1,none⟩=some (.int .i64 (q1p s)):=
   css ((cso (by omega)).trans r1)
  have q0':=cell_kept q0 (grownBy_putObj' _ D (.deferred none)) (fun r e=>by cases e;exact⟨_,hK',rfl⟩);have q1':=cell_kept q1 (grownBy_putObj' _ D (.deferred none)) (fun r e=>by cases e;exact⟨_,hK',rfl⟩);refine⟨.tuple #[.agg #[.int .i64 (q2l s wd),.int .i64 (q1p s)],.nilIface],?_,rfl,((hB.setCell (p:=⟨w.heap.size+1,0,none⟩) (by simp) _).setCell (p:=⟨w.heap.size+1,1,none⟩) (by simp) _).trans (belowK_b (w:=w) Zl _ D _ _ (by simp at hD;omega) hK' rfl rfl)⟩;simp[results,Tryz.results25,go_sem,q0',q1']
 case stop=>
  rintro D c pre W _ _ h _;exact h.elim
theorem g5q(s:ByteArray)(wd:Int)(w:World)(h:s.size<=60000)(hw0:0<=wd)(hw1:wd<=100):
  Calls prog 25 #[.string s,.int .i64 wd] w fun e w'=>e=.returned (.tuple #[.agg #[.int .i64 (q2l s wd),.int .i64 (q1p s)],.nilIface])/\Below w w w':=
 callsIn_wide.1 (v8j 3 Zl s wd w h hw0 hw1)
end Go.Proofs.YthcpdohdppkmkaaGreatDoor
namespace Go.Proofs.YthcpdohdppkmkaaGreatDoor
open Go Go.RowKit
def y8z(a b:Int × Int):Bool:=okC a&&okC b
def k6k(a b:Int × Int):Int:=if y8z a b=true then 0 else 1
def k6l(a b:Int × Int):Bool:=y8z a b&&z3m a b
theorem v7g(a b:Int × Int)(w:World):
  Calls prog 27 #[k2a a,k2a b] w fun e w'=>e=.returned (.tuple #[.bool (k6l a b),q0s (k6k a b)])/\Below w w w':=by
 cases h:y8z a b with
 | false=>
  have e1:k6l a b=false:=by simp[k6l,h]
  have e2:q0s (k6k a b)=.iface 22 (.int .i64 1):=by simp[k6k,h,q0s]
  rw[e1,e2];exact y5u a b w h
 | true=>
  have e1:k6l a b=z3m a b:=by simp[k6l,h]
  have e2:q0s (k6k a b)=.nilIface:=by simp[k6k,h,q0s]
  rw[e1,e2];simp only[y8z,Bool.and_eq_true]at h;exact j9k a b w h.1 h.2
def ofE(s:ByteArray)(wd:Int):Int:=if 60000<s.size then 3 else if wd<0\/100<wd then 1 else 0
def ofO(s:ByteArray)(wd:Int):Int:=if ofE s wd=0 then q2l s wd else 0
def ofL(s:ByteArray)(wd:Int):Int:=if ofE s wd=0 then q1p s else 0
theorem v1c(s:ByteArray)(wd:Int)(w:World):
  Calls prog 25 #[.string s,.int .i64 wd] w fun e w'=>e=.returned (.tuple #[.agg #[.int .i64 (ofO s wd),.int .i64 (ofL s wd)],q0s (ofE s wd)])/\Below w w w':=by
 by_cases h1:60000<s.size
 ·have e0:ofE s wd=3:=by simp[ofE,h1]
  have e1:ofO s wd=0:=by simp[ofO,e0]
  have e2:ofL s wd=0:=by simp[ofL,e0]
  have e3:q0s (ofE s wd)=.iface 22 (.int .i64 3):=by simp[e0,q0s]
  rw[e1,e2,e3];exact y7n s wd w h1
 ·by_cases h2:wd<0\/100<wd
  ·have e0:ofE s wd=1:=by simp[ofE,h1,h2]
   have e1:ofO s wd=0:=by simp[ofO,e0]
   have e2:ofL s wd=0:=by simp[ofL,e0]
   have e3:q0s (ofE s wd)=.iface 22 (.int .i64 1):=by simp[e0,q0s]
   rw[e1,e2,e3];exact v8k s wd w (by omega) h2
  ·have e0:ofE s wd=0:=by simp[ofE,h1,h2]
   have e1:ofO s wd=q2l s wd:=by simp[ofO,e0]
   have e2:ofL s wd=q1p s:=by simp[ofL,e0]
   have e3:q0s (ofE s wd)=.nilIface:=by simp[e0,q0s]
   rw[e1,e2,e3];exact g5q s wd w (by omega) (by omega) (by omega)
theorem y2l{x:List UInt8}{n:Nat}(hn:n<=100)(hx:x.length<=60000):ofE (wbS x) (n:Int)=0/\ofO (wbS x) (n:Int)=((q1n n 0 x).1:Int)/\ofL (wbS x) (n:Int)=((q1n n 0 x).2.1:Int):=by
 have e0:ofE (wbS x) (n:Int)=0:=by rw[ofE,if_neg (by rw[q6h];omega),if_neg (by omega)]
 have e1:(wbS x).data.toList=x:=by simp[wbS]
 obtain⟨a1,a2⟩:=y8c (wbS x) (n:Int) (by omega);rw[e1,z8w]at a1 a2;exact⟨e0,by rw[ofO,if_pos e0];exact a1.symm,by rw[ofL,if_pos e0];exact a2.symm⟩
theorem y9v(n:Nat)(x:List UInt8):(q1n n 0 (x++[10])).1=(q1n n 0 x).1/\(q1n n 0 (x++[10])).2.1=(q1n n 0 x).2.1+1:=by
 have e2:∀c,q1n n c [10]=(0-n,1,0):=fun c=>k1z n c 0
 rw[z3t,e2];simp
theorem v7h{a b:Nat × Nat}(h:¬q1q a b)(h1:a.1<=1000000)(h2:a.2<=1000000)(h3:b.1<=1000000)(h4:b.2<=1000000):k6k ((a.1:Int),(a.2:Int)) ((b.1:Int),(b.2:Int))=0/\k6l ((a.1:Int),(a.2:Int)) ((b.1:Int),(b.2:Int))=false:=by
 have e:y8z ((a.1:Int),(a.2:Int)) ((b.1:Int),(b.2:Int))=true:=by
  simp only[y8z,okC,j5a,Bool.and_eq_true,decide_eq_true_eq];omega
 refine⟨by rw[k6k,if_pos e],?_⟩;rw[k6l,e,Bool.true_and,z3m];unfold q1q at h;by_cases q:(a.1:Int)=(b.1:Int)
 ·rw[if_pos q];exact decide_eq_false (by dsimp only;omega)
 ·rw[if_neg q];exact decide_eq_false (by dsimp only;omega)
structure TlF(t:List Td)(n:Nat)(S U:ByteArray)(K:Nat × Nat):Prop where
 one:z5m t (n:Int)=0
 txt:j3i t (n:Int)=S
 bst:bE (q2p t) (n:Int)=0
 bt:bT (q2p t) (n:Int)=U
 ba:(bA (q2p t) (n:Int)).1=K
 su:S=U++(⟨#[10]⟩:ByteArray)
 sz:U.size<=20000
 e:ofE S (n:Int)=0
 o:ofO S (n:Int)=(K.1:Int)
 l:ofL S (n:Int)=(K.2:Int)+1
theorem g3b{t:List Td}(hl:q7s t=0){n:Nat}(h1:10<=n)(h2:n<=100):∃S U,TlF t n S U (bA (q2p t) (n:Int)).1:=by
 obtain⟨h0,h9,hd,hm⟩:=k2q hl;obtain⟨e1,e2⟩:=z4l (wd:=n) (z0h h0 h9).w hd (by rw[hd];exact hm) h2;have hb:(q0n t).best n=some (bs n 0 [(0,q0n t)]):=by rw[q6m,q2i]
 obtain⟨_,b2,b3,_⟩:=q3t hb
 have e3:bT (q2p t) (n:Int)=wbS ((q0n t).txt (bs n 0 [(0,q0n t)]).2):=by
  rw[bT,if_pos e1,e2,z0s hl,b2];rfl
 have hz:=j1k h0 h9 b2;have hone:z5m t (n:Int)=0:=by rw[z2r (q8q h1 h2) h0,k7c h0 h9];exact hl
 have hdc:dcL n t=(q0n t).txt (bs n 0 [(0,q0n t)]).2++[10]:=rfl;have htx:j3i t (n:Int)=wbS (dcL n t):=by rw[z5n hone,k0c h0 h9]
 rw[e2];generalize hu:(q0n t).txt (bs n 0 [(0,q0n t)]).2=u at *;have hk:(bs n 0 [(0,q0n t)]).1=((q1n n 0 u).1,(q1n n 0 u).2.1):=by rw[b3,Tr.cst,hu]
 obtain⟨c1,c2⟩:=y9v n u;obtain⟨o1,o2,o3⟩:=y2l (x:=u++[10]) h2 (by rw[List.length_append];simp;omega);refine⟨wbS (dcL n t),wbS u,hone,htx,e1,e3,by rw[e2],?_,?_,?_,?_,?_⟩
 ·rw[hdc,<-y0i];rfl
 ·rw[q6h];exact hz
 ·rw[hdc];exact o1
 ·rw[hdc,o2,c1,hk]
 ·rw[hdc,o3,c2,hk];exact Int.natCast_add _ _
theorem g3c{t:List Td}(hl:q7s t=0){n:Nat}(h2:n<=100)(hb:bE (q2p t) (n:Int)=0){ws:List Int}{r:List UInt8}(hs:(q0n t).show ws=.ok r):
  ∃K:Nat × Nat,ofE (wbS r) (n:Int)=0/\ofO (wbS r) (n:Int)=(K.1:Int)/\ofL (wbS r) (n:Int)=(K.2:Int)/\K.1<=1000000/\K.2<=1000000/\¬q1q K (bA (q2p t) (n:Int)).1:=by
 obtain⟨h0,h9,hd,hm⟩:=k2q hl;have hz:=j1k h0 h9 hs;obtain⟨K,k1,k2,k3,_⟩:=v5c hb ws r (by rw[z0s hl];exact hs);obtain⟨o1,o2,o3⟩:=y2l (x:=r) h2 (by omega);obtain⟨⟨_,d1⟩,⟨_,d2⟩,_⟩:=g2u (n:Int) r;rw[k1]at d1;rw[k2]at d2;rw[z8w]at k1 k2;exact⟨K,o1,o2.trans k1,o3.trans k2,by omega,by omega,k3⟩
set_option maxRecDepth 100000
set_option maxHeartbeats 8000000
theorem j0g{a b:Nat × Nat}(h:¬q1q a b)(h1:a.1<=1000000)(h2:a.2<=1000000)(h3:b.1<=1000000)(h4:b.2<=1000000)(w:World):
  Calls prog 27 #[.agg #[.int .i64 (a.1:Int),.int .i64 (a.2:Int)],.agg #[.int .i64 (b.1:Int),.int .i64 (b.2:Int)]] w fun e w'=>e=.returned (.tuple #[.bool false,.nilIface])/\Below w w w':=by
 have h5:=v7g ((a.1:Int),(a.2:Int)) ((b.1:Int),(b.2:Int)) w;obtain⟨e1,e2⟩:=v7h h h1 h2 h3 h4;rw[e1,e2,q0e]at h5;exact h5
theorem k4n(hF:y3l)(hO:g4d)(t:List Td)(a:Option Addr)(cap:Nat)(ws:List Int)(wa:Option Addr)(wc:Nat)(wd:Int)(w:World)(hc:t.length<=cap)(hN:Tds w a t)(hf:z4e t)(hwc:ws.length<=wc)(hwl:ws.length<=9223372036854775807)(hI:z1r w wa ws)(ht:q5u w):
  Calls prog 5 #[.slice a t.length cap,.int .i64 wd,.slice wa ws.length wc] w fun e w'=>e=.returned (.bool true)/\Below w w w':=by
 have HON:Hid (Calls prog 17 #[] w fun e w'=>e=.returned (.bool true)/\Below w w w'):=q8v hF w ht;have HPO:Hid (∀(W:World)(v:Int),Below w w W->Calls prog 22 #[.slice a t.length cap,.int .i64 v] W fun e w'=>e=.returned (.tuple #[.string (j3i t v),q0s (z5m t v)])/\Below W W w'):=fun W v hb=>hO t a cap v W hc (hN.W hb) hf (ht.W hb)
 have HLD:Hid (∀W:World,Below w w W->Calls prog 23 #[.slice a t.length cap] W fun e w'=>(∃A c,e=.returned (.tuple #[.slice A (q2p t).length c,q0s (q7s t)])/\q3p w' A (q2p t)/\(q2p t).length<=c)/\Below W W w'):=fun W hb=>z7o t a cap W (ht.W hb).pow hc (hN.W hb) hf
 have HWI:Hid (z1r w wa ws):=hI;have HWC:Hid (ws.length<=wc/\ws.length<=9223372036854775807):=⟨hwc,hwl⟩;clear ht hF hO hN hI hf hwc hwl;go_in;go_wp2_with fail;refine HON.o.mono ?_;rintro e w1⟨rfl,b1⟩;have HB1:Hid (Below w w w1):=b1;clear b1 HON;go_wp2_with fail;refine(HPO.o _ wd HB1.o).mono ?_;rintro e w2⟨rfl,b2⟩;have HB2:Hid (Below w w w2):=q0c HB1.o Zl b2;clear b2 HB1;go_wp2_with fail;refine(HLD.o _ HB2.o).mono ?_;rintro e w3⟨⟨A3,c3,rfl,hN3,hc3⟩,b3⟩;have HB3:Hid (Below w w w3):=q0c HB2.o Zl b3;clear b3 HB2 HLD;by_cases h1:z5m t wd=0
 ·by_cases hl:q7s t=0
  ·have hw:¬(wd<10\/100<wd):=fun hw=>by
    rw[z5m,if_pos hw]at h1;cases h1
   obtain⟨n,rfl⟩:∃n:Nat,wd=(n:Int):=⟨wd.toNat,by omega⟩;have hn1:10<=n:=by omega
   have hn2:n<=100:=by omega
   clear hw;obtain⟨S,U,hT⟩:=g3b hl hn1 hn2;rw[h1,hl,q0e,hT.txt]
   have HBS:Hid (∀W:World,Below w3 w3 W->Calls prog 24 #[.slice A3 (q2p t).length c3,.int .i64 (n:Int)] W fun e w'=>(∃wa wl wc,e=.returned (.tuple #[.string U,.slice wa wl wc,.agg #[.int .i64 ((bA (q2p t) (n:Int)).1.1:Int),.int .i64 ((bA (q2p t) (n:Int)).1.2:Int)],.nilIface]))/\Below W W w'):=fun W hb=>by
    refine(k1s (q2p t) (n:Int) A3 c3 hc3 W (hN3.W hb)).mono ?_;rintro e w'⟨⟨wa,wc,rfl,_⟩,hbl⟩;exact⟨⟨wa,_,wc,by rw[hT.bt,hT.bst,q0e]⟩,hbl⟩
   have HC1:Hid (∀W:World,Calls prog 25 #[.string S,.int .i64 (n:Int)] W fun e w'=>e=.returned (.tuple #[.agg #[.int .i64 ((bA (q2p t) (n:Int)).1.1:Int),.int .i64 (((bA (q2p t) (n:Int)).1.2:Int)+1)],.nilIface])/\Below W W w'):=fun W=>by
    have h2:=v1c S (n:Int) W;rw[hT.e,hT.o,hT.l,q0e]at h2;exact h2
   have HSH:Hid (∀W:World,Below w3 w3 W->Calls prog 26 #[.slice A3 (q2p t).length c3,.slice wa ws.length wc] W fun e w'=>e=.returned (.tuple #[.string (shS ((q0n t).show ws)),q0s (shE ((q0n t).show ws))])/\Below W W w'):=fun W hb=>by
    have h3:=k4y (q2p t) ws A3 wa c3 wc hc3 HWC.o.1 HWC.o.2 W (hN3.W hb) (z1r.W HWI.o (q0c HB3.o Zl hb));rw[z0s hl]at h3;exact h3
   have hle:=y9k (ds:=q2p t) (wd:=(n:Int))
   have HWY:Hid (∀r,(q0n t).show ws=.ok r->∃m1 m2:Int,(∀W:World,Calls prog 25 #[.string (wbS r),.int .i64 (n:Int)] W fun e w'=>e=.returned (.tuple #[.agg #[.int .i64 m1,.int .i64 m2],.nilIface])/\Below W W w')/\∀W:World,Calls prog 27 #[.agg #[.int .i64 m1,.int .i64 m2],.agg #[.int .i64 ((bA (q2p t) (n:Int)).1.1:Int),.int .i64 ((bA (q2p t) (n:Int)).1.2:Int)]] W fun e w'=>e=.returned (.tuple #[.bool false,.nilIface])/\Below W W w'):=fun r hr=>by
    obtain⟨K,k1,k2,k3,k4,k5,k6⟩:=g3c hl hn2 hT.bst hr;refine⟨_,_,fun W=>?_,fun W=>j0g k6 k4 k5 (by omega) (by omega) W⟩;have h2:=v1c (wbS r) (n:Int) W;rw[k1,k2,k3,q0e]at h2;exact h2
   have HER:Hid (∀e,(q0n t).show ws=.error e->e≠0):=fun e he=>v2f (ds:=q2p t) (by rw[z0s hl];exact he)
   have HMO:Hid (n<100->∃(S':ByteArray)(m1 m2:Int),(∀W:World,Below w w W->Calls prog 22 #[.slice a t.length cap,.int .i64 ((n:Int)+1)] W fun e w'=>e=.returned (.tuple #[.string S',.nilIface])/\Below W W w')/\(∀W:World,Calls prog 25 #[.string S',.int .i64 ((n:Int)+1)] W fun e w'=>e=.returned (.tuple #[.agg #[.int .i64 m1,.int .i64 m2],.nilIface])/\Below W W w')/\∀W:World,Calls prog 27 #[.agg #[.int .i64 ((bA (q2p t) (n:Int)).1.1:Int),.int .i64 (((bA (q2p t) (n:Int)).1.2:Int)+1)],.agg #[.int .i64 m1,.int .i64 m2]] W fun e w'=>e=.returned (.tuple #[.bool false,.nilIface])/\Below W W w'):=fun hlt=>by
    obtain⟨S',U',hT'⟩:=g3b hl (n:=n+1) (by omega) (by omega);have ec:((n+1:Nat):Int)=(n:Int)+1:=by omega
    obtain⟨_,hwi⟩:=v5b hT.bst (by omega);have hle':=y9k (ds:=q2p t) (wd:=(n:Int)+1);have q1:=hT'.one;have q2:=hT'.txt;have q3:=hT'.e;have q4:=hT'.o;have q5:=hT'.l;rw[ec]at q1 q2 q3 q4 q5;refine⟨S',((bA (q2p t) ((n:Int)+1)).1.1:Int),(((bA (q2p t) ((n:Int)+1)).1.2:Int)+1),fun W hb=>?_,fun W=>?_,fun W=>?_⟩
    ·have h2:=HPO.o W ((n:Int)+1) hb;rw[q1,q2,q0e]at h2;exact h2
    ·have h2:=v1c S' ((n:Int)+1) W;rw[q3,q4,q5,q0e]at h2;exact h2
    ·have h6:¬q1q ((bA (q2p t) (n:Int)).1.1,(bA (q2p t) (n:Int)).1.2+1) ((bA (q2p t) ((n:Int)+1)).1.1,(bA (q2p t) ((n:Int)+1)).1.2+1):=by
      unfold q1q at hwi⊢;dsimp only;omega
     exact j0g h6 (by dsimp only;omega) (by dsimp only;omega) (by dsimp only;omega) (by dsimp only;omega) W
   have hUz:=hT.sz;obtain rfl:=hT.su;have huu:((U++(⟨#[10]⟩:ByteArray)).toList==(U++(⟨#[10]⟩:ByteArray)).toList)=true:=by simp
   clear hT h1 hN3 HPO HWI HWC;generalize hx1:((bA (q2p t) (n:Int)).1.1:Int)=x1 at *;generalize hx2:((bA (q2p t) (n:Int)).1.2:Int)=x2 at *;have hb1:0<=x1/\x1<=400000:=by omega
   have hb2:0<=x2/\x2<=400000:=by omega
   clear hx1 hx2 hle
   generalize(q2p t).length=dl at *
   go_wp2_with fail;refine(HBS.o _ Zb).mono ?_;rintro e w4⟨⟨wb,wl,wv,rfl⟩,b4⟩;have HB4:Hid (Below w3 w3 w4):=b4;clear b4 HBS;go_wp2_with fail;refine(HC1.o _).mono ?_;rintro e w5⟨rfl,b5⟩;have HX5:Hid (Bx w5 w4.heap.size x1 x2):=(Bx.new w4 x1 x2 57).W b5;have HB5:Hid (Below w3 w3 w5):=q7o HB4.o Zl b5;have z0:=fun O=>ka HX5.o.1 O
   have z1:=fun O=>ka HX5.o.2 O
   clear b5 HC1 HB4;go_wp2_with fail;refine(HSH.o _ (j5q HB5.o _)).mono ?_;rintro e w6⟨rfl,b6⟩;have hlt5:w4.heap.size<w5.heap.size:=World.block_lt_of_cell? w5 ⟨w4,0,none⟩ HX5.o.1;have HXC:Hid (Bx w6 w4.heap.size x1 x2):=(HX5.o.alloc _).W b6;have HXK:Hid (Bx w6 w5.heap.size x1 (x2+1)):=(Bx.new w5 x1 (x2+1) 57).W b6;have HB6:Hid (Below w3 w3 w6):=q7o HB5.o Zl b6;clear b6 HSH z0 z1 HX5 HB5;generalize w5.heap.size=bk at *;generalize w4.heap.size=bc at *;cases hsh:(q0n t).show ws
   case' error er=>
    have HE:Hid (q0s er=.iface 22 (.int .i64 er)):=q0f (HER.o er hsh);have e1:shE (Except.error er:Except Int (List UInt8))=er:=rfl;rw[e1,HE.o];clear hsh e1 HE HER HWY HXC;generalize shS (Except.error er:Except Int (List UInt8))=V
   case' ok r=>
    obtain⟨m1,m2,hm1,hm2⟩:=HWY.o r hsh;have HM1:Hid (∀W:World,Calls prog 25 #[.string (wbS r),.int .i64 (n:Int)] W fun e w'=>e=.returned (.tuple #[.agg #[.int .i64 m1,.int .i64 m2],.nilIface])/\Below W W w'):=hm1;have HM2:Hid (∀W:World,Calls prog 27 #[.agg #[.int .i64 m1,.int .i64 m2],.agg #[.int .i64 x1,.int .i64 x2]] W fun e w'=>e=.returned (.tuple #[.bool false,.nilIface])/\Below W W w'):=hm2;have e1:shE (Except.ok r:Except Int (List UInt8))=0:=rfl;have e2:shS (Except.ok r:Except Int (List UInt8))=wbS r:=rfl;rw[e1,e2,q0e];clear hsh e1 e2 hm1 hm2 HWY HER;generalize wbS r=V at *;go_wp2_with fail;refine(HM1.o _).mono ?_;rintro e w7⟨rfl,b7⟩;have HXC7:Hid (Bx w7 bc x1 x2):=HXC.o.W b7;have HXK7:Hid (Bx w7 bk x1 (x2+1)):=HXK.o.W b7;have HB7:Hid (Below w3 w3 w7):=q0c HB6.o Zl b7;have z0:=fun O=>ka HXC7.o.1 O
    have z1:=fun O=>ka HXC7.o.2 O
    clear b7 HXC HXK HB6 HM1;go_wp2_with fail;refine(HM2.o _).mono ?_;rintro e w6⟨rfl,b9⟩;have HXK:Hid (Bx w6 bk x1 (x2+1)):=(HXK7.o.alloc _).W b9;have HB6:Hid (Below w3 w3 w6):=q7o HB7.o Zl b9;clear b9 HXC7 HXK7 HB7 HM2 z0 z1
   all_goals
    by_cases h100:n=100
    ·have g:(100:Int)<=(n:Int):=by omega
     clear HMO;go_wp2;go_ret;exact⟨rfl,q0c HB3.o Zl HB6.o⟩
    ·have g:¬(100:Int)<=(n:Int):=by omega
     obtain⟨S',k1,k2,hp,hq,hr⟩:=HMO.o (by omega);have HP:Hid (∀W:World,Below w w W->Calls prog 22 #[.slice a t.length cap,.int .i64 ((n:Int)+1)] W fun e w'=>e=.returned (.tuple #[.string S',.nilIface])/\Below W W w'):=hp;have HQ:Hid (∀W:World,Calls prog 25 #[.string S',.int .i64 ((n:Int)+1)] W fun e w'=>e=.returned (.tuple #[.agg #[.int .i64 k1,.int .i64 k2],.nilIface])/\Below W W w'):=hq;have HR:Hid (∀W:World,Calls prog 27 #[.agg #[.int .i64 x1,.int .i64 (x2+1)],.agg #[.int .i64 k1,.int .i64 k2]] W fun e w'=>e=.returned (.tuple #[.bool false,.nilIface])/\Below W W w'):=hr;clear hp hq hr HMO h100;go_wp2_with fail;refine(HP.o _ (q0c HB3.o Zl HB6.o)).mono ?_;rintro e wa⟨rfl,ba⟩;have HXKa:Hid (Bx wa bk x1 (x2+1)):=HXK.o.W ba;have HBa:Hid (Below w3 w3 wa):=q0c HB6.o Zl ba;clear ba HXK HB6 HP;go_wp2_with fail;refine(HQ.o _).mono ?_;rintro e wb⟨rfl,bb⟩;have HXKb:Hid (Bx wb bk x1 (x2+1)):=HXKa.o.W bb;have HBb:Hid (Below w3 w3 wb):=q0c HBa.o Zl bb;have z0:=fun O=>ka HXKb.o.1 O
     have z1:=fun O=>ka HXKb.o.2 O
     clear bb HXKa HBa HQ;go_wp2_with fail;refine(HR.o _).mono ?_;rintro e wz⟨rfl,bz⟩;have HBz:Hid (Below w3 w3 wz):=q7o HBb.o Zl bz;clear bz HXKb HBb HR z0 z1;go_wp2;go_ret;exact⟨rfl,q0c HB3.o Zl HBz.o⟩
  ·rw[h1,q0e,q0f hl];clear h1 hl hN3;go_wp2;go_ret;exact⟨rfl,HB3.o⟩
 ·rw[q0f h1];clear h1 hN3;generalize q0s (q7s t)=G;go_wp2;go_ret;exact⟨rfl,HB3.o⟩
end Go.Proofs.YthcpdohdppkmkaaGreatDoor
namespace Go.Proofs.YthcpdohdppkmkaaGreatDoor
open Go Go.ChangeShapes Go.WideShapes Go.RowKit
theorem v5t:prog.cellsOf 3=1:=by kernel_rfl
theorem v4t(b o n:Nat):(⟨b,o,none⟩:Addr).add n=⟨b,o+n,none⟩:=by
 unfold Addr.add
 split
 ·rename_i h;subst h;rfl
 ·rfl
section
variable {H:Type} {enc:TypeId × Value→H} {W:World}
theorem v1g{a0:Option Addr}{l0 c0:Nat}{d:DataW H}{p:List MemPlace}(h:DataW.Trod enc prog W 0 (fun _=>true) true 43 (.slice a0 l0 c0) d p):
  ∃ws:List Int,l0=ws.length/\ws.length<=c0/\c0<=maxLen/\z1r W a0 ws:=by
 obtain⟨fuel,hf⟩:=h;have hf:DataW.trod enc prog W 0 (fun _=>true) true fuel 43 [.slice a0 l0 c0]=some (d,p):=hf;rcases Deep.open_slice Tryz.underlying43 hf with⟨h1,_⟩|⟨a,len,cap,m,n,D,Pl,h1,_,hl,hcm,hm,_,hx⟩
 ·simp only[List.cons.injEq,and_true,Value.slice.injEq]at h1;obtain⟨rfl,rfl,rfl⟩:=h1;exact⟨[],rfl,Nat.le_refl _,Nat.zero_le _,fun i hi=>by simp at hi⟩
 ·simp only[List.cons.injEq,and_true,Value.slice.injEq]at h1;obtain⟨rfl,rfl,rfl⟩:=h1;have hlm:l0<=m:=by rw[hm];simp only[if_true];exact hl
  have each:∀i,i<l0->∃x:Int,W.cell? (a.add i)=some (.int .i64 x):=by
   intro i hi;obtain⟨cs',g1,g2⟩:=hx i (by omega);rw[v5t]at g1;obtain⟨_,hlen,hcell⟩:=World.cells?_some g1
   obtain⟨z,rfl⟩:∃z,cs'=[z]:=by
    match cs',hlen with
    | [z],_=>exact⟨z,rfl⟩
   obtain⟨y,e0,_,_⟩:=DataW.trod_int Tryz.underlying3 g2;simp only[List.cons.injEq,and_true]at e0;subst e0;have hc:=hcell 0 (by omega);have ha:(a.add (i*1)).add 0=a.add i:=by rw[Nat.mul_one];simp[Addr.add]
   rw[ha]at hc;exact⟨y,hc⟩
  obtain⟨q,hq⟩:=Deep.choose_lt each;refine⟨(List.range l0).map q,by simp,by simpa using hl,hcm,?_⟩;intro i hi;have hi':i<l0:=by simpa using hi
  have c0:=hq i hi';have c00:=hq 0 (by omega)
  have hs:a.spot=none:=by
   have:=World.cell?_spot c00
   simpa[Addr.add]using this
  obtain⟨b,o,sp⟩:=a;simp only at hs;subst hs;simp only[v4t]at c0
  have hb:b<W.heap.size:=by
   rcases Nat.lt_or_ge b W.heap.size with h'|h'
   ·exact h'
   ·simp[World.cell?,Array.getElem?_eq_none h']at c0
  exact⟨b,o,rfl,hb,by simpa using c0⟩
end
end Go.Proofs.YthcpdohdppkmkaaGreatDoor
