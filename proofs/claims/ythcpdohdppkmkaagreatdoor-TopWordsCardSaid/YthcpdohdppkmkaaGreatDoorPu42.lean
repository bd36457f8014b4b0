import Derived.Test.YthcpdohdppkmkaaGreatDoorPu41
open Go.Proofs.Tryz
namespace Go.Proofs.YthcpdohdppkmkaaGreatDoor
open Go Go.RowKit Go.Shelf
attribute [local go_sem] Oper.semAt_some
set_option maxRecDepth 100000
set_option maxHeartbeats 4000000
theorem y9t{W:World}{B i:Nat}{xs:Array Value}{t:TypeId}{v:Value}(h:W.heap[B]?=some (.cells xs t (0,0)))(hi:xs[i]?=some v):W.cell? ⟨B,i,none⟩=some v/\W.frozen? ⟨B,i,none⟩=false:=by
 constructor<;>simp[World.cell?,World.frozen?,h,hi]
theorem z0b(W:World)(xs:Array Value)(t:TypeId)(i:Nat)(v:Value)(hi:xs[i]?=some v):(W.alloc (.cells xs t)).cell? ⟨W,i,none⟩=some v/\(W.alloc (.cells xs t)).frozen? ⟨W,i,none⟩=false:=y9t (World.alloc_heap_new W _) hi
theorem z8v{W:World}{a:Addr}{v:Value}(o:Obj)(h:W.cell? a=some v):(W.alloc o).cell? a=some v:=cell_kept h (World.grownBy_alloc W o none) (fun r e=>by cases e)
theorem v6s{W:World}{a:Addr}{v:Value}(o:Obj)(h:W.cell? a=some v)(hf:W.frozen? a=false):(W.alloc o).frozen? a=false:=(frozen_kept h (World.grownBy_alloc W o none) (fun r e=>by cases e)).trans hf
def Alk(b:ByteArray)(pre:List LnT):Prop:=pre.length<=(q1w b).length/\pre.map (·.1)=(q1w b).take pre.length
def Oth(b:ByteArray)(k:Nat)(pre:List LnT):Prop:=∃p0 x,pre=p0++[x]/\Alk b p0/\p0.length=k/\∀h:k<(q1w b).length,x.1≠(q1w b)[k]
theorem v4v{b:ByteArray}{pre:List LnT}{x:LnT}(h:Alk b pre)(hl:pre.length<(q1w b).length)(hx:x.1=(q1w b)[pre.length]):Alk b (pre++[x]):=by
 refine⟨by simp;omega,?_⟩;rw[List.map_append,h.2,List.length_append,List.map_cons,List.map_nil,List.length_singleton,List.take_succ_eq_append_getElem hl,hx]
theorem v4u{a b:ByteArray}{ys:List LnT}(h:Alk b ys)(hy:ys.map (·.1)=q1w a):cmn (lns a.data.toList) (lns b.data.toList)=ys.length:=by
 have hl:(q1w a).length=ys.length:=by rw[<-hy,List.length_map]
 refine j6u a b ys.length ?_ (by omega) h.1 (fun h1 _=>by omega);rw[<-h.2,hy,List.take_of_length_le (by omega)]
theorem v4w{a b:ByteArray}{k:Nat}{pre:List LnT}(h:Oth b k pre)(hp:pre.map (·.1) <+:q1w a):cmn (lns a.data.toList) (lns b.data.toList)=k:=by
 obtain⟨p0,x,rfl,h1,rfl,h2⟩:=h;obtain⟨r,hr⟩:=hp;rw[List.map_append,List.map_cons,List.map_nil,List.append_assoc,List.singleton_append]at hr;have hl:(p0.map (·.1)).length=p0.length:=List.length_map _;refine j6u a b p0.length ?_ (by rw[<-hr];simp) h1.1 (fun q1 q2 e=>h2 q2 ?_)
 ·rw[<-hr,List.take_append_of_le_length (by omega),List.take_of_length_le (by omega),h1.2]
 ·rw[<-e]
  have:(q1w a)[p0.length]?=some x.1:=by rw[<-hr,List.getElem?_append_right (by omega),hl,Nat.sub_self];rfl
  rw[List.getElem?_eq_getElem q1]at this;exact(Option.some.inj this).symm
theorem j7c(n:Nat)(hn:5<=n)(a b:ByteArray)(ha:a.size<=100000000)(hb:b.size<=100000000)(w:World):
  CallsIn Fence.wide n prog 41 #[.string a,.string b] w fun e w'=>e=.returned (.int .i64 ((cmn (lns a.data.toList) (lns b.data.toList):Nat):Int))/\Below w w w':=by
 have h1:1<=n:=by omega
 have lb:(q1w b).length<=100000001:=by have:=j0j b;omega
 obtain⟨m,hm⟩:∃m,cmn (lns a.data.toList) (lns b.data.toList)=m:=⟨_,rfl⟩;have HM:Hid (cmn (lns a.data.toList) (lns b.data.toList)=m):=hm;rw[hm];clear hm;obtain⟨F,hFe⟩:∃F,F=Fence.wide:=⟨_,rfl⟩;rw[<-hFe];have hF:∀f,F.fn f:=fun f=>by rw[hFe];trivial
 have hro:F.round=none:=by rw[hFe];rfl
 have HFe:Hid (F=Fence.wide):=hFe;clear hFe;refine callsIn_of_wp_marks func41 rfl (hF 41) ?_ hro;simp only[ntmps41,List.size_toArray,List.length_cons,List.length_nil,Nat.reduceAdd,Nat.reduceSub,Array.replicate_succ,Array.replicate_zero,List.push_toArray,List.append_toArray,List.nil_append,List.cons_append];have hn0:=(z0b w #[.string b] 9 0 (.string b) rfl).1
 gi_wp2_with (first
  | (gi_at_call 66;rw[HFe.o];refine(callsIn_wide.2 (k2w _ _)).mono ?_;rintro e w'⟨rfl,rfl⟩)
  | (gi_at_call 81;rw[HFe.o];refine(callsIn_wide.2 (k5t b hb w.heap.size _ (by simp) hn0)).mono ?_;rintro e w2⟨A,c,rfl,hO,b2⟩))
 rename_i Q0 K0 hK0;have hB1:Below w w w2:=((Below.refl _ w).alloc Zl _).trans (b2.mono (by simp));have HW:Hid (z3p w2.heap.size w2 A (q1w b)):=q6g hO;have hsz:w.heap.size<=w2.heap.size:=hB1.size;clear b2 hO hn0;have c0:=z0b w2 #[.slice A (q1w b).length c] 42 0 (.slice A (q1w b).length c) rfl;have c1:=z0b (w2.alloc (.cells #[.slice A (q1w b).length c] 42)) #[.int .i64 0] 3 0 (.int .i64 0) rfl;have c2:=z0b ((w2.alloc (.cells #[.slice A (q1w b).length c] 42)).alloc (.cells #[.int .i64 0] 3)) #[.string a] 9 0 (.string a) rfl;simp only[World.size_alloc]at c1 c2;have hB0:Below w2 w2 (((w2.alloc (.cells #[.slice A (q1w b).length c] 42)).alloc (.cells #[.int .i64 0] 3)).alloc (.cells #[.string a] 9)):=(((Below.refl _ w2).alloc Zl _).alloc (by simp) _).alloc (by simp;omega) _;have hseq:=q9m (n-1) (by omega) (w2.heap.size+1+1) w2.heap.size a ha _ (by simp) c2.1;rw[<-HFe.o]at hseq
 refine wpIn_rangeFunc_ownF hro h1 (gf:=112) (lb:=#[.pointer (some ⟨w2.heap.size+1+1,0,none⟩)]) rfl (hF 112) (enters_of func112 (by kernel_rfl) rfl)
  hseq belowK_t (belowK_b (by simp;omega)) Zb (fun _=>rfl)
  (fun pre W=>(W.cell? ⟨w2,0,none⟩=some (.slice A (q1w b).length c)/\W.cell? ⟨w2.heap.size+1,0,none⟩=some (.int .i64 (pre.length:Int))/\W.frozen? ⟨w2.heap.size+1,0,none⟩=false/\Alk b pre)/\Below w2 w2 W)
  (fun cd pre W=>(W.cell? ⟨w2.heap.size+1,0,none⟩=some (.int .i64 ((pre.length-1:Nat):Int))/\cd=.exit 0/\Oth b (pre.length-1) pre)/\Below w2 w2 W)
  (OwnFrom.and (Own.from (fun s A B row hs hg hr=>⟨cell_kept hs.1 hg hr,cell_kept hs.2.1 hg hr,(frozen_kept hs.2.1 hg hr).trans hs.2.2.1,hs.2.2.2⟩) _) (ownFrom_below Zl (by simp;omega)))
  (fun _=>OwnFrom.and (Own.from (fun s A B row hs hg hr=>⟨cell_kept hs.1 hg hr,hs.2⟩) _) (ownFrom_below Zl (by simp;omega)))
  ⟨⟨z8v _ (z8v _ c0.1),z8v _ c1.1,v6s _ c1.1 c1.2,Nat.zero_le _,rfl⟩,hB0⟩
  (fun x=>{tmps:=#[.string a,.string b,undef,undef,.int .i64 0,.pointer (some ⟨w2,0,none⟩),.pointer (some ⟨w2.heap.size+1,0,none⟩),.string x.1,.string b,.func (.func 112) #[] #[.pointer (some ⟨w,0,none⟩)],.slice A (q1w b).length c,.string a,.func (.func 112) #[] #[.pointer (some ⟨w2.heap.size+1+1,0,none⟩)],.string x.1,undef,undef,undef,undef,undef,undef,undef,undef,undef,undef,undef,undef,undef,undef,undef],defers:=[]}) ?assign ?body ?done ?stop
 case assign=>
  intro l x W K hK
  gi_wp2
  exact hK
 case body=>
  rintro l pre x W⟨⟨k0,k1,fk1,hal⟩,hB⟩hlt;have hle:=hal.1;have HA:Hid (Alk b pre):=hal;have hex:(pre++[x]).length-1=pre.length:=by simp
  have hxs:=x.2;generalize hx:x.1=xs at hxs;have HX:Hid (x.1=xs):=hx;clear hal hlt hx;by_cases hk:pre.length=(q1w b).length
  ·have HO:Hid (Oth b pre.length (pre++[x])):=⟨pre,x,rfl,HA.o,rfl,fun h=>by omega⟩;have hk1:((pre.length:Int)==((q1w b).length:Int))=true:=by simp[hk]
   clear hk
   generalize(q1w b).length=L at *
   gi_wp2
   exact⟨KeepsOthers.refl _,⟨by rw[hex];exact k1,rfl,by rw[hex];exact HO.o⟩,hB⟩
  ·have hk2:pre.length<(q1w b).length:=by omega
   have hk1:((pre.length:Int)==((q1w b).length:Int))=false:=by simp;omega
   obtain⟨g,o,rfl,hg,hc⟩:=HW.o pre.length hk2;have hc':W.cell? ⟨g,o+pre.length,none⟩=some (.string (q1w b)[pre.length]):=(hB.cell (p:=⟨g,_,none⟩) hg).trans hc;have hk3:(pre.length:Int)<((q1w b).length:Int):=by omega
   clear hc hk hle;by_cases he:xs=(q1w b)[pre.length]
   ·have HO:Hid (Alk b (pre++[x])):=v4v HA.o hk2 (by rw[HX.o];exact he);rw[<-he]at hc';have hne:(xs.toList==xs.toList)=true:=by simp
    clear he
    generalize(q1w b).length=L at *
    gi_wp2
    refine⟨KeepsOthers.setCell _ _ _,(Below.refl _ W).setCell (p:=⟨w2.heap.size+1,0,none⟩) (by simp) _,⟨(cso (by omega)).trans k0,(css k1).trans ?_,csf.trans fk1,HO.o⟩,hB.setCell (p:=⟨w2.heap.size+1,0,none⟩) (by simp) _⟩;simp
   ·have HO:Hid (Oth b pre.length (pre++[x])):=⟨pre,x,rfl,HA.o,rfl,fun h=>by rw[HX.o];exact he⟩
    have hne:(xs.toList==(q1w b)[pre.length].toList)=false:=by
     simp only[beq_eq_false_iff_ne,ne_eq,ByteArray.toList_eq];exact fun h=>he (ByteArray.ext (Array.toList_inj.1 h))
    clear he
    generalize(q1w b)[pre.length]=ys at *
    generalize(q1w b).length=L at *
    gi_wp2
    exact⟨KeepsOthers.refl _,⟨by rw[hex];exact k1,rfl,by rw[hex];exact HO.o⟩,hB⟩
 case done=>
  rintro D ys W hD hys⟨⟨k0,k1,fk1,hal⟩,hB⟩hK;have hm:ys.length=m:=by rw[<-HM.o];exact(v4u hal hys).symm
  rw[hm]at k1;apply hK0;clear hal hys k0 fk1 hm
  gi_wp2
  refine⟨by simp,.inl ⟨_,_,rfl,run_takeDeferred hK,?_⟩⟩;exact⟨_,results_tmp rfl _ _ _,rfl,hB1.trans (((hB.trans (belowK_b (w:=w2) Zl W D _ _ (by simp at hD;omega) hK rfl rfl))).mono hsz)⟩
 case stop=>
  rintro D cd pre W hD hpre⟨⟨k1,rfl,hal⟩,hB⟩hK;have hm:pre.length-1=m:=by rw[<-HM.o];exact(v4w hal hpre).symm
  rw[hm]at k1;clear hal hpre hm
  gi_wp2
  refine⟨by simp,.inl ⟨_,_,rfl,run_takeDeferred hK,?_⟩⟩;exact⟨_,results_tmp rfl _ _ _,rfl,hB1.trans (((hB.trans (belowK_b (w:=w2) Zl W D _ _ (by simp at hD;omega) hK rfl rfl))).mono hsz)⟩
theorem j2m(a b:ByteArray)(ha:a.size<=100000000)(hb:b.size<=100000000)(hne:a≠b)(w:World):
  Calls prog 41 #[.string a,.string b] w fun e w'=>e=.returned (.int .i64 (fdL (btL a) (btL b) 0))/\Below w w w':=by
 have h:=callsIn_wide.1 (j7c 5 Zl a b ha hb w);have h2:=j6v a.data.toList b.data.toList 0 (fun e=>hne (ByteArray.ext (Array.toList_inj.1 e)));rw[Nat.zero_add]at h2;rw[h2]at h;exact h
def y3m(s:ByteArray)(wd:Int)(w:World)(e:Ending)(w':World):Prop:=∃T k f,e=.returned (.tuple #[.int .i64 (if f=0 then fdL (btL s) (btL T) 0 else 0),.int .i64 k,q0s f])/\q9v s wd T k f/\Below w w w'
abbrev g6k:Prop:=∀(s:ByteArray)(wd:Int)(w:World),q5u w->Calls prog 13 #[.string s,.int .i64 wd] w fun e w'=>y3m s wd w e w'
theorem k6b{s T:ByteArray}{wd k:Int}(h:q9v s wd T k 0):s.size<=60000/\T.size<=100000000/\k=0:=by
 generalize hz:(0:Int)=z at h;cases h with
 | range=>cases hz
 | bad _ _ hf=>exact absurd hz.symm hf
 | full _ _ hf=>exact absurd hz.symm hf
 | ok h hp hf=>
  obtain⟨_,_,h20,hall⟩:=q2g hp;have h1:=k6c wd.toNat _ hall hf;have h2:=Nat.mul_le_mul_right 2000001 h20;obtain⟨h0,_,_⟩:=q3c hp;have h3:=(q4v h0).1;rw[q6h];rw[q0b]at h3;exact⟨by omega,by omega,rfl⟩
theorem z5h(hF:y3l):g6k:=by
 intro s wd w ht;have HFM:Hid (Calls prog 18 #[.string s,.int .i64 wd] w fun e w'=>∃T k f,e=.returned (.tuple #[.string T,.int .i64 k,q0s f])/\q9v s wd T k f/\Below w w w'):=hF s wd w ht;clear ht hF;go_in;go_wp2_with fail;refine HFM.o.mono ?_;rintro e w1⟨T,k,f,rfl,hR,b1⟩;have HR:Hid (q9v s wd T k f):=hR;have HB:Hid (Below w w w1):=b1;clear hR b1;by_cases hf:f=0
 ·subst hf;obtain⟨z1,z2,rfl⟩:=k6b HR.o;rw[q0e];by_cases he:s=T
  ·have hq:(s.toList==T.toList)=true:=by simp[he]
   have HV:Hid (fdL (btL s) (btL T) 0=-1):=(show _=_ by rw[he];exact z9b _ _);clear he z1 z2;go_wp2;go_ret3;exact⟨T,0,0,by rw[q0e,if_pos rfl,HV.o];rfl,HR.o,HB.o⟩
  ·have hq:(s.toList==T.toList)=false:=by
    simp only[beq_eq_false_iff_ne,ne_eq,ByteArray.toList_eq];exact fun h=>he (ByteArray.ext (Array.toList_inj.1 h))
   have HC:Hid (Calls prog 41 #[.string s,.string T] w1 fun e w'=>e=.returned (.int .i64 (fdL (btL s) (btL T) 0))/\Below w1 w1 w'):=j2m s T (by omega) z2 he w1;clear he z1 z2;generalize hv:fdL (btL s) (btL T) 0=v at HC;have HV:Hid (fdL (btL s) (btL T) 0=v):=hv;clear hv;go_wp2_with fail;refine HC.o.mono ?_;rintro e w2⟨rfl,b2⟩;go_wp2;go_ret3;exact⟨T,0,0,by rw[q0e,if_pos rfl,HV.o];rfl,HR.o,q0c HB.o Zl b2⟩
 ·have HF:Hid (f≠0):=hf;rw[q0f hf];clear hf;go_wp2;go_ret3;exact⟨T,k,f,by rw[q0f HF.o,if_neg HF.o];rfl,HR.o,HB.o⟩
end Go.Proofs.YthcpdohdppkmkaaGreatDoor
namespace Go.Proofs.YthcpdohdppkmkaaGreatDoor
open Go Go.RowKit
set_option maxRecDepth 100000
set_option maxHeartbeats 2000000
def fzA:List Td:=[⟨8,⟨#[]⟩,0⟩,⟨3,⟨#[102]⟩,1⟩,⟨1,⟨#[]⟩,1⟩]
abbrev fzI:ByteArray:=⟨#[102,40,32,49,32,41,59]⟩
abbrev fzO:ByteArray:=⟨#[102,40,49,41,59,10]⟩
theorem j8r:(q0q [fzA]).2=0:=by decide +kernel
theorem y1q:q3g fzA=[102,40,49,41,59]:=by decide +kernel
theorem g5e:fmE [fzA]=0:=by decide +kernel
theorem j8s{s:ByteArray}(h1:q4s (btL s)=0)(h2:[fzA].flatMap q5l=q1d (btL s)):q2h s [fzA] 0 0:=by
 refine .ok h1 ?_ j8r;have h:=q8s [fzA] 0 false [] (q2y j8r).2 (fun h=>by cases h);rw[h2]at h;exact h
theorem y1r{s T:ByteArray}{k f:Int}(hp:q2h s [fzA] 0 0)(h:q9v s 20 T k f):T=fzO/\k=0/\f=0:=by
 have h1:=q9v.ok (s:=s) (wd:=20) (by decide) hp g5e
 have h2:wbS (q3k (20:Int).toNat [fzA])=fzO:=by
  have e1:q3k (20:Int).toNat [fzA]=q4r 20 fzA:=by simp[q3k]
  rw[e1,v8o (q9p _ _ (q2y j8r).2 fzA (by simp)) (by rw[y1q];decide),y1q];rfl
 rw[h2]at h1;exact z9g h h1
theorem y5h:q2h fzI [fzA] 0 0:=j8s (by decide +kernel) (by decide +kernel)
theorem y5i:q2h fzO [fzA] 0 0:=j8s (by decide +kernel) (by decide +kernel)
theorem q8v(hF:y3l)(w:World)(ht:q5u w):Calls prog 17 #[] w fun e w'=>e=.returned (.bool true)/\Below w w w':=by
 have HFM:Hid (Calls prog 18 #[.string fzI,.int .i64 20] w fun e w'=>∃T k f,e=.returned (.tuple #[.string T,.int .i64 k,q0s f])/\q9v fzI 20 T k f/\Below w w w'):=hF fzI 20 w ht;have HCK:Hid (∀W,Below w w W->Calls prog 13 #[.string fzO,.int .i64 20] W fun e w'=>y3m fzO 20 W e w'):=fun W h=>z5h hF fzO 20 W (ht.W h)
 have hxo:(fzO.toList==fzO.toList)=true:=by simp
 clear ht hF;go_in;go_wp2_with fail;refine HFM.o.mono ?_;rintro e w1⟨T,k,f,rfl,hR,b1⟩;obtain⟨rfl,rfl,rfl⟩:=y1r y5h hR;rw[q0e];have HB1:Hid (Below w w w1):=b1;clear hR b1 HFM;go_wp2_with fail;refine(HCK.o _ HB1.o).mono ?_;rintro e w2⟨T,k,f,rfl,hR,b2⟩;obtain⟨rfl,rfl,rfl⟩:=y1r y5i hR;rw[q0e,if_pos rfl,z9b];have HB2:Hid (Below w w w2):=q0c HB1.o Zl b2;clear hR b2 HCK HB1;go_wp2;go_ret;exact⟨rfl,HB2.o⟩
theorem y2v{n:Nat}:∀(ws:List (List UInt8)),(∀w∈ws,w.length<=n)->(spc ws).length<=ws.length*(n+1)
 | [],_=>by simp[spc]
 | w::r,h=>by
  have h1:=h w (by simp);have h2:=y2v r fun x hx=>h x (by simp[hx])
  simp only[spc,List.length_append,List.length_cons,Nat.add_mul];omega
theorem g6c{L:List UInt8}:∀w∈q1d L,w.length<=L.length:=by
 intro w hw;obtain⟨j,hj,rfl⟩:=List.getElem_of_mem hw
 have:=(g3y L j hj (by rw[<-j1x];exact hj)).1
 omega
theorem k1h(a b:List UInt8):wbS a++wbS b=wbS (a++b):=by
 apply ByteArray.ext;simp[wbS]
theorem v9p{ws:List (List UInt8)}{k:Nat}(h:k<ws.length):wbS (spc (ws.take (k+1)))=wbS (spc (ws.take k))++wbS ws[k]++⟨#[10]⟩:=by
 rw[List.take_succ_eq_append_getElem h,y8a];have e:(⟨#[10]⟩:ByteArray)=wbS [10]:=rfl;rw[e,k1h,k1h];simp[spc]
set_option maxHeartbeats 4000000
def g2r(ks:List Tn):List UInt8:=match ks with
 | []=>[]
 | _::_=>44::32::cmx ks
def y9b(i:Nat)(ks:List Tn):List UInt8:=if i=0 then cmx ks else g2r ks
theorem y4o(t:Tn)(r:List Tn):cmx (t::r)=t.tx++g2r r:=by
 cases r<;>rfl
structure g4b(w0:World)(b:Nat)(rest:List Td)(T:List UInt8)(n:Nat)(i:Nat)(G:Fo)(bs:List UInt8)(w:World):Prop where
 n:i+G.len=n
 e:y3i w0 b G
 w:WyE w0 b bs (G.N++rest) w
 t:bs++y9b i G.R=T
theorem k4w{w0:World}{b:Nat}{F:Fo}(hE:y3i w0 b F)(hn:F.len<=1000)(o z:UInt8):KdC w0 b F o z:=by
 intro bs rest w hl hW;obtain⟨A,c,h⟩:=hW
 have HO:Hid (Calls prog 55 #[.pointer (some ⟨b,0,none⟩),.int .u8 (o.toNat:Int)] w fun e w'=>e=.returned .nilIface/\WyE w0 b (bs++[o]) (F.N++rest) w'):=by
  refine(q8f h o (by omega)).mono ?_;rintro e w'⟨rfl,h1⟩;exact⟨rfl,_,_,h1⟩
 have HZ:Hid (∀W:World,WyE w0 b (bs++[o]++cmx F.R) rest W->CallsD prog 55 #[.pointer (some ⟨b,0,none⟩),.int .u8 (z.toNat:Int)] .returning W fun e u' w'=>u'=.returning/\(e=.returned .nilIface/\WyE w0 b (bs++o::(cmx F.R++[z])) rest w')):=fun W hW=>by
  obtain⟨A,c,h⟩:=hW;refine(k4v h z .returning (by simp only[List.length_append,List.length_cons,List.length_nil];omega)).mono ?_;rintro e u' w'⟨rfl,rfl,h1⟩;refine⟨rfl,rfl,A,c,?_⟩;have e1:bs++o::(cmx F.R++[z])=bs++[o]++cmx F.R++[z]:=by simp
  rw[e1];exact h1
 have HS:Hid (∀w1,WyE w0 b (bs++[o]) (F.N++rest) w1->g4b w0 b rest (bs++[o]++cmx F.R) F.len 0 F (bs++[o]) w1):=fun w1 h1=>⟨by omega,hE,h1,rfl⟩
 have HTL:Hid ((bs++[o]++cmx F.R).length<=500000):=(show _<=_ by simp only[List.length_append,List.length_cons,List.length_nil];omega);clear h hE hl;generalize F.len=fn at HS hn⊢;generalize bs++[o]++cmx F.R=T at HS HZ HTL;go_enter_defers func155,ntmps155;go_wp2_with fail;refine HO.o.mono ?_;rintro e w1⟨rfl,h1⟩;have HS1:=(show Hid (_)from HS.o w1 h1);clear h1 HO HS;go_wp2_with fail
 go_loopw [19] (fun x wr=>∃(i:Nat)(G:Fo)(bs':List UInt8),x=.int .i64 (i:Int)/\g4b w0 b rest T fn i G bs' wr) (fun x _=>fn-(intOf x).toNat)
 case atStart=>exact⟨0,F,_,rfl,HS1.o⟩
 case round=>
  obtain⟨i,G,bs',rfl,hV⟩:=hrel;have hT:=HTL.o;cases G with
  | nil=>
   obtain⟨hi,_,hw,ht⟩:=hV;have hie:¬(i:Int)<(fn:Int):=by simp only[Fo.len]at hi;omega
   have ht2:bs'=T:=by
    rw[<-ht];unfold y9b
    split<;>simp[Fo.R,cmx,g2r]
   have HW1:Hid (WyE w0 b T rest wr):=(show WyE w0 b T rest wr by rw[<-ht2];exact hw);clear hw ht ht2 hi;go_wp2;refine leaves_cons (f:=55) (args:=#[.pointer (some ⟨b,0,none⟩),.int .u8 (z.toNat:Int)]) (by simp) (by simp[go_sem]) ?_;refine(HZ.o _ HW1.o).mono ?_;rintro e u' w''⟨rfl,rfl,h5⟩;exact⟨_,results_none rfl _ _ _,rfl,h5⟩
  | cons y k G'=>
   obtain⟨hi,hE,hw,ht⟩:=hV;have hil:(i:Int)<(fn:Int):=by simp only[Fo.len]at hi;omega
   have hi2:i+1+G'.len=fn:=by simp only[Fo.len]at hi;omega
   have HX:Hid (ExC w0 b y k):=hE.1;have HE:Hid (y3i w0 b G'):=hE.2;have e0:(Fo.cons y k G').R=q0m y k.R::G'.R:=rfl;have e1:(Fo.cons y k G').N++rest=y::(k.N++(G'.N++rest)):=by simp[Fo.N]
   rw[e1]at hw;rw[e0]at ht;have hcm:=y4o (q0m y k.R) G'.R;have hmt:(q0m y k.R).tx=q3o y k.R:=rfl;rw[hmt]at hcm;by_cases h0:i=0
   ·subst h0;rw[y9b,if_pos rfl,hcm]at ht
    have HX1:Hid (∀W,WyE w0 b bs' (y::(k.N++(G'.N++rest))) W->Calls prog 98 #[.pointer (some ⟨b,0,none⟩)] W fun e w'=>e=.returned (.tuple #[])/\g4b w0 b rest T fn 1 G' (bs'++q3o y k.R) w'):=fun W hW=>by
     refine(HX.o bs' (G'.N++rest) W (by rw[<-ht]at hT;simp only[List.length_append]at hT;omega) hW).mono ?_;rintro e w'⟨rfl,h6⟩;exact⟨rfl,by omega,HE.o,h6,by rw[y9b,if_neg (by omega),List.append_assoc];exact ht⟩
    have HW:=(show Hid (_)from hw);clear hw ht hcm e0 e1 hE HX hi hmt;go_wp2_with fail;refine(HX1.o _ HW.o).mono ?_;rintro e w2⟨rfl,h2⟩;go_wp2;refine⟨⟨1,G',_,rfl,h2⟩,?_⟩;simp[intOf];omega
   ·rw[y9b,if_neg h0]at ht
    have ht3:bs'++[44,32]++(q3o y k.R++g2r G'.R)=T:=by
     rw[<-ht,<-hcm];simp[g2r]
    have hi0:0<(i:Int):=by omega
    have HC:Hid (Calls prog 47 #[.pointer (some ⟨b,0,none⟩),.string ⟨#[44,32]⟩] wr fun e w'=>(∃z,e=.returned (.tuple #[z,.nilIface]))/\WyE w0 b (bs'++[44,32]) (y::(k.N++(G'.N++rest))) w'):=by
     obtain⟨A,c,h⟩:=hw;refine(q5c h ⟨#[44,32]⟩ (by rw[<-ht3]at hT;simp only[List.length_append]at hT;omega) (by decide)).mono ?_;rintro e w'⟨rfl,h,_⟩;exact⟨⟨_,rfl⟩,_,_,h⟩
    have HX1:Hid (∀W,WyE w0 b (bs'++[44,32]) (y::(k.N++(G'.N++rest))) W->Calls prog 98 #[.pointer (some ⟨b,0,none⟩)] W fun e w'=>e=.returned (.tuple #[])/\g4b w0 b rest T fn (i+1) G' (bs'++[44,32]++q3o y k.R) w'):=fun W hW=>by
     refine(HX.o (bs'++[44,32]) (G'.N++rest) W (by rw[<-ht3]at hT;simp only[List.length_append]at hT⊢;omega) hW).mono ?_;rintro e w'⟨rfl,h6⟩;exact⟨rfl,by omega,HE.o,h6,by rw[y9b,if_neg (by omega),List.append_assoc];exact ht3⟩
    clear hw ht ht3 hcm e0 e1 hE HX hi hmt;go_wp2_with fail;refine HC.o.mono ?_;rintro e w2⟨⟨q,rfl⟩,h2⟩;have H2:=(show Hid (_)from h2);clear h2;go_wp2_with fail;refine(HX1.o _ H2.o).mono ?_;rintro e w3⟨rfl,h3⟩;go_wp2;refine⟨⟨i+1,G',_,by go_num,h3⟩,?_⟩;simp[intOf];omega
theorem k4z{w0:World}{b:Nat}{y:Td}{k:Fo}(hX:ExC w0 b y k)(op:Int)(hop:op=5\/op=6)(s:Bool)(bs:List UInt8)(rest:List Td)(w:World)(hl:bs.length+(brx ((op-5).toNat+s.toNat) (q0m y k.R)).length<=500000)(hW:WyE w0 b bs (y::(k.N++rest)) w):
  Calls prog 204 #[.pointer (some ⟨b,0,none⟩),.int .i64 op,.bool s] w fun e w'=>e=.returned (.tuple #[])/\WyE w0 b (bs++brx ((op-5).toNat+s.toNat) (q0m y k.R)) rest w':=by
 have HNB:Hid (∀W,Calls prog 237 #[.int .i64 y.op,.int .i64 op,.bool s] W fun e w'=>e=.returned (.bool (decide (prc y<(op-5).toNat+s.toNat)))/\w'=W):=fun W=>k3n y op hop s W
 have HX:Hid (ExC w0 b y k):=hX;obtain⟨A,c,h⟩:=hW;obtain⟨tb,tq,rfl,hlt,d0,_,_⟩:=h.td 0 (by simp);simp only[List.getElem_cons_zero,Nat.zero_mul,Nat.add_zero]at d0;obtain⟨bc,_⟩:=q1c h.bl;have e0:w.cell? ⟨tb,tq,none⟩=some (.int .i64 y.op):=(bc _ _ hlt).trans d0;have cR:w.cell? ⟨b,2,none⟩=some (.slice (some ⟨tb,tq,none⟩) (y::(k.N++rest)).length c):=h.x.cellR 0;generalize hn:(y::(k.N++rest)).length=n at cR;have h1n:0<n:=by rw[<-hn];simp
 have hbx:brx ((op-5).toNat+s.toNat) (q0m y k.R)=if prc y<(op-5).toNat+s.toNat then 40::(q3o y k.R++[41])else q3o y k.R:=rfl
 rw[hbx]at hl⊢;by_cases hp:prc y<(op-5).toNat+s.toNat
 ·rw[if_pos hp]at hl⊢;rw[decide_eq_true hp]at HNB;simp only[List.length_cons,List.length_append,List.length_nil]at hl
  have HO:Hid (Calls prog 55 #[.pointer (some ⟨b,0,none⟩),.int .u8 40] w fun e w'=>e=.returned .nilIface/\WyE w0 b (bs++[40]) (y::(k.N++rest)) w'):=by
   refine(q8f h 40 (by omega)).mono ?_;rintro e w'⟨rfl,h1⟩;exact⟨rfl,_,_,h1⟩
  have HX1:Hid (∀W,WyE w0 b (bs++[40]) (y::(k.N++rest)) W->Calls prog 98 #[.pointer (some ⟨b,0,none⟩)] W fun e w'=>e=.returned (.tuple #[])/\WyE w0 b (bs++[40]++q3o y k.R) rest w'):=fun W hW=>HX.o (bs++[40]) rest W (by simp only[List.length_append,List.length_cons,List.length_nil];omega) hW
  have HZ:Hid (∀W:World,WyE w0 b (bs++[40]++q3o y k.R) rest W->CallsD prog 55 #[.pointer (some ⟨b,0,none⟩),.int .u8 41] .returning W fun e u' w'=>u'=.returning/\(e=.returned .nilIface/\WyE w0 b (bs++40::(q3o y k.R++[41])) rest w')):=fun W hW=>by
   obtain⟨A,c,h⟩:=hW;refine(k4v h 41 .returning (by simp only[List.length_append,List.length_cons,List.length_nil];omega)).mono ?_;rintro e u' w'⟨rfl,rfl,h1⟩;refine⟨rfl,rfl,A,c,?_⟩;have e1:bs++40::(q3o y k.R++[41])=bs++[40]++q3o y k.R++[41]:=by simp
   rw[e1];exact h1
  clear h bc d0 hbx hl hop hn hX;go_enter_defers func204,ntmps204;go_wp2_with fail;refine(HNB.o _).mono ?_;rintro e w1⟨rfl,rfl⟩;go_wp2_with fail;refine HO.o.mono ?_;rintro e w2⟨rfl,h2⟩;have H2:=(show Hid (_)from h2);clear h2;go_wp2_with fail;refine(HX1.o _ H2.o).mono ?_;rintro e w3⟨rfl,h3⟩;have H3:=(show Hid (_)from h3);clear h3;go_wp2;refine leaves_cons (f:=55) (args:=#[.pointer (some ⟨b,0,none⟩),.int .u8 41]) (by simp) (by simp[go_sem]) ?_;refine(HZ.o _ H3.o).mono ?_;rintro e u' w''⟨rfl,rfl,h5⟩;exact⟨_,results_none rfl _ _ _,rfl,h5⟩
 ·rw[if_neg hp]at hl⊢;rw[decide_eq_false hp]at HNB;have HX1:Hid (Calls prog 98 #[.pointer (some ⟨b,0,none⟩)] w fun e w'=>e=.returned (.tuple #[])/\WyE w0 b (bs++q3o y k.R) rest w'):=HX.o bs rest w (by omega) ⟨_,_,h⟩;clear h bc d0 hbx hl hop hn hX;go_enter_defers func204,ntmps204;go_wp2_with fail;refine(HNB.o _).mono ?_;rintro e w1⟨rfl,rfl⟩;go_wp2_with fail;refine HX1.o.mono ?_;rintro e w3⟨rfl,h3⟩;have H3:=(show Hid (_)from h3);clear h3;go_wp2;exact⟨_,results_none rfl _ _ _,rfl,H3.o⟩
theorem j4v{w0:World}{b:Nat}{y z:Td}{k l:Fo}(hX:ExC w0 b y k)(hZ:ExC w0 b z l)(op:Int)(hop:op=5\/op=6)(m:ByteArray)(hm:m.size=3)(bs:List UInt8)(rest:List Td)(w:World)
  (hl:bs.length+(brx (op-5).toNat (q0m y k.R)).length+(brx ((op-5).toNat+1) (q0m z l.R)).length+3<=500000) (hW:WyE w0 b bs (y::(k.N++(z::(l.N++rest)))) w):
  Calls prog 156 #[.pointer (some ⟨b,0,none⟩),.int .i64 op,.string m] w fun e w'=>e=.returned (.tuple #[])/\WyE w0 b (bs++(brx (op-5).toNat (q0m y k.R)++btL m++brx ((op-5).toNat+1) (q0m z l.R))) rest w':=by
 have hml:(btL m).length=3:=by rw[q0b,hm]
 have H1:Hid (Calls prog 204 #[.pointer (some ⟨b,0,none⟩),.int .i64 op,.bool false] w fun e w'=>e=.returned (.tuple #[])/\WyE w0 b (bs++brx (op-5).toNat (q0m y k.R)) (z::(l.N++rest)) w'):=k4z hX op hop false bs _ w (by simp only[Bool.toNat_false,Nat.add_zero];omega) hW;generalize brx (op-5).toNat (q0m y k.R)=X at H1 hl⊢
 have H2:Hid (∀W,WyE w0 b (bs++X) (z::(l.N++rest)) W->Calls prog 47 #[.pointer (some ⟨b,0,none⟩),.string m] W fun e w'=>(∃z,e=.returned (.tuple #[z,.nilIface]))/\WyE w0 b (bs++X++btL m) (z::(l.N++rest)) w'):=fun W hW=>by
  obtain⟨A,c,h⟩:=hW;refine(q5c h m (by simp only[List.length_append];omega) (by omega)).mono ?_;rintro e w'⟨rfl,h,_⟩;exact⟨⟨_,rfl⟩,_,_,h⟩
 have H3:Hid (∀W,WyE w0 b (bs++X++btL m) (z::(l.N++rest)) W->Calls prog 204 #[.pointer (some ⟨b,0,none⟩),.int .i64 op,.bool true] W fun e w'=>e=.returned (.tuple #[])/\WyE w0 b (bs++X++btL m++brx ((op-5).toNat+1) (q0m z l.R)) rest w'):=fun W hW=>k4z hZ op hop true _ _ W (by simp only[List.length_append,Bool.toNat_true];omega) hW
 clear hW hl hX hZ hml hm;go_in;go_wp2_with fail;refine H1.o.mono ?_;rintro e w1⟨rfl,h1⟩;have K1:=(show Hid (_)from h1);clear h1;go_wp2_with fail;refine(H2.o _ K1.o).mono ?_;rintro e w2⟨⟨q,rfl⟩,h2⟩;have K2:=(show Hid (_)from h2);clear h2;go_wp2_with fail;refine(H3.o _ K2.o).mono ?_;rintro e w3⟨rfl,h3⟩;have K3:=(show Hid (_)from h3);clear h3;go_wp2
 go_end0
 refine⟨rfl,?_⟩;have h4:=K3.o;simp only[List.append_assoc]at h4⊢;exact h4
theorem y0k{w0:World}{b:Nat}{y z:Td}{k l:Fo}(hX:ExC w0 b y k)(hZ:ExC w0 b z l)(op:Int)(hop:op=5\/op=6)(tx:ByteArray)(n:Int):ExC w0 b ⟨op,tx,n⟩ (.cons y k (.cons z l .nil)):=by
 intro bs rest w hl hW;obtain⟨A,c,h⟩:=hW;have hnd:(Fo.cons y k (.cons z l .nil)).N++rest=y::(k.N++(z::(l.N++rest))):=by simp[Fo.N]
 rw[hnd]at h;have HN:Hid (Calls prog 96 #[.pointer (some ⟨b,0,none⟩)] w fun e w'=>e=.returned (tdV ⟨op,tx,n⟩)/\WyE w0 b bs (y::(k.N++(z::(l.N++rest)))) w'):=q5b h;have HSD:=(show Hid (_)from fun m hm W hl hW=>j4v hX hZ op hop m hm bs rest W hl hW);clear h hnd hX hZ;rcases hop with rfl|rfl
 ·have HL:Hid (q3o ⟨5,tx,n⟩ (Fo.cons y k (.cons z l .nil)).R=brx 0 (q0m y k.R)++32::43::32::brx 1 (q0m z l.R)):=rfl;rw[HL.o]at hl⊢;simp only[List.length_append,List.length_cons]at hl
  have HS1:Hid (∀W:World,WyE w0 b bs (y::(k.N++(z::(l.N++rest)))) W->Calls prog 156 #[.pointer (some ⟨b,0,none⟩),.int .i64 5,.string ⟨#[32,43,32]⟩] W fun e w'=>e=.returned (.tuple #[])/\WyE w0 b (bs++(brx 0 (q0m y k.R)++32::43::32::brx 1 (q0m z l.R))) rest w'):=fun W hW=>by
   refine(HSD.o ⟨#[32,43,32]⟩ rfl W (by show bs.length+(brx 0 _).length+(brx 1 _).length+3<=500000;omega) hW).mono ?_;rintro e w'⟨rfl,h6⟩;refine⟨rfl,?_⟩;have e1:brx 0 (q0m y k.R)++32::43::32::brx 1 (q0m z l.R)=brx ((5:Int)-5).toNat (q0m y k.R)++btL ⟨#[32,43,32]⟩++brx (((5:Int)-5).toNat+1) (q0m z l.R):=by simp;rfl
   rw[e1];exact h6
  clear HSD hl;go_in;go_wp2_with fail;refine HN.o.mono ?_;rintro e w1⟨rfl,A1,c1,h1⟩;have H1:Hid (∀W:World,Below w1 w1 W->WyE w0 b bs (y::(k.N++(z::(l.N++rest)))) W):=fun W hb=>⟨_,_,h1.grew hb⟩
  clear h1 HN;go_wp2_with fail;refine(HS1.o _ (H1.o _ (q1t w1 _))).mono ?_;rintro e w3⟨rfl,h3⟩;go_wp2
  go_end0
  exact⟨rfl,h3⟩
 ·have HL:Hid (q3o ⟨6,tx,n⟩ (Fo.cons y k (.cons z l .nil)).R=brx 1 (q0m y k.R)++32::42::32::brx 2 (q0m z l.R)):=rfl;rw[HL.o]at hl⊢;simp only[List.length_append,List.length_cons]at hl
  have HS1:Hid (∀W:World,WyE w0 b bs (y::(k.N++(z::(l.N++rest)))) W->Calls prog 156 #[.pointer (some ⟨b,0,none⟩),.int .i64 6,.string ⟨#[32,42,32]⟩] W fun e w'=>e=.returned (.tuple #[])/\WyE w0 b (bs++(brx 1 (q0m y k.R)++32::42::32::brx 2 (q0m z l.R))) rest w'):=fun W hW=>by
   refine(HSD.o ⟨#[32,42,32]⟩ rfl W (by show bs.length+(brx 1 _).length+(brx 2 _).length+3<=500000;omega) hW).mono ?_;rintro e w'⟨rfl,h6⟩;refine⟨rfl,?_⟩;have e1:brx 1 (q0m y k.R)++32::42::32::brx 2 (q0m z l.R)=brx ((6:Int)-5).toNat (q0m y k.R)++btL ⟨#[32,42,32]⟩++brx (((6:Int)-5).toNat+1) (q0m z l.R):=by simp;rfl
   rw[e1];exact h6
  clear HSD hl;go_in;go_wp2_with fail;refine HN.o.mono ?_;rintro e w1⟨rfl,A1,c1,h1⟩;have H1:Hid (∀W:World,Below w1 w1 W->WyE w0 b bs (y::(k.N++(z::(l.N++rest)))) W):=fun W hb=>⟨_,_,h1.grew hb⟩
  clear h1 HN;go_wp2_with fail;refine(HS1.o _ (H1.o _ (q1t w1 _))).mono ?_;rintro e w3⟨rfl,h3⟩;go_wp2
  go_end0
  exact⟨rfl,h3⟩
theorem k1i{w0:World}{b:Nat}(ht:z8n w0):∀F:Fo,F.ok->F.exs->y3i w0 b F
 | .nil,_,_=>trivial
 | .cons x k n,hok,hex=>by
  have hk:y3i w0 b k:=k1i ht k hok.2.1 fun y hy=>hex y (by simp[Fo.N,hy])
  have hn:y3i w0 b n:=k1i ht n hok.2.2 fun y hy=>hex y (by simp[Fo.N,hy])
  refine⟨?_,hn⟩;have hx:=hex x (by simp[Fo.N]);have hkl:=hok.1;obtain⟨op,tx,m⟩:=x;rcases q2j hx with⟨e1,e2,e3,e4,e5⟩|⟨e1,e2,e3,e5⟩|⟨e1,e2,e3,e4,e5⟩|⟨e1,e2,e3,e4,e5⟩|⟨e1,e2,e3,e5⟩|⟨e1,e2,e3,e5⟩
  ·rw[e5]at hkl;cases k with
   | cons=>simp[Fo.len]at hkl
   | nil=>
    dsimp only at e1 e3 e4;subst e1;exact y0j ht m e3 e4 tx
  ·rw[e5]at hkl;cases k with
   | cons=>simp[Fo.len]at hkl
   | nil=>
    dsimp only at e1;subst e1;exact v3v tx m
  ·rw[e5]at hkl;dsimp only at e1 e3 e4 hkl;subst e1
   have:m=(k.len:Int):=by omega
   subst this;exact v3t tx (k4w hk (by omega) 40 41)
  ·rw[e5]at hkl;dsimp only at e1 e3 e4 hkl;subst e1
   have:m=(k.len:Int):=by omega
   subst this;exact v3u tx (k4w hk (by omega) 91 93)
  all_goals
   rw[e5]at hkl;dsimp only at e1;cases k with
   | nil=>simp[Fo.len]at hkl
   | cons y ky r=>
    cases r with
    | nil=>simp[Fo.len]at hkl
    | cons z kz r2=>
     cases r2 with
     | cons=>simp[Fo.len]at hkl
     | nil=>exact y0k hk.1 hk.2.1 op (by omega) tx m
end Go.Proofs.YthcpdohdppkmkaaGreatDoor
