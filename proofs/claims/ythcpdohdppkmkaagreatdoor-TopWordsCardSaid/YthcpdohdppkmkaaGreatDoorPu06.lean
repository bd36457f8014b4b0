import Derived.Test.YthcpdohdppkmkaaGreatDoorPu05
import Derived.Test.YthcpdohdppkmkaaGreatDoorShg
import Derived.Defers
import Derived.Lib.LaidTab
import Derived.Laws.AppendOwn
import Derived.Laws.AppendOwnNone
import Derived.Deep.CutBlock
import Derived.Deep.DeepCutAuto
open Go.Proofs.Tryz
namespace Go.Proofs.YthcpdohdppkmkaaGreatDoor
open Go Go.RowKit
set_option maxRecDepth 100000
set_option maxHeartbeats 2000000
theorem v4h(T B b:Nat)(l:List UInt8)(R:List Value)(w:World)(h:IsX T B b (Lib.byteCells l) R w)(h0:l≠[]):
  Calls prog 48 #[.pointer (some ⟨b,0,none⟩)] w fun e w'=>e=.returned (.string ⟨l.toArray⟩)/\Below B w w':=by
 obtain⟨p,hAt⟩:=h.at;obtain⟨v,hbk,hown,hne,_⟩:=hAt;have hl0:l.length≠0:=by simpa using h0
 rw[Lib.byteCells_length]at hown
 obtain⟨g,cap,cur,fz,rfl,hbg,hg,hfz,hnc,hcm,hcs,htake⟩:∃g cap cur fz,v=.slice (some ⟨g,0,none⟩) l.length cap/\B<=g/\w.heap[g]?=some (.cells cur 5 fz)/\fz.2<=l.length*1/\l.length<=cap/\cap<=maxLen/\cur.size=cap*1/\cur.toList.take (l.length*1)=Lib.byteCells l:=by
  rcases hown.2 with⟨_,hz⟩|⟨g,cap,cur,fz,hv,r⟩
  ·exact absurd hz hl0
  ·exact⟨g,cap,cur,fz,hv,r⟩
 have c1:w.drew.cell? ⟨b,1,none⟩=some (.slice (some ⟨g,0,none⟩) l.length cap):=by
  have:w.drew.heap[b]?=some (.cells (p::.slice (some ⟨g,0,none⟩) l.length cap::R).toArray T (0,0)):=hbk
  rw[Lib.cell_of_heap this];rfl
 have hSD:(Builtin.unsafeSliceData_ #[94] 155 #[.slice (some ⟨g,0,none⟩) l.length cap]).run prog w.drew=.ok (.pointer (some ⟨g,0,none⟩)) w.drew:=
  Lib.run_unsafeSliceData_row _ _ _ _ _ _ (by omega)
 have hUS:(Builtin.unsafeString_ #[155,3] 9 #[.pointer (some ⟨g,0,none⟩),.int .i64 l.length]).run prog w.drew=.ok (.string ⟨l.toArray⟩) (w.drew.freeze ⟨g,0,none⟩ l.length):=by
  refine Lib.run_unsafeString_row w.drew 155 3 9 5 Tryz.underlying155 y3g g cur.size (by have hg':w.drew.heap[g]?=some (.cells cur 5 fz):=hg;simp[World.shape?,hg']) l h0 (by omega) (by unfold maxLen at hcm;omega) ?_;intro j x hx
  have:=hown.cells (g:=g) rfl j (.int .u8 x.toNat) (by simp[Lib.byteCells,hx])
  exact this
 go_in;go_wp2
 go_region
 all_goals (go_wp2;go_ret;exact⟨rfl,Lib.below_freeze (Below.drew (Below.refl B w)) (p:=⟨g,0,none⟩) hbg _⟩)
theorem v4g(T B b:Nat)(R:List Value)(w:World)(h:IsX T B b [] R w):
  Calls prog 48 #[.pointer (some ⟨b,0,none⟩)] w fun e w'=>e=.returned (.string ⟨#[]⟩)/\Below B w w':=by
 obtain⟨p,hAt⟩:=h.at;obtain⟨v,hbk,hown,hne,hv⟩:=hAt;obtain rfl:=hv rfl;clear hown hne hv;have hUS:∀(W:World)(q:Option Addr),(Builtin.unsafeString_ #[155,3] 9 #[.pointer q,.int .i64 0]).run prog W=.ok (.string .empty) W:=fun W q=>Lib.run_unsafeString_none W _ _ _ q
 have c1:w.drew.cell? ⟨b,1,none⟩=some (.slice none 0 0):=by
  have:w.drew.heap[b]?=some (.cells (p::.slice none 0 0::R).toArray T (0,0)):=hbk
  rw[Lib.cell_of_heap this];rfl
 have hSD:(Builtin.unsafeSliceData_ #[94] 155 #[.slice none 0 0]).run prog w.drew=.ok (.pointer none) w.drew:=rfl;go_in;go_wp2
 go_region
 all_goals (go_wp2;go_ret;exact⟨rfl,Below.drew (Below.refl B w)⟩)
theorem z4c(T B b:Nat)(l:List UInt8)(R:List Value)(w:World)(h:IsX T B b (Lib.byteCells l) R w):
  Calls prog 48 #[.pointer (some ⟨b,0,none⟩)] w fun e w'=>e=.returned (.string ⟨l.toArray⟩)/\Below B w w':=by
 by_cases h0:l=[]
 ·subst h0;exact v4g T B b R w h
 ·exact v4h T B b l R w h h0
def z8n (w : World) : Prop := Lib.TabIs prog w "internal/strconv.uint64pow10" .u64 Lib.pow10Tab
structure q5u(w:World):Prop where
 pow:z8n w
 spc : Lib.TabIs prog w "strings.asciiSpace" .u8 Lib.asciiSpaceTab
theorem k4l{n:String}{k:IntKind}{zs:List Int}{w w':World}{g:Nat}(hg:prog.globalNamed n=some g)(h:Lib.TabIs prog w n k zs)(hb:Below w w w'):Lib.TabIs prog w' n k zs:=by
 unfold Lib.TabIs World.var? at h⊢;rw[hg]at h⊢;simp only[Option.bind_some]at h⊢
 have hlt:g<w.heap.size:=by
  rcases Nat.lt_or_ge g w.heap.size with h'|h'
  ·exact h'
  ·rw[Array.getElem?_eq_none h']at h;cases h
 rw[hb.block g hlt];exact h
theorem z8n.W{w w':World}(h:z8n w)(hb:Below w w w'):z8n w':=k4l (g:=6) (by kernel_rfl) h hb
theorem q5u.W{w w':World}(h:q5u w)(hb:Below w w w'):q5u w':=
 ⟨h.pow.W hb,k4l (g:=1) (by kernel_rfl) h.spc hb⟩
theorem q1t(w:World)(o:Obj):Below w w (w.alloc o):= Zb.alloc Zl _
theorem z3k(w:World)(o:Obj):Below w w (w.alloc o).drew:=(q1t w o).drew
theorem v2y{w:World}{b o c:Nat}{x:Td}{ds:List Td}(h:Tds w (some ⟨b,o,none⟩) (x::ds))(hc:(x::ds).length<=c):
  ∃A,(∀W:World,(Instr.slice 51 (.slice (some ⟨b,o,none⟩) (x::ds).length c) (some (.int .i64 1)) none none).run prog W=.ok (.slice A ds.length (c-1)) W)/\Tds w A ds:=by
 refine⟨if c=1 then some ⟨b,o,none⟩else some ⟨b,o+3,none⟩,fun W=>?_,?_⟩
 ·rw[run_slice_l W 51 _ (x::ds).length c Tryz.underlying51 .i64 1 (by omega) (by simp only[List.length_cons];omega)];have hz:(sizeOf (prog.elem 51)).run prog W=.ok 3 W:=by kernel_rfl
  rw[hz];have ha:(⟨b,o,none⟩:Addr).add 3=⟨b,o+3,none⟩:=rfl;simp[Result.andThen,sliced,ha]
 ·by_cases e:c=1
  ·have:ds=[]:=List.eq_nil_of_length_eq_zero (by simp only[List.length_cons]at hc;omega)
   rw[this];exact Tds.nil _ _
  ·rw[if_neg e];intro i hi;obtain⟨b',o',e',hlt,c1,c2,c3⟩:=h (i+1) (by simp only[List.length_cons];omega);simp only[Option.some.injEq,Addr.mk.injEq,and_true]at e';obtain⟨rfl,rfl⟩:=e';simp only[List.getElem_cons_succ]at c1 c2 c3;refine⟨b,o+3,rfl,hlt,?_,?_,?_⟩
   ·rw[show o+3+i*3=o+(i+1)*3 by omega];exact c1
   ·rw[show o+3+i*3+1=o+(i+1)*3+1 by omega];exact c2
   ·rw[show o+3+i*3+2=o+(i+1)*3+2 by omega];exact c3
structure Wy(w0:World)(b:Nat)(bs:List UInt8)(ds:List Td)(w:World)(A:Option Addr)(c:Nat):Prop where
 x:IsX 108 w0.heap.size b (Lib.byteCells bs) [.slice A ds.length c] w
 le:ds.length<=c
 td:Tds w0 A ds
 bl:Below w0 w0 w
 lt:w0.heap.size<=b
def WyE(w0:World)(b:Nat)(bs:List UInt8)(ds:List Td)(w:World):Prop:=∃A c,Wy w0 b bs ds w A c
theorem y5v:z1v 108 3:=by unfold z1v;kernel_rfl
theorem wrT:108≠5:=by decide
theorem q3j(a b:List UInt8):Lib.byteCells (a++b)=Lib.byteCells a++Lib.byteCells b:=by simp[Lib.byteCells]
theorem IsX.grew{T B b:Nat}{bs R:List Value}{w w':World}(h:IsX T B b bs R w)(hb:Below w w w'):IsX T B b bs R w':=by
 have key:∀p,XAt T B b p bs R w->XAt T B b p bs R w':=by
  rintro p⟨v,hk,hown,hne,h0⟩;refine⟨v,(hb.block b ?_).trans hk,hown.kept (row:=none) ⟨hb.os,hb.tape,hb.output,hb.size,fun k hk _=>hb.block k hk⟩ (by cases hv:v.ownBlock<;>simp),hne,h0⟩;rcases Nat.lt_or_ge b w.heap.size with h'|h'
  ·exact h'
  ·simp[Array.getElem?_eq_none h']at hk
 exact h.imp (key _) (key _)
theorem Wy.grew{w0:World}{b:Nat}{bs:List UInt8}{ds:List Td}{w w':World}{A:Option Addr}{c:Nat}(h:Wy w0 b bs ds w A c)(hb:Below w w w'):Wy w0 b bs ds w' A c:=
 ⟨h.x.grew hb,h.le,h.td,q0c h.bl Zl hb,h.lt⟩
theorem q8f{w0:World}{b:Nat}{bs:List UInt8}{ds:List Td}{w:World}{A:Option Addr}{c:Nat}(h:Wy w0 b bs ds w A c)(k:UInt8)(hl:bs.length<=1000000):
  Calls prog 55 #[.pointer (some ⟨b,0,none⟩),.int .u8 (k.toNat:Int)] w fun e w'=>e=.returned .nilIface/\Wy w0 b (bs++[k]) ds w' A c:=by
 refine(k5a 108 w0.heap.size b (Lib.byteCells bs) [.slice A ds.length c] (k.toNat:Int) w y5v wrT h.x (by rw[Lib.byteCells_length];omega) h.bl.size).mono ?_;rintro e w'⟨rfl,h1,h2,_⟩;refine⟨rfl,?_,h.le,h.td,h.bl.trans (h2.W h.lt),h.lt⟩;rw[q3j];exact h1
theorem q5c{w0:World}{b:Nat}{bs:List UInt8}{ds:List Td}{w:World}{A:Option Addr}{c:Nat}(h:Wy w0 b bs ds w A c)(s:ByteArray)(hl:bs.length<=1000000)(hs:s.size<=1000000):
  Calls prog 47 #[.pointer (some ⟨b,0,none⟩),.string s] w fun e w'=>e=.returned (.tuple #[.int .i64 s.size,.nilIface])/\Wy w0 b (bs++btL s) ds w' A c/\Lib.OthersKept 5 (some b) w w':=by
 refine(q7h 108 w0.heap.size b (Lib.byteCells bs) [.slice A ds.length c] s w y5v wrT h.x (by rw[Lib.byteCells_length];omega) h.bl.size).mono ?_;rintro e w'⟨rfl,h1,h2,h3⟩;refine⟨rfl,⟨?_,h.le,h.td,h.bl.trans (h2.W h.lt),h.lt⟩,h3⟩;rw[q3j];exact h1
theorem v4f(T B b:Nat)(bs R:List Value)(c:Int)(u:FrameMode)(w:World)(hl:z1v T (R.length+2))(hT:T≠5)(h:IsX T B b bs R w)(hlen:bs.length+1<=140737488355328)(hBw:B<=w.heap.size):
  CallsD prog 55 #[.pointer (some ⟨b,0,none⟩),.int .u8 c] u w fun e u' w'=>u'=u/\(e=.returned .nilIface/\(IsX T B b (bs++[.int .u8 c]) R w'/\q0p B b w w')):=by
 obtain⟨i0,hi,hz0,hz1,hz2⟩:=info_parts y0s;have HL:Hid (z1v T (R.length+2)):=hl;have HT:Hid (T≠5):=hT;have H:Hid (IsX T B b bs R w):=h;clear hl hT h;go_enter_d func55,ntmps55;go_wp2_with(go_at_call 84;refine(z2z T B b bs R _ HL.o H.o).mono ?_);rintro e w1⟨rfl,h1,hb1,hk1⟩;obtain⟨v,hbk,hown,hne,_⟩:=h1;have c0:w1.cell? ⟨b,0,none⟩=some (.pointer (some ⟨b,0,none⟩)):=by rw[Lib.cell_of_heap hbk];rfl
 have c1:w1.cell? ⟨b,1,none⟩=some v:=by rw[Lib.cell_of_heap hbk];rfl
 go_wp2_with(at_builtin;refine wpList_append_ownF _ rfl _ _ 94 rfl B 5 i0 (.int .u8 0) 1 1 Tryz.underlying94 hi hz0 hz1 hz2 rfl (by decide) _ _ _ rfl (hown.alloc _) ⟨w1,0,none⟩ 1 1 [.int .u8 c] rfl rfl ?c1 ?c2 ?c3 ?c4 ?c5 ?_)
 case c1=>
  intro j u hj
  match j,hj with
  | 0,hj=>simp at hj;subst hj;simp[Addr.add]
 case c2=>intro u hu;simp at hu;subst hu;rfl
 case c3=>unfold maxLen;omega
 case c4=>omega
 case c5=>have:=hb1.size;simp;omega
 intro v' w2 hown' hgrow _
 have hlt:b<w1.heap.size:=by
  rcases Nat.lt_or_ge b w1.heap.size with h'|h'
  ·exact h'
  ·simp[Array.getElem?_eq_none h']at hbk
 have hb2:w2.heap[b]?=some (.cells (.pointer (some ⟨b,0,none⟩)::v::R).toArray T (0,0)):=by
  rw[hgrow.block b (by simp;omega) (fun e=>hne e.symm),Lib.alloc_old w1 _ b hlt];exact hbk
 have d0:w2.cell? ⟨b,0,none⟩=some (.pointer (some ⟨b,0,none⟩)):=by rw[Lib.cell_of_heap hb2];rfl
 have d1:w2.cell? ⟨b,1,none⟩=some v:=by rw[Lib.cell_of_heap hb2];rfl
 have f1:w2.frozen? ⟨b,1,none⟩=false:=Lib.frozen_of_heap hb2 1
 obtain⟨g,cap,rfl⟩:∃g cap,v'=.slice (some ⟨g,0,none⟩) (bs.length+1) cap:=by
  rcases hown'.2 with⟨_,h0⟩|⟨g,cap,cur,fz,hv,_⟩
  ·omega
  ·exact⟨g,cap,hv⟩
 go_wp2;go_ret;refine⟨rfl,.inr ?_,?_⟩
 ·exact XAt.put hb2 (bs':=bs++[.int .u8 c]) (by simpa using hown') HT.o (fun h=>by simp at h)
 ·exact((hb1.alloc (by have:=hb1.size;omega) _).grown hgrow (by have:=hb1.size;simp;omega) (fun k hk=>(hown.lt k hk).1)).setCell (p:=⟨b,1,none⟩) (.inl rfl) _
theorem k4v{w0:World}{b:Nat}{bs:List UInt8}{ds:List Td}{w:World}{A:Option Addr}{c:Nat}(h:Wy w0 b bs ds w A c)(k:UInt8)(u:FrameMode)(hl:bs.length<=1000000):
  CallsD prog 55 #[.pointer (some ⟨b,0,none⟩),.int .u8 (k.toNat:Int)] u w fun e u' w'=>u'=u/\(e=.returned .nilIface/\Wy w0 b (bs++[k]) ds w' A c):=by
 refine(v4f 108 w0.heap.size b (Lib.byteCells bs) [.slice A ds.length c] (k.toNat:Int) u w y5v wrT h.x (by rw[Lib.byteCells_length];omega) h.bl.size).mono ?_;rintro e u' w'⟨rfl,rfl,h1,h2⟩;refine⟨rfl,rfl,?_,h.le,h.td,h.bl.trans (h2.W h.lt),h.lt⟩;rw[q3j];exact h1
theorem q5b{w0:World}{b:Nat}{bs:List UInt8}{x:Td}{ds:List Td}{w:World}{A:Option Addr}{c:Nat}(h:Wy w0 b bs (x::ds) w A c):
  Calls prog 96 #[.pointer (some ⟨b,0,none⟩)] w fun e w'=>e=.returned (tdV x)/\WyE w0 b bs ds w':=by
 obtain⟨tb,tq,rfl,hlt,d0,d1,d2⟩:=h.td 0 (by simp);obtain⟨A',hsl,htd⟩:=v2y h.td h.le;simp only[List.getElem_cons_zero,Nat.zero_mul,Nat.add_zero]at d0 d1 d2;obtain⟨bc,_⟩:=q1c h.bl;have e0:w.cell? ⟨tb,tq,none⟩=some (.int .i64 x.op):=(bc _ _ hlt).trans d0;have e1:w.cell? ⟨tb,tq+1,none⟩=some (.string x.tx):=(bc _ _ hlt).trans d1;have e2:w.cell? ⟨tb,tq+2,none⟩=some (.int .i64 x.n):=(bc _ _ hlt).trans d2;have hbw:b<w.heap.size:=h.x.lt;have htw:tb<w.heap.size:=Nat.lt_of_lt_of_le hlt h.bl.size;have cR:w.cell? ⟨b,2,none⟩=some (.slice (some ⟨tb,tq,none⟩) (x::ds).length c):=h.x.cellR 0;have fR:w.frozen? ⟨b,2,none⟩=false:=h.x.frozen 2;have hne:¬tb=b:=by have:=h.lt;omega
 have H:=(show Hid (_)from h);have HT:Hid (Tds w0 A' ds):=htd;have hle:=h.le;generalize hn:(x::ds).length=n at cR hsl hle;have h1n:0<n:=by rw[<-hn];simp
 have HN:Hid ((x::ds).length=n):=hn;clear h htd d0 d1 d2 bc hn;generalize hm:ds.length=m at hsl;have HM:Hid (ds.length=m):=hm;clear hm;go_in;go_wp2;refine bodyPost_ret (v:=tdV x) (by simp[results,Tryz.results96,go_sem]) rfl ?_;have h:=H.o;have hs:=h.x.stored 0 (.slice A' m (c-1));have hb2:Below w0 w0 (w.setCell ⟨b,2,none⟩ (.slice A' m (c-1))):=h.bl.setCell (p:=⟨b,2,none⟩) h.lt _;have hs2:IsX 108 w0.heap.size b (Lib.byteCells bs) [.slice A' ds.length (c-1)] (w.setCell ⟨b,2,none⟩ (.slice A' m (c-1))):=by rw[HM.o];exact hs
 refine⟨rfl,A',c-1,((hs2.alloc _).alloc _),?_,HT.o,?_,h.lt⟩
 ·have:=h.le;simp only[List.length_cons]at this;omega
 ·have hz:=h.bl.size;exact(hb2.alloc (by rw[World.size_setCell];exact hz) _).alloc (by rw[World.size_alloc,World.size_setCell];omega) _
theorem k3n(x:Td)(op:Int)(hop:op=5\/op=6)(s:Bool)(w:World):Calls prog 237 #[.int .i64 x.op,.int .i64 op,.bool s] w fun e w'=>e=.returned (.bool (decide (prc x<(op-5).toNat+s.toNat)))/\w'=w:=by
 have hp:prc x=if x.op=5 then 0 else if x.op=6 then 1 else 2:=rfl
 rw[hp];generalize x.op=k;clear hp;by_cases h5:k=5
 ·subst h5;rcases hop with rfl|rfl<;>cases s
  all_goals
   go_in;go_wp2;go_ret;exact⟨rfl,rfl⟩
 ·by_cases h6:k=6
  ·subst h6;rcases hop with rfl|rfl<;>cases s
   all_goals
    go_in;go_wp2;go_ret;exact⟨rfl,rfl⟩
  ·rw[if_neg h5,if_neg h6];have e5:(k==5)=false:=by simp[h5]
   have e6:(k==6)=false:=by simp[h6]
   rcases hop with rfl|rfl<;>cases s
   all_goals
    go_in;go_wp2;go_ret;exact⟨rfl,rfl⟩
structure But(B b:Nat)(w w':World):Prop where
 os:w'.os=w.os
 tape:w'.tape=w.tape
 output:w'.output=w.output
 size:w.heap.size<=w'.heap.size
 block:∀k,k<B->k≠b->w'.heap[k]?=w.heap[k]?
section
variable {B b:Nat} {w w' a:World}
theorem But.refl(B b:Nat)(w:World):But B b w w:=⟨rfl,rfl,rfl,Nat.le_refl _,fun _ _ _=>rfl⟩
theorem But.trans{c:World}(h:But B b a w)(k:But B b w c):But B b a c:=
 ⟨k.os.trans h.os,k.tape.trans h.tape,k.output.trans h.output,Nat.le_trans h.size k.size,fun i hi hb=>(k.block i hi hb).trans (h.block i hi hb)⟩
theorem But.drew(h:But B b a w):But B b a w.drew:=⟨h.os,h.tape,h.output,h.size,h.block⟩
theorem But.of(h:Below B w w'):But B b w w':=⟨h.os,h.tape,h.output,h.size,fun k hk _=>h.block k hk⟩
theorem But.W(h:But B b w w')(hB:B<=b):Below B w w':=⟨h.os,h.tape,h.output,h.size,fun k hk=>h.block k hk (by omega)⟩
theorem But.mono{B':Nat}(h:But B b w w')(hB:B'<=B):But B' b w w':=⟨h.os,h.tape,h.output,h.size,fun k hk=>h.block k (by omega)⟩
theorem But.alloc(h:But B b a w)(hB:B<=w.heap.size)(o:Obj):But B b a (w.alloc o):=
 h.trans (.of ((Below.refl B w).alloc hB o))
theorem But.setCell(h:But B b a w){p:Addr}(hp:p.block=b\/B<=p.block)(u:Value):But B b a (w.setCell p u):=
 h.trans ⟨rfl,rfl,rfl,by simp[World.setCell],fun k hk hb=>Below.heap_setCell _ _ _ _ (by omega)⟩
theorem But.grown{row:Option Nat}(h:But B b a w)(hg:w.grownBy w' row)(hB:B<=w.heap.size)(hr:∀k,row=some k->B<=k):But B b a w':=
 h.trans ⟨hg.os,hg.tape,hg.output,hg.size,fun k hk _=>hg.block k (by omega) (fun e=>by have:=hr k e.symm;omega)⟩
end
theorem But.low{B b:Nat}{w w':World}(h:But B b w w'){B':Nat}(hB:B'<=B)(hb:B'<=b):Below B' w w':=(h.mono hB).W hb
theorem z8o(b o k:Nat):(⟨b,o,none⟩:Addr).add k=⟨b,o+k,none⟩:=by
 unfold Addr.add
 split
 ·rename_i h;subst h;rfl
 ·rfl
theorem z8p{w:World}{ops:Array Oper}{rest:List Oper}{o:Oper}{a:Act}{Q:Exit->Act->World->Prop}(hgd:o.guard=none)(s x:Operand)
  (ho:o.op=.call {callee:=.builtin .append,args:=#[s,x],argTypes:=#[42,42]})
  (base:Nat) (v:Value) (xs:List ByteArray) (hs:a.eval s=v) (hown:q1j base v xs w)
  (wa:Option Addr) (n:Nat) (ws:List ByteArray) (hn:ws.length=n) (wc:Nat) (hx:a.eval x=.slice wa n wc) (hW:Wds w wa ws) (hnil:wa=none->n=0/\wc=0)
  (m:Nat) (hm:xs.length+n=m) (hb:m<=1000000) (hbase:base<=w.heap.size)
  (h:∀A c w',q1j base (.slice A m c) (xs++ws) w'->w.grownBy w' v.ownBlock->wpList prog ops Q rest (a.put o.dst (.slice A m c)) w'):wpList prog ops Q (o::rest) a w:=by
 subst hn hm;obtain⟨i0,hi,hz0,hz1,hz2⟩:=info_parts z3g
 have h':∀v' w',q1j base v' (xs++ws) w'->w.grownBy w' v.ownBlock->wpList prog ops Q rest (a.put o.dst v') w':=by
  intro v' w' h1 h2
  obtain⟨A,c,rfl⟩:∃A c,v'=.slice A (xs.length+ws.length) c:=by
   rcases h1.2 with⟨hv,h0⟩|⟨g,c,cur,hv,_⟩
   ·rw[List.length_append]at h0;exact⟨none,0,by rw[hv,h0]⟩
   ·rw[List.length_append]at hv;exact⟨_,c,hv⟩
  exact h A c w' h1 h2
 cases wa with
 | none=>
  obtain⟨h0,rfl⟩:=hnil rfl;obtain rfl:ws=[]:=List.eq_nil_of_length_eq_zero h0;refine wpList_append_own_none hgd s x 42 ho base 9 i0 1 Tryz.underlying42 hi v xs.length (strCells xs) hs hown hx ?_;refine h' v w ?_ ⟨rfl,rfl,rfl,Nat.le_refl _,fun _ _ _=>rfl⟩;rw[List.append_nil];exact hown
 | some ad=>
  refine wpList_append_own w hgd s x 42 ho base 9 i0 _ 1 16 Tryz.underlying42 hi hz0 hz1 hz2 rfl (by decide) v xs.length (strCells xs) hs hown ad ws.length wc (strCells ws) hx (by simp[strCells]) ?_ ?_ (by unfold maxLen;omega) (by omega) hbase ?_
  ·intro j u hj;have hlt:j<ws.length:=by have:=(List.getElem?_eq_some_iff.1 hj).1;simpa[strCells]using this
   obtain⟨b,o,e,_,c⟩:=hW j hlt;simp only[Option.some.injEq]at e;subst e;rw[z8o]
   have:u=.string ws[j]:=by simp[strCells,hlt]at hj;exact hj.symm
   rw[this];exact c
  ·intro u hu;obtain⟨x,_,rfl⟩:=List.mem_map.1 hu;rfl
  ·intro v' w' h1 h2 _;rw[<-q3e]at h1;refine h' v' w' ?_ h2;show w'.ownsRow _ _ _ _ _ _;rw[List.length_append];exact h1
def q4h(ks:List Int):List Value:=ks.map fun k=>.int .i64 k
theorem z3a(a b:List Int):q4h (a++b)=q4h a++q4h b:=by simp[q4h]
def k1n(B:Nat)(v:Value)(ks:List Int)(w:World):Prop:=w.ownsRow B 3 1 v ks.length (q4h ks)
theorem v4y{w:World}{ops:Array Oper}{rest:List Oper}{o:Oper}{a:Act}{Q:Exit->Act->World->Prop}(hgd:o.guard=none)(s x:Operand)
  (ho:o.op=.call {callee:=.builtin .append,args:=#[s,x],argTypes:=#[43,43]})
  (base:Nat) (v:Value) (xs:List Int) (hs:a.eval s=v) (hown:k1n base v xs w)
  (wa:Option Addr) (n:Nat) (ws:List Int) (hn:ws.length=n) (wc:Nat) (hx:a.eval x=.slice wa n wc) (hW:z1r w wa ws) (hnil:wa=none->n=0/\wc=0)
  (m:Nat) (hm:xs.length+n=m) (hb:m<=1000000) (hbase:base<=w.heap.size)
  (h:∀A c w',k1n base (.slice A m c) (xs++ws) w'->w.grownBy w' v.ownBlock->wpList prog ops Q rest (a.put o.dst (.slice A m c)) w'):wpList prog ops Q (o::rest) a w:=by
 subst hn hm;obtain⟨i0,hi,hz0,hz1,hz2⟩:=info_parts z7k
 have h':∀v' w',k1n base v' (xs++ws) w'->w.grownBy w' v.ownBlock->wpList prog ops Q rest (a.put o.dst v') w':=by
  intro v' w' h1 h2
  obtain⟨A,c,rfl⟩:∃A c,v'=.slice A (xs.length+ws.length) c:=by
   rcases h1.2 with⟨hv,h0⟩|⟨g,c,cur,hv,_⟩
   ·rw[List.length_append]at h0;exact⟨none,0,by rw[hv,h0]⟩
   ·rw[List.length_append]at hv;exact⟨_,c,hv⟩
  exact h A c w' h1 h2
 cases wa with
 | none=>
  obtain⟨h0,rfl⟩:=hnil rfl;obtain rfl:ws=[]:=List.eq_nil_of_length_eq_zero h0;refine wpList_append_own_none hgd s x 43 ho base 3 i0 1 Tryz.underlying43 hi v xs.length (q4h xs) hs hown hx ?_;refine h' v w ?_ ⟨rfl,rfl,rfl,Nat.le_refl _,fun _ _ _=>rfl⟩;rw[List.append_nil];exact hown
 | some ad=>
  refine wpList_append_own w hgd s x 43 ho base 3 i0 _ 1 8 Tryz.underlying43 hi hz0 hz1 hz2 rfl (by decide) v xs.length (q4h xs) hs hown ad ws.length wc (q4h ws) hx (by simp[q4h]) ?_ ?_ (by unfold maxLen;omega) (by omega) hbase ?_
  ·intro j u hj;have hlt:j<ws.length:=by have:=(List.getElem?_eq_some_iff.1 hj).1;simpa[q4h]using this
   obtain⟨b,o,e,_,c⟩:=hW j hlt;simp only[Option.some.injEq]at e;subst e;rw[z8o]
   have:u=.int .i64 ws[j]:=by simp[q4h,hlt]at hj;exact hj.symm
   rw[this];exact c
  ·intro u hu;obtain⟨x,_,rfl⟩:=List.mem_map.1 hu;rfl
  ·intro v' w' h1 h2 _;rw[<-z3a]at h1;refine h' v' w' ?_ h2;show w'.ownsRow _ _ _ _ _ _;rw[List.length_append];exact h1
inductive Tag (k:Nat):Type
 | mk
inductive Sel {α:Type} (k:Nat) (a b:α):Type
 | mk
def sel{α:Type}{k:Nat}(_:Tag k)(a b:α):Sel k a b:=.mk
def z3n{k:Nat}(_:Tag k)(a b:Nat):Sel k a b:=.mk
instance{α:Type}(a b:α)(s:Sel 0 a b):CoeDep (Sel 0 a b) s α:=⟨a⟩
instance{α:Type}(a b:α)(s:Sel 1 a b):CoeDep (Sel 1 a b) s α:=⟨b⟩
inductive y9h (o:Int):Type
 | mk
instance(o:Int)(t:y9h o):CoeDep (y9h o) t Int:=⟨o⟩
theorem g2x(s:List UInt8):(tkW s).length<=q0t s:=by
 unfold tkW;refine Nat.le_trans (z1l _) ?_;rw[List.length_take];omega
theorem z9t:∀(n:Nat)(s:List UInt8)(i:Nat),s.length<=n->((lxW s i).map fun x=>x.2.length).sum<=s.length
 | 0,s,i,h=>by
  have:s=[]:=List.eq_nil_of_length_eq_zero (by omega)
  subst this;rw[lxW,q9c];simp
 | n+1,s,i,h=>by
  cases s with
  | nil=>rw[lxW,q9c];simp
  | cons c r=>
   cases hs:spB c with
   | true=>
    have ih:=z9t n r (i+1) (by simp at h;omega);rw[lxW,k3l r i hs];rw[lxW]at ih;simp only[List.length_cons];omega
   | false=>
    cases ho:q5f (c::r)with
    | false=>rw[lxW,j0m i hs ho];simp
    | true=>
     have hp:=q5a c r;have hle:=z1j (c::r);have ih:=z9t n ((c::r).drop (q0t (c::r))) (i+q0t (c::r)) (by simp only[List.length_drop];omega);have hw:=g2x (c::r);rw[List.length_drop]at ih;rw[lxW,z7t i hs ho];simp only[List.map_cons,List.sum_cons];omega
theorem v3s(s:List UInt8):((q1d s).map List.length).sum<=s.length:=by
 have h:=z9t s.length s 0 Zl;rw[q1d,List.map_map];exact h
def szW(W:List Wd):Nat:=(W.map fun x=>x.length+1).sum
theorem k7m(a b:List Wd):szW (a++b)=szW a+szW b:=by simp[szW]
theorem q1u(x:Wd)(b:List Wd):szW (x::b)=x.length+1+szW b:=by simp[szW]
theorem k0o:∀W:List Wd,W.length<=szW W
 | []=>Nat.zero_le _
 | x::r=>by have:=k0o r;rw[q1u,List.length_cons];omega
theorem y5n:∀W:List Wd,(jb W).length<=szW W
 | []=>Nat.zero_le _
 | x::r=>by
  have:=y5n r
  rw[q1u];cases r with
  | nil=>simp[jb];omega
  | cons y r=>
   have e:jb (x::y::r)=x++32::jb (y::r):=by simp[jb]
   rw[e,List.length_append,List.length_cons];omega
theorem z4u:∀(l cur:Wd),szW (Lib.fieldsGo cur l)<=2*(cur.length+l.length)
 | [],cur=>by
  cases cur with
  | nil=>simp[Lib.fieldsGo,szW]
  | cons a z=>simp[Lib.fieldsGo,szW];omega
 | c::l,cur=>by
  cases hs:Lib.isSp c with
  | true=>
   have ih:=z4u l [];cases cur with
   | nil=>
    rw[Lib.fieldsGo_sp _ _ hs];simp only[List.length_nil,List.length_cons]at ih⊢;omega
   | cons a z=>
    rw[Lib.fieldsGo_end _ _ _ hs (by simp),q1u];simp only[List.length_nil,List.length_cons]at ih⊢;omega
  | false=>
   have ih:=z4u l (cur++[c]);rw[Lib.fieldsGo_more _ _ _ hs];simp only[List.length_append,List.length_cons,List.length_nil]at ih⊢;omega
theorem g0s(w:Wd):szW (q9u w)<=2*w.length:=by
 have:=z4u (w.drop 1) []
 rw[List.length_drop]at this;simp only[List.length_nil]at this;show szW (Lib.fieldsGo [] (w.drop 1))<=_;omega
theorem j8e:∀nts:List Wd,szW (nts.flatMap q9u)<=2*(nts.map List.length).sum
 | []=>Nat.zero_le _
 | x::r=>by
  have h1:=j8e r;have h2:=g0s x;rw[List.flatMap_cons,k7m,List.map_cons,List.sum_cons];omega
theorem v9s(ws:List Wd)(p k:Nat):(((ws.drop p).take k).map List.length).sum<=(ws.map List.length).sum:=by
 have e:ws=ws.take p++((ws.drop p).take k++(ws.drop p).drop k):=by rw[List.take_append_drop,List.take_append_drop]
 have h:=congrArg (fun l=>(l.map List.length).sum) e;simp only[List.map_append,List.sum_append]at h;omega
structure q4l(s:ByteArray)(w:World)(i:Nat)(dn:List (Nat × List UInt8))(A P:Option Addr)(ac pc:Nat)(wr:World):Prop where
 b:Below w w wr
 le:i<=s.size
 ln:dn.length<=i
 eq:lx (btL s) 0=(dn++lxW ((btL s).drop i) i,lxF ((btL s).drop i) i)
 ws:wr.ownsRow w.heap.size 9 1 (.slice A dn.length ac) dn.length (strCells (dn.map fun x=>wbS x.2))
 ps:wr.ownsRow w.heap.size 3 1 (.slice P dn.length pc) dn.length (q2f (dn.map (·.1)))
theorem q4l.space{s:ByteArray}{w:World}{i:Nat}{dn:List (Nat × List UInt8)}{A P:Option Addr}{ac pc:Nat}{wr:World}(h:q4l s w i dn A P ac pc wr)(hi:i<s.size)(hs:spB s[i]=true):q4l s w (i+1) dn A P ac pc wr:=by
 have e:=h.eq;rw[q2c hi,lxW,lxF,k3l _ _ hs]at e;exact{b:=h.b,le:=hi,ln:=by have:=h.ln;omega,eq:=e,ws:=h.ws,ps:=h.ps}
theorem j9o{s:ByteArray}{w:World}{i:Nat}{dn:List (Nat × List UInt8)}{A P:Option Addr}{ac pc:Nat}{wr:World}(h:q4l s w i dn A P ac pc wr)(hi:i<s.size)(hs:spB s[i]=false)(ho:tOk s i=false):lxF (btL s) 0=some i:=by
 have e:=h.eq;rw[tOk,q2c hi]at ho;rw[q2c hi,lxW,lxF,j0m _ hs ho]at e;rw[lxF,e]
theorem q4l.word{s:ByteArray}{w:World}{i:Nat}{dn:List (Nat × List UInt8)}{A P:Option Addr}{ac pc:Nat}{wr:World}(h:q4l s w i dn A P ac pc wr)(hi:i<s.size)(hs:spB s[i]=false)(ho:tOk s i=true){A' P':Option Addr}{ac' pc':Nat}{w':World}(hb:Below w w w')
  (h1:w'.ownsRow w.heap.size 9 1 (.slice A' (dn.length+1) ac') (dn.length+1) (strCells (dn.map fun x=>wbS x.2)++[.string (wbS (tkW ((btL s).drop i)))])) (h2:w'.ownsRow w.heap.size 3 1 (.slice P' (dn.length+1) pc') (dn.length+1) (q2f (dn.map (·.1))++[.int .i64 (i:Int)])):
  q4l s w (i+v2t s i) (dn++[(i,tkW ((btL s).drop i))]) A' P' ac' pc' w':=by
 have e:=h.eq;have hle:=g6s hi;have hd:((btL s).drop i).drop (v2t s i)=(btL s).drop (i+v2t s i):=by rw[List.drop_drop]
 have ho':q5f (s[i]::(btL s).drop (i+1))=true:=by rw[<-q2c hi];exact ho
 have e2:lx ((btL s).drop i) i=((i,tkW ((btL s).drop i))::lxW ((btL s).drop (i+v2t s i)) (i+v2t s i),lxF ((btL s).drop (i+v2t s i)) (i+v2t s i)):=by
  rw[<-hd,v2t,q2c hi];exact z7t i hs ho'
 rw[lxW,lxF,e2]at e;refine{b:=hb,le:=hle.2,ln:=by have:=h.ln;simp;omega,eq:=by rw[e];simp,ws:=?_,ps:=?_}
 ·rw[List.length_append,List.map_append,q3e];exact h1
 ·rw[List.length_append,List.map_append,z3d];exact h2
theorem v7i{L:List UInt8}{k:Nat}(h:L.length<=60000)(hf:lxF L 0=some k):q4s L=5/\k1l L=k:=by
 have e:q4s L=5:=by rw[q4s,if_neg (by omega),hf];rfl
 exact⟨e,by rw[k1l,if_pos e,hf];rfl⟩
theorem j9m{L:List UInt8}(h:L.length<=60000)(hf:lxF L 0=none)(hm:300<many (q1d L)):q4s L=3/\k1l L=0:=by
 have e:q4s L=3:=by rw[q4s,if_neg (by omega),hf,if_neg (by simp),if_pos hm]
 exact⟨e,by rw[k1l,e];rfl⟩
theorem j9n{L:List UInt8}(h:L.length<=60000)(hf:lxF L 0=none)(hm:¬300<many (q1d L)):q4s L=0/\k1l L=0:=by
 have e:q4s L=0:=by rw[q4s,if_neg (by omega),hf,if_neg (by simp),if_neg hm]
 exact⟨e,by rw[k1l,e];rfl⟩
theorem j9l{L:List UInt8}(h:60000<L.length):q4s L=3/\k1l L=0:=by
 have e:q4s L=3:=by rw[q4s,if_pos h]
 exact⟨e,by rw[k1l,e];rfl⟩
theorem j9p{s:ByteArray}{w:World}{i:Nat}{dn:List (Nat × List UInt8)}{A P:Option Addr}{ac pc:Nat}{wr:World}(h:q4l s w i dn A P ac pc wr)(hi:¬i<s.size):lxF (btL s) 0=none/\lxW (btL s) 0=dn:=by
 have e:=h.eq;rw[List.drop_eq_nil_of_le (by rw[q0b];omega),lxW,lxF,q9c,List.append_nil]at e;rw[lxF,lxW,e];exact⟨rfl,rfl⟩
theorem v7y{s:ByteArray}{k:Nat}(h:k<s.size)(hs:spB s[k]=false):many [tkW ((btL s).drop k)]=if s[k] != 35 then 1 else 0:=by
 have h1:∃z,tkW ((btL s).drop k)=s[k]::z:=by
  rw[tkW,q2c h];have hp:=q5a s[k] ((btL s).drop (k+1));obtain⟨m,hm⟩:∃m,q0t (s[k]::(btL s).drop (k+1))=m+1:=⟨_,(Nat.sub_add_cancel hp).symm⟩;rw[hm,List.take_succ_cons];exact z2y (j3u hs) _
 obtain⟨z,hz⟩:=h1;rw[hz];have hn:z2p (s[k]::z)=(s[k] != 35):=rfl;cases hh:(s[k] != 35)with
 | true=>rw[many,List.filter_cons_of_pos (by rw[hn];exact hh)];rfl
 | false=>rw[many,List.filter_cons_of_neg (by rw[hn,hh];decide)];rfl
def g6r(L:List UInt8):List Int:=(z8a L).map fun(k:Nat)=>(k:Int)
def g6t(L:List UInt8):List ByteArray:=(q1d L).map wbS
theorem j3g{B:Nat}{w:World}{A:Option Addr}{n c:Nat}{ks:List Nat}(h:z1w B (.slice A n c) ks w):z1r w A (ks.map fun(k:Nat)=>(k:Int)):=by
 intro j hj;rw[List.length_map]at hj;obtain⟨g,rfl,hg,hc⟩:=z7x h j hj;exact⟨g,0,rfl,hg,by rw[Nat.zero_add,List.getElem_map];exact hc⟩
theorem v1k{w:World}{B e n m c:Nat}{A:Option Addr}{xs:List Value}(h:w.ownsRow B e 1 (.slice A m c) n xs):m=n/\m<=c/\(A=none->m=0/\c=0):=by
 rcases h.2 with⟨hv,h0⟩|⟨g,c',cur,hv,_,hg,hnc,_,hsz,htake⟩
 ·simp only[Value.slice.injEq]at hv;obtain⟨rfl,rfl,rfl⟩:=hv;exact⟨h0.symm,Nat.le_refl _,fun _=>⟨rfl,rfl⟩⟩
 ·simp only[Value.slice.injEq]at hv;obtain⟨rfl,rfl,rfl⟩:=hv;exact⟨rfl,by omega,fun h=>by cases h⟩
structure g6f(L:List UInt8)(A P:Option Addr)(ac pc:Nat)(w:World):Prop where
 ws:Wds w A (g6t L)
 ps:z1r w P (g6r L)
 wl:(q1d L).length<=ac
 pl:(q1d L).length<=pc
 wn:A=none->(q1d L).length=0/\ac=0
 pn:P=none->(q1d L).length=0/\pc=0
theorem y8m{L:List UInt8}{B:Nat}{A P:Option Addr}{ac pc:Nat}{w:World}(h1:q1j B (.slice A (q1d L).length ac) ((q1d L).map wbS) w)(h2:z1w B (.slice P (q1d L).length pc) (z8a L) w):g6f L A P ac pc w:=by
 obtain⟨_,a2,a3⟩:=v1k h1;obtain⟨_,b2,b3⟩:=v1k h2;exact{ws:=q6g h1,ps:=j3g h2,wl:=a2,pl:=b2,wn:=a3,pn:=b3}
theorem z9m{L:List UInt8}(h:q4s L=0):(q1d L).length<=60000:=Nat.le_trans (v3r L) (q4v h).1
def k9b(s:ByteArray)(e:Ending)(w':World):Prop:=
 (q4s (btL s)≠0/\e=.returned (.tuple #[.slice none 0 0,.slice none 0 0,.int .i64 ((k1l (btL s):Nat):Int),q0s (q4s (btL s))]))\/
 (q4s (btL s)=0/\∃A P ac pc,e=.returned (.tuple #[.slice A (q1d (btL s)).length ac,.slice P (q1d (btL s)).length pc,.int .i64 0,.nilIface])/\g6f (btL s) A P ac pc w')
end Go.Proofs.YthcpdohdppkmkaaGreatDoor
