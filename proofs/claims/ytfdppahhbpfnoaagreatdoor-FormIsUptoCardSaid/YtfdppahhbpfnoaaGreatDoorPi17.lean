import Derived.Test.YtfdppahhbpfnoaaGreatDoorPi11
import Derived.Test.YtfdppahhbpfnoaaGreatDoorShg
import Derived.Defers
import Derived.Lib.LaidTab
import Derived.Test.YtfdppahhbpfnoaaGreatDoorPi12
import Derived.Test.YtfdppahhbpfnoaaGreatDoorPi08
import Derived.BigRegion
import Derived.Laws.Strings2
import Derived.Lib.AppendZerosOnto
import Derived.Lib.SliceRun
open Go.Proofs.Tryz
namespace Go.Proofs.YtfdppahhbpfnoaaGreatDoor
open Go Go.RowKit
def z3k(s:ByteArray)(W:World)(e:Ending)(w':World):Prop:=∃ps k f A c,e=.returned (.tuple #[.slice A ps.length c,.int .i64 k,q1v f])/\q6r s ps k f/\Prg w' A ps/\ps.length<=c/\Below W W w'
set_option maxRecDepth 100000
set_option maxHeartbeats 1000000
def j1n (w : World) : Prop := Lib.TabIs prog w "internal/strconv.uint64pow10" .u64 Lib.pow10Tab
structure z2u(w:World):Prop where
 pow:j1n w
 spc : Lib.TabIs prog w "strings.asciiSpace" .u8 Lib.asciiSpaceTab
theorem k2p{n:String}{k:IntKind}{zs:List Int}{w w':World}{g:Nat}(hg:prog.globalNamed n=some g)(h:Lib.TabIs prog w n k zs)(hb:Below w w w'):Lib.TabIs prog w' n k zs:=by
 unfold Lib.TabIs World.var? at h⊢;rw[hg]at h⊢;simp only[Option.bind_some]at h⊢
 have B:g<w.heap.size:=by
  rcases Nat.lt_or_ge g w.heap.size with A|A
  ·exact A
  ·rw[Array.getElem?_eq_none A]at h;cases h
 rw[hb.block g B];exact h
theorem j1n.W{w w':World}(h:j1n w)(hb:Below w w w'):j1n w':=k2p (g:=4) (by kernel_rfl) h hb
theorem z2u.W{w w':World}(h:z2u w)(hb:Below w w w'):z2u w':=
 ⟨h.pow.W hb,k2p (g:=1) (by kernel_rfl) h.spc hb⟩
theorem q4b(w:World)(o:Obj):Below w w (w.alloc o):= Zb.alloc Zl _
theorem k3b(w:World)(o:Obj):Below w w (w.alloc o).drew:=(q4b w o).drew
theorem y2a{w:World}{b o c:Nat}{x:Td}{ds:List Td}(h:Tds w (some ⟨b,o,none⟩) (x::ds))(hc:(x::ds).length<=c):
  ∃A,(∀W:World,(Instr.slice 22 (.slice (some ⟨b,o,none⟩) (x::ds).length c) (some (.int .i64 1)) none none).run prog W=.ok (.slice A ds.length (c-1)) W)/\Tds w A ds:=by
 refine⟨if c=1 then some ⟨b,o,none⟩else some ⟨b,o+3,none⟩,fun W=>?_,?_⟩
 ·rw[run_slice_l W 22 _ (x::ds).length c Tryz.underlying22 .i64 1 (by omega) (by simp only[List.length_cons];omega)];have I:(sizeOf (prog.elem 22)).run prog W=.ok 3 W:=by kernel_rfl
  rw[I];have H:(⟨b,o,none⟩:Addr).add 3=⟨b,o+3,none⟩:=rfl;simp[Result.andThen,sliced,H]
 ·by_cases e:c=1
  ·have:ds=[]:=List.eq_nil_of_length_eq_zero (by simp only[List.length_cons]at hc;omega)
   rw[this];exact Tds.nil _ _
  ·rw[if_neg e];intro i K;obtain⟨J,L,G,B,C,D,E⟩:=h (i+1) (by simp only[List.length_cons];omega);simp only[Option.some.injEq,Addr.mk.injEq,and_true]at G;obtain⟨rfl,rfl⟩:=G;simp only[List.getElem_cons_succ]at C D E;refine⟨b,o+3,rfl,B,?_,?_,?_⟩
   ·rw[show o+3+i*3=o+(i+1)*3 by omega];exact C
   ·rw[show o+3+i*3+1=o+(i+1)*3+1 by omega];exact D
   ·rw[show o+3+i*3+2=o+(i+1)*3+2 by omega];exact E
structure Wy(w0:World)(b:Nat)(bs:List UInt8)(ds:List Td)(w:World)(A:Option Addr)(c:Nat):Prop where
 x:IsX 91 w0.heap.size b (Lib.byteCells bs) [.slice A ds.length c] w
 le:ds.length<=c
 td:Tds w0 A ds
 bl:Below w0 w0 w
 lt:w0.heap.size<=b
theorem z7x(a b:List UInt8):Lib.byteCells (a++b)=Lib.byteCells a++Lib.byteCells b:=by simp[Lib.byteCells]
theorem IsX.grew{T B b:Nat}{bs R:List Value}{w w':World}(h:IsX T B b bs R w)(hb:Below w w w'):IsX T B b bs R w':=by
 have C:∀p,XAt T B b p bs R w->XAt T B b p bs R w':=by
  rintro p⟨v,D,A,G,H⟩;refine⟨v,(hb.block b ?_).trans D,A.kept (row:=none) ⟨hb.os,hb.tape,hb.output,hb.size,fun k D _=>hb.block k D⟩ (by cases I:v.ownBlock<;>simp),G,H⟩;rcases Nat.lt_or_ge b w.heap.size with E|E
  ·exact E
  ·simp[Array.getElem?_eq_none E]at D
 exact h.imp (C _) (C _)
theorem Wy.grew{w0:World}{b:Nat}{bs:List UInt8}{ds:List Td}{w w':World}{A:Option Addr}{c:Nat}(h:Wy w0 b bs ds w A c)(hb:Below w w w'):Wy w0 b bs ds w' A c:=
 ⟨h.x.grew hb,h.le,h.td,q0d h.bl Zl hb,h.lt⟩
theorem j6o(x:Td)(op:Int)(A:op=5\/op=6)(s:Bool)(w:World):Calls prog 206 #[.int .i64 x.op,.int .i64 op,.bool s] w fun e w'=>e=.returned (.bool (decide (prc x<(op-5).toNat+s.toNat)))/\w'=w:=by
 have D:prc x=if x.op=5 then 0 else if x.op=6 then 1 else 2:=rfl
 rw[D];generalize x.op=k;clear D;by_cases B:k=5
 ·subst B;rcases A with rfl|rfl<;>cases s
  all_goals
   go_in;go_wp2;go_ret;exact⟨rfl,rfl⟩
 ·by_cases C:k=6
  ·subst C;rcases A with rfl|rfl<;>cases s
   all_goals
    go_in;go_wp2;go_ret;exact⟨rfl,rfl⟩
  ·rw[if_neg B,if_neg C];have E:(k==5)=false:=by simp[B]
   have G:(k==6)=false:=by simp[C]
   rcases A with rfl|rfl<;>cases s
   all_goals
    go_in;go_wp2;go_ret;exact⟨rfl,rfl⟩
set_option maxHeartbeats 8000000
theorem k6s(oq:Int)(ho:oq=7\/oq=8)(bp be bf s o n cap i:Nat)(x1:Int)(f1:Bool)(w:World)(hn:n<=400)(hi:(i:Int)<n)(A:(i:Int)+1<n)(h1:bp≠be)(h2:bp≠bf)(h3:be≠bf)(h4:s≠be)(h5:s≠bf)
  (c0:w.cell? ⟨bp,0,none⟩=some (.slice (some ⟨s,o,none⟩) n cap)) (c1:w.cell? ⟨bp,1,none⟩=some (.slice (some ⟨be,0,none⟩) n n)) (c2:w.cell? ⟨bp,2,none⟩=some (.slice (some ⟨bf,0,none⟩) n n))
  (d1:w.cell? ⟨s,o+i*3,none⟩=some (.int .i64 oq))
  (e1:w.cell? ⟨be,i+1,none⟩=some (.int .i64 x1))
  (e3:w.cell? ⟨bf,i+1,none⟩=some (.bool f1))
  (y1 y2:Value) (e5:w.cell? ⟨be,i,none⟩=some y1) (e6:w.cell? ⟨bf,i,none⟩=some y2) (z1:w.frozen? ⟨be,i,none⟩=false) (z2:w.frozen? ⟨bf,i,none⟩=false):
  Calls prog 90 #[.pointer (some ⟨bp,0,none⟩),.int .i64 i] w fun e w'=>e=.returned (.tuple #[])/\z2t be bf i (.int .i64 x1) (.bool f1) w w':=by
 have G:y2q oq:=.mk;rcases ho with rfl|rfl
 all_goals
  have E:=j1h hn hi;have C:(0:Int)<=(i:Int)+1:=by omega
  have B:(0:Int)<=(i:Int):=by omega
  have D:((i:Int)+1).toNat=i+1:=by omega
  go_in;go_wp2_with fail
  go_region_held3 (fun w'=>w'.cell? ⟨bp,0,none⟩=some (.slice (some ⟨s,o,none⟩) n cap)/\w'.cell? ⟨bp,1,none⟩=some (.slice (some ⟨be,0,none⟩) n n)/\w'.cell? ⟨bp,2,none⟩=some (.slice (some ⟨bf,0,none⟩) n n)/\w'.cell? ⟨s,o+i*3,none⟩=some (.int .i64 ↑G)/\w'.cell? ⟨be,i+1,none⟩=some (.int .i64 x1)/\w'.cell? ⟨bf,i+1,none⟩=some (.bool f1))
   (first|exact⟨c0,c1,c2,d1,e1,e3⟩|exact⟨(cso (by omega)).trans c0,(cso (by omega)).trans c1,(cso (by omega)).trans c2,(cso (by omega)).trans d1,(cso (by omega)).trans e1,(cso (by omega)).trans e3⟩|exact⟨(cso (by omega)).trans ((cso (by omega)).trans c0),(cso (by omega)).trans ((cso (by omega)).trans c1),(cso (by omega)).trans ((cso (by omega)).trans c2),(cso (by omega)).trans ((cso (by omega)).trans d1),(cso (by omega)).trans ((cso (by omega)).trans e1),(cso (by omega)).trans ((cso (by omega)).trans e3)⟩) (fail)
  all_goals
   go_wp2
   go_end0
   exact⟨rfl,rfl,rfl,rfl,rfl⟩
structure LwK where
 gw:Nat
 cw:Nat
 ga:Nat
 ca:Nat
structure Ry(K:LwK)(ws:List Wd)(pl:Nat->Nat)(b q:Nat)(w:World):Prop where
 le:q<=ws.length
 c0:w.cell? ⟨b,0,none⟩=some (.slice (some ⟨K.gw,q,none⟩) (ws.length+1-q) (K.cw-q))
 c1:w.cell? ⟨b,1,none⟩=some (.slice (some ⟨K.ga,q,none⟩) (ws.length+1-q) (K.ca-q))
 row:z9v w b 2
 wd:∀i,i<=ws.length->w.cell? ⟨K.gw,i,none⟩=some (.string (wbS (ws.getD i [])))
 pt:∀i,i<=ws.length->w.cell? ⟨K.ga,i,none⟩=some (.int .i64 (pl i:Int))
 nw:K.gw≠b
 na:K.ga≠b
 lw:ws.length<K.cw
 la:ws.length<K.ca
 few:ws.length<=60000
section
variable {K:LwK} {ws:List Wd} {pl:Nat→Nat} {b q:Nat} {w w':World}
theorem Ry.gwlt(h:Ry K ws pl b q w):K.gw<w.heap.size:=World.block_lt_of_cell? _ _ (h.wd 0 (Nat.zero_le _))
theorem Ry.galt(h:Ry K ws pl b q w):K.ga<w.heap.size:=World.block_lt_of_cell? _ _ (h.pt 0 (Nat.zero_le _))
theorem Ry.keepB{B:Nat}(h:Ry K ws pl b q w)(hb:Below B w w')(h1:b<B)(h2:K.gw<B)(h3:K.ga<B):Ry K ws pl b q w':=
 ⟨h.le,(hb.cell (p:=⟨b,0,none⟩) h1).trans h.c0,(hb.cell (p:=⟨b,1,none⟩) h1).trans h.c1,h.row.kept (hb.block b h1),fun i hi=>(hb.cell (p:=⟨K.gw,i,none⟩) h2).trans (h.wd i hi),fun i hi=>(hb.cell (p:=⟨K.ga,i,none⟩) h3).trans (h.pt i hi),h.nw,h.na,h.lw,h.la,h.few⟩
theorem Ry.keep(h:Ry K ws pl b q w)(hb:Below w w w'):Ry K ws pl b q w':=h.keepB hb h.row.lt h.gwlt h.galt
theorem Ry.step(h:Ry K ws pl b q w)(hq:q<ws.length){w':World}(A:w'=(w.setCell ⟨b,0,none⟩ (.slice (some ⟨K.gw,q+1,none⟩) (ws.length-q) (K.cw-q-1))).setCell ⟨b,1,none⟩ (.slice (some ⟨K.ga,q+1,none⟩) (ws.length-q) (K.ca-q-1))):Ry K ws pl b (q+1) w':=by
 subst A;have B:ws.length+1-(q+1)=ws.length-q:=by omega
 refine⟨hq,?_,?_,h.row.set.set,fun i hi=>?_,fun i hi=>?_,h.nw,h.na,h.lw,h.la,h.few⟩
 ·rw[B,Nat.sub_add_eq];exact(cso (.inr (by omega))).trans (css h.c0)
 ·rw[B,Nat.sub_add_eq];exact css ((cso (.inr (by omega))).trans h.c1)
 ·exact(cso (.inl h.nw.symm)).trans ((cso (.inl h.nw.symm)).trans (h.wd i hi))
 ·exact(cso (.inl h.na.symm)).trans ((cso (.inl h.na.symm)).trans (h.pt i hi))
end
theorem q3x{ws:List Wd}{q:Nat}(h:q<ws.length):ws.getD q []=ws[q]:=by simp[h]
theorem q6x{ws:List Wd}{q:Nat}(h:ws.length<=q):ws.getD q []=[]:=by simp[h]
theorem q6o{K:LwK}{ws:List Wd}{pl:Nat->Nat}{b q:Nat}{w:World}(h:Ry K ws pl b q w):
  Calls prog 80 #[.pointer (some ⟨b,0,none⟩)] w fun e w'=>e=.returned (.string (wbS (ws.getD q [])))/\w'=w:=by
 have A:=h.c0;have B:=h.wd q h.le;generalize wbS (ws.getD q [])=S at B⊢;have C:0<ws.length+1-q:=by have:=h.le;omega
 generalize ws.length+1-q=n at A C;generalize K.cw-q=c at A;clear h;go_in;go_wp2;go_ret;exact⟨rfl,rfl⟩
theorem v5e(b o n c:Nat)(hn:1<=n)(hc:1<c)(W:World):
  (Instr.slice 58 (.slice (some ⟨b,o,none⟩) n c) (some (.int .i64 1)) none none).run prog W=.ok (.slice (some ⟨b,o+1,none⟩) (n-1) (c-1)) W:=by
 rw[run_slice_l W 58 _ n c Tryz.underlying58 .i64 1 (by omega) (by omega)];have C:(sizeOf (prog.elem 58)).run prog W=.ok 1 W:=by kernel_rfl
 rw[C];have B:(⟨b,o,none⟩:Addr).add 1=⟨b,o+1,none⟩:=rfl;have A:¬c=1:=by omega
 simp[Result.andThen,sliced,B,A]
theorem v3a(b o n c:Nat)(hn:1<=n)(hc:1<c)(W:World):
  (Instr.slice 45 (.slice (some ⟨b,o,none⟩) n c) (some (.int .i64 1)) none none).run prog W=.ok (.slice (some ⟨b,o+1,none⟩) (n-1) (c-1)) W:=by
 rw[run_slice_l W 45 _ n c Tryz.underlying45 .i64 1 (by omega) (by omega)];have C:(sizeOf (prog.elem 45)).run prog W=.ok 1 W:=by kernel_rfl
 rw[C];have B:(⟨b,o,none⟩:Addr).add 1=⟨b,o+1,none⟩:=rfl;have A:¬c=1:=by omega
 simp[Result.andThen,sliced,B,A]
theorem q8l{K:LwK}{ws:List Wd}{pl:Nat->Nat}{b q:Nat}{w:World}(h:Ry K ws pl b q w)(hq:q<ws.length):
  Calls prog 175 #[.pointer (some ⟨b,0,none⟩)] w fun e w'=>e=.returned (.string (wbS ws[q]))/\Ry K ws pl b (q+1) w'/\But w b w w':=by
 have G:=h.c0;have I:=h.c1;have J:=h.wd q h.le;rw[q3x hq]at J;have P:w.frozen? ⟨b,0,none⟩=false:=h.row.frozen;have Q:w.frozen? ⟨b,1,none⟩=false:=h.row.frozen;have H:=hid h;have O:=h.lw;have N:=h.la;generalize wbS ws[q]=S at J⊢;have D:Hid (ws.length+1-q-1=ws.length-q):=(show _=_ by omega);have E:1<=ws.length+1-q:=by omega
 have B:=v5e K.gw q (ws.length+1-q) (K.cw-q) E (by omega);have C:=v3a K.ga q (ws.length+1-q) (K.ca-q) E (by omega);rw[D.o]at B C;generalize ws.length+1-q=n at G I B C E
 have A:Hid (∀w',w'=(w.setCell ⟨b,0,none⟩ (.slice (some ⟨K.gw,q+1,none⟩) (ws.length-q) (K.cw-q-1))).setCell ⟨b,1,none⟩ (.slice (some ⟨K.ga,q+1,none⟩) (ws.length-q) (K.ca-q-1))->Ry K ws pl b (q+1) w'/\But w b w w'):=fun w' hw=>⟨H.o.step hq hw,by
  subst hw
  exact((But.refl _ _ _).setCell (p:=⟨b,0,none⟩) (.inl rfl) _).setCell (p:=⟨b,1,none⟩) (.inl rfl) _⟩
 generalize ws.length-q=m at B C A;generalize K.cw-q=cw at G B A;generalize K.ca-q=ca at I C A;clear h O N hq;go_in;go_wp2_with fail
 go_region
 go_wp2;go_ret;obtain⟨L,M⟩:=A.o _ rfl;exact⟨rfl,L.keep (Below.drew Zb),M.drew⟩
abbrev q4u(k:Nat):PanicEntry:={v:=.iface 137 (.agg #[.int .i64 (k:Int)]),recovered:=false}
theorem k2r{K:LwK}{ws:List Wd}{pl:Nat->Nat}{b q:Nat}{w:World}(h:Ry K ws pl b q w):
  Calls prog 177 #[.pointer (some ⟨b,0,none⟩)] w fun e w'=>e=.panicked [q4u (pl q)]/\w'=w:=by
 have A:=h.c1;have C:=h.pt q h.le;have B:0<ws.length+1-q:=by have:=h.le;omega
 generalize ws.length+1-q=n at A B;generalize K.ca-q=c at A;clear h;go_in;go_wp2;exact⟨rfl,rfl,rfl⟩
theorem z5l(s:Wd)(lo hi:Nat)(w:World)(h1:1<=lo):
  Calls prog 202 #[.string (wbS s),.int .u8 (lo:Int),.int .u8 (hi:Int)] w fun e w'=>e=.returned (.bool (decide (lo<=(s.headD 0).toNat)&&decide ((s.headD 0).toNat<=hi)))/\w'=w:=by
 cases s with
 | nil=>
  have J:(decide (lo<=(([]:Wd).headD 0).toNat)&&decide ((([]:Wd).headD 0).toNat<=hi))=false:=by
   have:¬lo<=(([]:Wd).headD 0).toNat:=by show ¬lo<=0;omega
   simp only[decide_eq_false this,Bool.false_and]
  rw[J];have L:wbS []=⟨#[]⟩:=rfl;rw[L];clear J;go_in;go_wp2;go_ret;exact⟨rfl,rfl⟩
 | cons c r=>
  have D:0<(wbS (c::r)).size:=by rw[<-q0c];show 0<(c::r).length;simp
  have B:∀h:0<(wbS (c::r)).size,(wbS (c::r))[0]=c:=fun _=>rfl
  have H:¬(wbS (c::r)).toList=[]:=by rw[Lib.toList_data];show ¬(c::r)=[];simp
  have C:((wbS (c::r)).toList==[])=false:=by rw[Lib.toList_data];rfl
  have O:(⟨#[]⟩:ByteArray).toList=[]:=by rw[Lib.toList_data]
  show Calls _ _ _ _ fun e w'=>e=.returned (.bool (decide (lo<=c.toNat)&&decide (c.toNat<=hi)))/\w'=w
  have E:Hid (∀(a b:Bool),a=decide ((lo:Int)<=(c.toNat:Int))->b=decide ((c.toNat:Int)<=(hi:Int))->(decide (lo<=c.toNat)&&decide (c.toNat<=hi))=(a&&b)):=fun a b ha hb=>by
   subst ha hb;have M:decide ((lo:Int)<=(c.toNat:Int))=decide (lo<=c.toNat):=by congr 1;simp
   have N:decide ((c.toNat:Int)<=(hi:Int))=decide (c.toNat<=hi):=by congr 1;simp
   rw[M,N]
  generalize(decide (lo<=c.toNat)&&decide (c.toNat<=hi))=R at E⊢
  generalize wbS (c::r)=S at D B H C⊢;have K:=B D;clear B;by_cases G:(lo:Int)<=(c.toNat:Int)
  ·by_cases I:(c.toNat:Int)<=(hi:Int)
   ·have A:=E.o true true (decide_eq_true G).symm (decide_eq_true I).symm;simp only[Bool.and_self]at A;subst A;go_in;go_wp2;go_ret;exact⟨rfl,rfl⟩
   ·have A:=E.o true false (decide_eq_true G).symm (decide_eq_false I).symm;simp only[Bool.and_false]at A;subst A;go_in;go_wp2;go_ret;exact⟨rfl,rfl⟩
  ·have A:=E.o false (decide ((c.toNat:Int)<=(hi:Int))) (decide_eq_false G).symm rfl;simp only[Bool.false_and]at A;subst A;go_in;go_wp2;go_ret;exact⟨rfl,rfl⟩
theorem j1i(s:Wd)(w:World):Calls prog 227 #[.string (wbS s)] w fun e w'=>e=.returned (.bool (z0j s))/\w'=w:=by
 have A:Hid (∀W,Calls prog 202 #[.string (wbS s),.int .u8 48,.int .u8 57] W fun e w'=>e=.returned (.bool (z0j s))/\w'=W):=fun W=>z5l s 48 57 W (by omega)
 generalize z0j s=R at A⊢;go_in;go_wp2_with fail;refine(A.o _).mono ?_;rintro e B⟨rfl,rfl⟩;go_wp2;go_ret;exact⟨rfl,rfl⟩
theorem y4j:nmW z1x=false:=by decide
theorem k5p(s:Wd)(hs:s=[]\/q3b s)(w:World):Calls prog 176 #[.string (wbS s)] w fun e w'=>e=.returned (.bool (nmW s))/\w'=w:=by
 by_cases B:s=z1x
 ·subst B;rw[y4j];have G:wbS z1x=⟨#[108,101,116]⟩:=rfl;rw[G];clear hs;go_in;go_wp2;go_ret;exact⟨rfl,rfl⟩
 ·have E:nmW s=q2b (s.headD 0):=by
   rcases hs with rfl|hs
   ·decide
   ·rw[v5r hs];simp[B]
  rw[E];have C:Hid (∀W,Calls prog 202 #[.string (wbS s),.int .u8 97,.int .u8 122] W fun e w'=>e=.returned (.bool (q2b (s.headD 0)))/\w'=W):=fun W=>z5l s 97 122 W (by omega)
  have A:((wbS s).toList==[108,101,116])=false:=by
   rw[Lib.toList_data]
   show(s==[108,101,116])=false
   simpa using B
  have D:¬(wbS s).toList=[108,101,116]:=by
   intro e;rw[e]at A;cases A
  have H:(⟨#[108,101,116]⟩:ByteArray).toList=[108,101,116]:=by rw[Lib.toList_data]
  generalize q2b (s.headD 0)=R at C⊢;generalize wbS s=S at C D A⊢;clear hs E B;go_in;go_wp2_with fail;refine(C.o _).mono ?_;rintro e I⟨rfl,rfl⟩;go_wp2;go_ret;exact⟨rfl,rfl⟩
theorem z5n(s:Wd)(w:World):Calls prog 125 #[.string (wbS s)] w fun e w'=>e=.returned (.bool (decide (s.headD 0=35)))/\w'=w:=by
 have A:Hid (∀W,Calls prog 144 #[.string (wbS s),.string ⟨#[35]⟩] W fun e w'=>e=.returned (.bool (decide (s.headD 0=35)))/\w'=W):=fun W=>by
  have h:=hasPrefix_sh (wbS s) ⟨#[35]⟩ W
  have B:Lib.hasPrefix (wbS s).data.toList (⟨#[35]⟩:ByteArray).data.toList=decide (s.headD 0=35):=by
   show Lib.hasPrefix s [35]=_;cases s with
   | nil=>decide
   | cons c r=>
    show([35]:Wd).isPrefixOf (c::r)=decide (c=35)
    simp only[List.isPrefixOf,Bool.and_true];rw[Bool.eq_iff_iff,beq_iff_eq,decide_eq_true_eq];exact⟨Eq.symm,Eq.symm⟩
  rw[B]at h;exact h
 generalize decide (s.headD 0=35)=R at A⊢;go_in;go_wp2_with fail;refine(A.o _).mono ?_;rintro e C⟨rfl,rfl⟩;go_wp2;go_ret;exact⟨rfl,rfl⟩
section
variable {K:LwK} {ws:List Wd} {pl:Nat→Nat} {b q:Nat} {w:World}
theorem y5q(a c:Wd):((wbS a).toList==(wbS c).toList)=(a==c):=by
 rw[Lib.toList_data,Lib.toList_data];rfl
theorem q7n(h:Ry K ws pl b q w)(s:Wd)(hs:ws[q]?=some s):
  Calls prog 127 #[.pointer (some ⟨b,0,none⟩),.string (wbS s)] w fun e w'=>e=.returned (.bool true)/\Ry K ws pl b (q+1) w'/\But w b w w':=by
 obtain⟨C,B⟩:=List.getElem?_eq_some_iff.1 hs
 have E:Hid (Calls prog 80 #[.pointer (some ⟨b,0,none⟩)] w fun e w'=>e=.returned (.string (wbS s))/\w'=w):=by
  have A:=q6o h;rw[q3x C,B]at A;exact A
 have D:Hid (Calls prog 175 #[.pointer (some ⟨b,0,none⟩)] w fun e w'=>e=.returned (.string (wbS s))/\Ry K ws pl b (q+1) w'/\But w b w w'):=by
  have A:=q8l h C;rw[B]at A;exact A
 have J:((wbS s).toList==(wbS s).toList)=true:=by simp
 generalize wbS s=S at E D J⊢;clear h hs C B;go_in;go_wp2_with fail;refine E.o.mono ?_;rintro e L⟨rfl,rfl⟩;go_wp2_with fail;refine D.o.mono ?_;rintro e M⟨rfl,H,G⟩;have I:=hid (And.intro H G);clear H G;go_wp2;go_ret;exact⟨rfl,I.o⟩
theorem q8k(h:Ry K ws pl b q w)(s:Wd)(h0:s≠[])(hs:ws[q]?≠some s):
  Calls prog 127 #[.pointer (some ⟨b,0,none⟩),.string (wbS s)] w fun e w'=>e=.returned (.bool false)/\w'=w:=by
 have C:Hid (Calls prog 80 #[.pointer (some ⟨b,0,none⟩)] w fun e w'=>e=.returned (.string (wbS (ws.getD q [])))/\w'=w):=q6o h
 have B:((wbS (ws.getD q [])).toList==(wbS s).toList)=false:=by
  rw[y5q];by_cases D:q<ws.length
  ·rw[q3x D];rw[List.getElem?_eq_getElem D]at hs;simpa using hs
  ·rw[q6x (by omega)];cases s with
   | nil=>exact absurd rfl h0
   | cons=>rfl
 have A:¬(wbS (ws.getD q [])).toList=(wbS s).toList:=by
  intro e;rw[e]at B;simp at B
 generalize wbS (ws.getD q [])=X at C B A;generalize wbS s=S at B A⊢;clear h hs h0;go_in;go_wp2_with fail;refine C.o.mono ?_;rintro e E⟨rfl,rfl⟩;go_wp2;go_ret;exact⟨rfl,rfl⟩
theorem q6n(h:Ry K ws pl b q w)(s:Wd)(hs:ws[q]?=some s):
  Calls prog 129 #[.pointer (some ⟨b,0,none⟩),.string (wbS s)] w fun e w'=>e=.returned (.tuple #[])/\Ry K ws pl b (q+1) w'/\But w b w w':=by
 have A:Hid (Calls prog 127 #[.pointer (some ⟨b,0,none⟩),.string (wbS s)] w fun e w'=>e=.returned (.bool true)/\Ry K ws pl b (q+1) w'/\But w b w w'):=q7n h s hs;generalize wbS s=S at A⊢;clear h hs;go_in;go_wp2_with fail;refine A.o.mono ?_;rintro e E⟨rfl,C,B⟩;have D:=hid (And.intro C B);clear C B;go_wp2
 go_end0
 exact⟨rfl,D.o⟩
theorem q7o(h:Ry K ws pl b q w)(s:Wd)(h0:s≠[])(hs:ws[q]?≠some s):
  Calls prog 129 #[.pointer (some ⟨b,0,none⟩),.string (wbS s)] w fun e w'=>e=.panicked [q4u (pl q)]/\w'=w:=by
 have A:Hid (Calls prog 127 #[.pointer (some ⟨b,0,none⟩),.string (wbS s)] w fun e w'=>e=.returned (.bool false)/\w'=w):=q8k h s h0 hs;have B:Hid (Calls prog 177 #[.pointer (some ⟨b,0,none⟩)] w fun e w'=>e=.panicked [q4u (pl q)]/\w'=w):=k2r h;generalize wbS s=S at A⊢;clear h hs h0;go_in;go_wp2_with fail;refine A.o.mono ?_;rintro e C⟨rfl,rfl⟩;go_wp2_with fail;refine B.o.mono ?_;rintro e C⟨rfl,rfl⟩;go_wp2;exact⟨rfl,rfl,rfl⟩
end
theorem v0y(n:Nat)(h1:0<n)(hn:n<=1000000)(w:World):
  Calls prog 226 #[.slice none 0 0,.int .i64 (n:Int)] w fun e w'=>∃c,e=.returned (.slice (some ⟨w,0,none⟩) 0 c)/\q0w w (.slice (some ⟨w,0,none⟩) 0 c) [] w'/\Below w w w':=by
 obtain⟨J,M,E,I,C⟩:=info_parts j9r
 have B:∀ty,(Builtin.append_ #[22,3] ty #[.slice none 0 0,.int .i64 (n:Int)]).run prog w=
   .ok (.slice (some ⟨w,0,none⟩) n (grownCap w n 0 47)) (w.drew.alloc (.cells (#[]++Builtin.zeroCells (Value.agg #[.int .i64 0,.string ⟨#[]⟩,.int .i64 0]).cells n++Builtin.zeroCells (Value.agg #[.int .i64 0,.string ⟨#[]⟩,.int .i64 0]).cells (grownCap w n 0 47-n)) 47)):=fun ty=>by
  have D:(Builtin.firstCells J.size 0 (.slice none 0 0)).run prog w.drew=.ok ([]:List Value).toArray w.drew:=run_firstCells_none w.drew J.size 0 0 0;have h:=Lib.run_append_grow_zeros w 22 3 ty 47 J _ .i64 .i64 Tryz.underlying22 Tryz.underlying3 M E none 0 0 [] D n h1 (by omega) (by omega) (by omega) (by rw[C];omega) (growslice_fits (by omega) (by rw[C];omega));simp only[Nat.zero_add]at h;exact h
 have H:n<=grownCap w n 0 47:=grownCap_ge w _ _ _;have A:=grownCap_le_maxLen w n 0 47 (by unfold maxLen;omega);generalize grownCap w n 0 47=G at B H A;have L:G<=9223372036854775807:=by unfold maxLen at A;omega
 have K:Hid (q0w w (.slice (some ⟨w,0,none⟩) 0 G) [] (w.drew.alloc (.cells (#[]++Builtin.zeroCells (Value.agg #[.int .i64 0,.string ⟨#[]⟩,.int .i64 0]).cells n++Builtin.zeroCells (Value.agg #[.int .i64 0,.string ⟨#[]⟩,.int .i64 0]).cells (G-n)) 47))):=by
  refine⟨rfl,.inr ⟨w.heap.size,G,_,rfl,Nat.le_refl _,heap_alloc_new w.drew _,Nat.zero_le _,A,?_,rfl⟩⟩;simp only[Array.size_append,size_zeroCells,Array.size_empty];show 0+n*3+(G-n)*3=G*3;omega
 have N:(0:Int)<(n:Int):=by omega
 generalize(#[]++Builtin.zeroCells (Value.agg #[.int .i64 0,.string ⟨#[]⟩,.int .i64 0]).cells n++Builtin.zeroCells (Value.agg #[.int .i64 0,.string ⟨#[]⟩,.int .i64 0]).cells (G-n))=Z at B K
 clear M E I C A;go_in;go_wp2_with(at_builtin;refine Lib.wpList_append_run _ rfl _ _ _ _ rfl _ _ rfl rfl _ _ (B _) ?_);go_ret;exact⟨G,rfl,K.o,Below.drew (Zb.alloc Zl _)⟩
def y2o(w:World)(a:Option Addr)(ps:List (List Td)):Prop:=
 ∀i(h:i<ps.length),∃b o a' c',a=some ⟨b,o,none⟩/\b<w.heap.size/\w.cell? ⟨b,o+i,none⟩=some (.slice a' ps[i].length c')/\ps[i].length<=c'/\Tds w a' ps[i]/\(a'=none->ps[i].length=0/\c'=0)
theorem y2o.W{w w':World}{a:Option Addr}{ps:List (List Td)}(h:y2o w a ps)(hb:Below w w w'):y2o w' a ps:=by
 intro i I;obtain⟨b,o,B,C,e,A,D,E,G,H⟩:=h i I;exact⟨b,o,B,C,e,Nat.lt_of_lt_of_le A hb.size,(hb.cell (p:=⟨b,_,none⟩) A).trans D,E,G.W hb,H⟩
theorem k0u{ps:List (List Td)}{i:Nat}(h:i<ps.length):(ps.take (i+1)).flatten=(ps.take i).flatten++ps[i]:=by
 rw[List.take_succ_eq_append_getElem h,List.flatten_append];simp
theorem z8i(ps:List (List Td))(i:Nat):(ps.take i).flatten.length<=ps.flatten.length:=by
 have h:ps.flatten=(ps.take i).flatten++(ps.drop i).flatten:=by rw[<-List.flatten_append,List.take_append_drop]
 rw[h,List.length_append];omega
structure y6u(w:World)(ps:List (List Td))(i:Nat)(v:Value)(wr:World):Prop where
 le:i<=ps.length
 o:q0w w v (ps.take i).flatten wr
 b:Below w w wr
theorem k5o(ps:List (List Td))(a:Option Addr)(c:Nat)(w:World)(hP:y2o w a ps)(h0:0<ps.flatten.length)(hl:ps.flatten.length<=900000)(hp:ps.length<=10):
  Calls prog 203 #[.slice a ps.length c] w fun e w'=>∃A c',e=.returned (.slice A ps.flatten.length c')/\q0w w (.slice A ps.flatten.length c') ps.flatten w'/\Below w w w':=by
 have z:Hid (y2o w a ps):=hP;have u:Hid (Calls prog 226 #[.slice none 0 0,.int .i64 (ps.flatten.length:Int)] w fun e w'=>∃c,e=.returned (.slice (some ⟨w,0,none⟩) 0 c)/\q0w w (.slice (some ⟨w,0,none⟩) 0 c) [] w'/\Below w w w'):=v0y ps.flatten.length h0 (by omega) w;clear hP;generalize hN:ps.flatten.length=N at u h0 hl⊢;have P:Hid (ps.flatten.length=N):=hN;clear hN;go_in;go_wp2_with fail
 go_loopw [3,11] (fun s x wr=>w=wr/\∃i:Nat,i<=ps.length/\x=.int .i64 (i:Int)/\s=.int .i64 ((ps.take i).flatten.length:Int)) (fun _ x _=>ps.length-(intOf x).toNat)
 case atStart=>exact⟨rfl,0,Nat.zero_le _,rfl,rfl⟩
 case round=>
  obtain⟨rfl,i,hi,rfl,rfl⟩:=hrel;by_cases C:i<ps.length
  ·have K:(i:Int)<(ps.length:Int):=by omega
   obtain⟨b0,o0,Y,j,rfl,q,p,_,_,_⟩:=z.o i C;have B:=congrArg List.length (k0u C);rw[List.length_append]at B;have E:=z8i ps (i+1);rw[P.o]at E;have M:=(show Hid (_=_)from B);have V:(ps.take i).flatten.length+ps[i].length<=900000:=by omega
   clear B E;generalize ps[i].length=pn at M p V
   generalize(ps.take i).flatten.length=sn at M V⊢
   have Aa:¬(sn:Int)+(pn:Int)<0:=by omega
   go_wp2;refine⟨⟨trivial,i+1,C,by go_num,?_⟩,?_⟩
   ·rw[M.o];go_num
   ·simp[intOf];omega
  ·have K:¬(i:Int)<(ps.length:Int):=by omega
   have G:(ps.take i).flatten.length=N:=by rw[List.take_of_length_le (by omega)];exact P.o
   rw[G];clear G;go_wp2_with fail;refine u.o.mono ?_;rintro e w1⟨c1,rfl,S,b1⟩;have f:Hid (y6u w ps 0 (.slice (some ⟨w,0,none⟩) 0 c1) w1):=⟨Nat.zero_le _,S,b1⟩;clear S b1;go_wp2_with fail
   go_loopw [6,27] (fun v x w'=>∃(i:Nat)(A:Option Addr)(n c:Nat),x=.int .i64 (i:Int)/\v=.slice A n c/\n=(ps.take i).flatten.length/\y6u w ps i (.slice A n c) w') (fun _ x _=>ps.length-(intOf x).toNat)
   case atStart=>exact⟨0,_,_,_,rfl,rfl,rfl,f.o⟩
   case round=>
    obtain⟨i,A,n,l,rfl,rfl,L,O⟩:=hrel;have E:=z8i ps i;rw[P.o,<-L]at E;by_cases C:i<ps.length
    ·have K:(i:Int)<(ps.length:Int):=by omega
     obtain⟨b0,o0,Y,j,rfl,q,p,_,hT,J⟩:=z.o.W O.b i C;have B:=k0u C;have I:=z8i ps (i+1);rw[B,List.length_append,P.o,<-L]at I;have M:=(show Hid (_=_)from B);have Z:Hid (q0w w (.slice A n l) (ps.take i).flatten wr):=O.o;have d:Hid (Below w w wr):=O.b;have X:=O.b.size;have HT:Hid (Tds wr Y ps[i]):=hT;have Q:Hid (Y=none->ps[i].length=0/\j=0):=J;have y:Hid ((ps.take i).flatten.length=n):=L.symm;have g:Hid (∃m,ps[i].length=m):=⟨_,rfl⟩;generalize U:ps[i].length=pn at p I Q;have R:Hid (ps[i].length=pn):=U;clear B hT J L O U g E;go_wp2_with(at_builtin;refine q4k rfl _ _ rfl w.heap.size _ (ps.take i).flatten rfl Z.o Y pn ps[i] R.o j rfl HT.o Q.o (n+pn) (by rw[y.o]) (by omega) X ?_);intro t c3 w3 H D
     have h:Hid (y6u w ps (i+1) (.slice t (n+pn) c3) w3):=by
      refine⟨C,?_,d.o.grown D X (fun k hk=>(World.ownsRow.lt Z.o k hk).1)⟩;rw[M.o];exact H
     clear H D;go_wp2;refine⟨⟨i+1,t,n+pn,c3,by go_num,rfl,?_,h.o⟩,?_⟩
     ·rw[M.o,List.length_append,y.o,R.o]
     ·simp[intOf];omega
    ·have K:¬(i:Int)<(ps.length:Int):=by omega
     have G:ps.take i=ps:=List.take_of_length_le (by omega);obtain⟨_,r,hb⟩:=O;rw[G]at r L;rw[P.o]at L;subst L;have Z:Hid (q0w w (.slice A n l) ps.flatten wr):=r;have d:Hid (Below w w wr):=hb;clear r hb G;go_wp2;go_ret;exact⟨A,l,rfl,Z.o,d.o⟩
theorem v8k:(prog.info? 22).map (fun i=>(i.zero,i.size,i.bytes))=some (some (.slice none 0 0),1,24):=by kernel_rfl
def q3t(B:Nat)(v:Value)(ps:List (List Td))(w:World):Prop:=
 ∃hs:List Value,w.ownsRow B 22 1 v ps.length hs/\∀i(h:i<ps.length),∃g c,hs[i]?=some (.slice (some ⟨g,0,none⟩) ps[i].length c)/\q0w B (.slice (some ⟨g,0,none⟩) ps[i].length c) ps[i] w
theorem q3t.nil(B:Nat)(w:World):q3t B (.slice Option.none 0 0) [] w:=⟨[],⟨rfl,.inl ⟨rfl,rfl⟩⟩,fun i h=>by simp at h⟩
theorem q8x{B:Nat}{w:World}{g n c:Nat}{xs:List Td}(h:q0w B (.slice (some ⟨g,0,none⟩) n c) xs w):B<=g/\n<=c/\∃cur,w.heap[g]?=some (.cells cur 47 (0,0)):=by
 rcases h.2 with⟨A,_⟩|⟨H,G,cur,A,C,E,D,_⟩
 ·cases A
 ·simp only[Value.slice.injEq,Option.some.injEq,Addr.mk.injEq,and_true]at A;obtain⟨rfl,rfl,rfl⟩:=A;exact⟨C,D,cur,E⟩
theorem z9p{B:Nat}{w w':World}{g n c:Nat}{xs:List Td}(h:q0w B (.slice (some ⟨g,0,none⟩) n c) xs w)(hk:w'.heap[g]?=w.heap[g]?):q0w B (.slice (some ⟨g,0,none⟩) n c) xs w':=by
 refine⟨h.1,?_⟩;rcases h.2 with⟨C,_⟩|⟨I,E,D,C,G,H,A⟩
 ·cases C
 ·have e:=C;simp only[Value.slice.injEq,Option.some.injEq,Addr.mk.injEq,and_true]at e;obtain⟨rfl,_,_⟩:=e;exact .inr ⟨g,E,D,C,G,hk.trans H,A⟩
theorem q3t.kept{B:Nat}{v:Value}{ps:List (List Td)}{w w':World}(h:q3t B v ps w)(hk:∀g,B<=g->g<w.heap.size->w'.heap[g]?=w.heap[g]?):q3t B v ps w':=by
 obtain⟨L,D,K⟩:=h;refine⟨L,⟨D.1,?_⟩,fun i hi=>?_⟩
 ·rcases D.2 with J|⟨g,c,C,M,E,G,A⟩
  ·exact .inl J
  ·exact .inr ⟨g,c,C,M,E,(hk g E (Array.getElem?_eq_some_iff.1 G).1).trans G,A⟩
 ·obtain⟨g,c,H,I⟩:=K i hi;exact⟨g,c,H,I.kept hk⟩
theorem q3t.but{B b:Nat}{v:Value}{ps:List (List Td)}{w w':World}(h:q3t B v ps w)(hb:But w b w w')(hB:b<B):q3t B v ps w':=h.kept fun g h1 h2=>hb.block g h2 (by omega)
theorem q3t.cell{B:Nat}{A:Option Addr}{n c:Nat}{ps:List (List Td)}{w:World}(h:q3t B (.slice A n c) ps w):n=ps.length/\n<=c/\(A=none->n=0/\c=0)/\∀i(h:i<ps.length),∃go g c',A=some ⟨go,0,none⟩/\B<=go/\z9v w go c/\w.cell? ⟨go,i,none⟩=some (.slice (some ⟨g,0,none⟩) ps[i].length c')/\q0w B (.slice (some ⟨g,0,none⟩) ps[i].length c') ps[i] w:=by
 obtain⟨Q,L,M⟩:=h;rcases L.2 with⟨D,K⟩|⟨go,P,E,D,N,I,G,_,O,C⟩
 ·simp only[Value.slice.injEq]at D;obtain⟨rfl,rfl,rfl⟩:=D;exact⟨K.symm,Nat.le_refl _,fun _=>⟨rfl,rfl⟩,fun i hi=>by omega⟩
 ·simp only[Value.slice.injEq]at D;obtain⟨rfl,rfl,rfl⟩:=D;refine⟨rfl,G,(fun e=>by cases e),fun i hi=>?_⟩;obtain⟨g,c',H,J⟩:=M i hi;refine⟨go,g,c',rfl,N,⟨E,_,I,by omega⟩,?_,J⟩;rw[<-C,List.getElem?_take_of_lt (by omega)]at H;simp only[World.cell?,I];simpa using H
theorem q3t.prg{B:Nat}{A:Option Addr}{n c:Nat}{ps:List (List Td)}{w:World}(h:q3t B (.slice A n c) ps w):Prg w A ps:=by
 intro i H;obtain⟨E,g,D,e,_,I,G,C⟩:=h.cell.2.2.2 i H;exact⟨E,0,_,D,e,I.lt,by rw[Nat.zero_add];exact G,(q8x C).2.1,C.tds⟩
theorem z8z{B:Nat}{w:World}{v:Value}{n:Nat}{hs:List Value}(h:w.ownsRow B 22 1 v n hs){k:Nat}(hk:v.ownBlock=some k):∃cur,w.heap[k]?=some (.cells cur 22 (0,0)):=by
 rcases h.2 with⟨rfl,_⟩|⟨g,c,cur,rfl,_,A,_⟩
 ·cases hk
 ·have:g=k:=by simpa[Value.ownBlock]using hk
  subst this;exact⟨cur,A⟩
theorem z7t{w:World}{L:Array Oper}{C:List Oper}{o:Oper}{a:Act}{Q:Exit->Act->World->Prop}(P:o.guard=none)(s x:Operand)
  (ho:o.op=.call {callee:=.builtin .append,args:=#[s,x],argTypes:=#[33,33]})
  (base:Nat) (v:Value) (ps:List (List Td)) (hs:a.eval s=v) (J:q3t base v ps w)
  (b0 g n c:Nat) (t:List Td) (hn:t.length=n) (hx:a.eval x=.slice (some ⟨b0,0,none⟩) 1 1) (hc:w.cell? ⟨b0,0,none⟩=some (.slice (some ⟨g,0,none⟩) n c)) (hT:q0w base (.slice (some ⟨g,0,none⟩) n c) t w)
  (m:Nat) (hm:ps.length+1=m) (hb:m<=1000000) (E:base<=w.heap.size)
  (h:∀A c' w',q3t base (.slice A m c') (ps++[t]) w'->w.grownBy w' v.ownBlock->wpList prog L Q C (a.put o.dst (.slice A m c')) w'):wpList prog L Q (o::C) a w:=by
 subst hn hm;obtain⟨z,R,V,W,X⟩:=info_parts v8k;obtain⟨K,O,y⟩:=J;refine wpList_append_own w P s x 33 ho base 22 z _ 1 24 Tryz.underlying33 R V W X rfl (by decide) v ps.length K hs O ⟨b0,0,none⟩ 1 1 [.slice (some ⟨g,0,none⟩) t.length c] hx rfl ?_ (by intro u l;simp at l;subst l;rfl) (by unfold maxLen;omega) (by omega) E ?_
 ·intro j u U;cases j with
  | zero=>
   simp at U;subst U;rw[z2y];exact hc
  | succ j=>simp at U
 ·intro v' w' d f _
  have B:∀{D Y c':Nat}{Z:List Td},q0w base (.slice (some ⟨D,0,none⟩) Y c') Z w->q0w base (.slice (some ⟨D,0,none⟩) Y c') Z w':=by
   intro D Y c' Z G;obtain⟨_,_,N,H⟩:=q8x G;refine z9p G (f.block D (Array.getElem?_eq_some_iff.1 H).1 fun e=>?_);obtain⟨b,I⟩:=z8z O e.symm;rw[H]at I;simp at I
  obtain⟨A,c',rfl⟩:∃A c',v'=.slice A (ps.length+1) c':=by
   rcases d.2 with⟨p,h0⟩|⟨D,c',N,p,_⟩
   ·omega
   ·exact⟨_,c',p⟩
  refine h A c' w' ⟨K++[.slice (some ⟨g,0,none⟩) t.length c],?_,fun i R=>?_⟩ f
  ·rw[List.length_append];exact d
  ·have k:=O.1;rw[Nat.mul_one]at k;by_cases e:i<ps.length
   ·obtain⟨D,M,q,r⟩:=y i e;rw[List.getElem_append_left e];refine⟨D,M,?_,B r⟩;rw[List.getElem?_append_left (by omega)];exact q
   ·have S:i=ps.length:=by simp at R;omega
    subst S;rw[List.getElem_append_right Zl];refine⟨g,c,?_,?_⟩
    ·rw[List.getElem?_append_right (by omega),k];simp
    ·simp only[Nat.sub_self,List.getElem_cons_zero];exact B hT
theorem q3t.last{B:Nat}{go n c:Nat}{ps:List (List Td)}{l t:List Td}{w:World}(h:q3t B (.slice (some ⟨go,0,none⟩) n c) (ps++[l]) w){g c':Nat}(hT:q0w B (.slice (some ⟨g,0,none⟩) t.length c') t w):q3t B (.slice (some ⟨go,0,none⟩) n c) (ps++[t]) (w.setCell ⟨go,ps.length,none⟩ (.slice (some ⟨g,0,none⟩) t.length c')):=by
 obtain⟨b,N,Y⟩:=h;have X:=N.1;rw[Nat.mul_one,List.length_append,List.length_singleton]at X
 have R:∀{D G c':Nat}{H:List Td},q0w B (.slice (some ⟨D,0,none⟩) G c') H w->D≠go:=by
  intro D G c' H E e;obtain⟨_,_,I,K⟩:=q8x E;obtain⟨V,O⟩:=z8z N (k:=go) rfl;rw[e,O]at K;simp at K
 have A:∀{D G c':Nat}{H:List Td}(u:Value)(j:Nat),q0w B (.slice (some ⟨D,0,none⟩) G c') H w->q0w B (.slice (some ⟨D,0,none⟩) G c') H (w.setCell ⟨go,j,none⟩ u):=by
  intro D G c' H u j E;exact z9p E (Below.heap_setCell _ _ _ _ (R E))
 refine⟨b.set ps.length (.slice (some ⟨g,0,none⟩) t.length c'),⟨by simp[X],?_⟩,fun i hi=>?_⟩
 ·rcases N.2 with⟨U,_⟩|⟨D,d,I,U,Z,a,L,Q,S,C⟩
  ·cases U
  ·have e:=U;simp only[Value.slice.injEq,Option.some.injEq,Addr.mk.injEq,and_true]at e;obtain⟨rfl,J,rfl⟩:=e;rw[List.length_append,List.length_singleton]at J L C;refine .inr ⟨go,c,I.setIfInBounds ps.length (.slice (some ⟨g,0,none⟩) t.length c'),?_,Z,?_,?_,Q,by simpa using S,?_⟩
   ·rw[List.length_append,List.length_singleton,J]
   ·simp[World.setCell,Array.getElem?_modify,a]
   ·rw[List.length_append,List.length_singleton];exact L
   ·rw[List.length_append,List.length_singleton,Array.toList_setIfInBounds,List.take_set,C]
 ·rw[List.length_append,List.length_singleton]at hi;by_cases e:i<ps.length
  ·obtain⟨D,M,W,J⟩:=Y i (by simp;omega);rw[List.getElem_append_left e]at W J⊢;refine⟨D,M,?_,A _ _ J⟩;rw[List.getElem?_set_ne (by omega)];exact W
  ·have P:i=ps.length:=by omega
   subst P;rw[List.getElem_append_right Zl];simp only[Nat.sub_self,List.getElem_cons_zero];exact⟨g,c',by rw[List.getElem?_set_self (by omega)],A _ _ hT⟩
theorem q3t.own_le{B:Nat}{v:Value}{ps:List (List Td)}{w:World}(h:q3t B v ps w){k:Nat}(hk:v.ownBlock=some k):B<=k:=by
 obtain⟨E,C,_⟩:=h;rcases C.2 with⟨rfl,_⟩|⟨g,c,A,rfl,D,_⟩
 ·cases hk
 ·have:g=k:=by simpa[Value.ownBlock]using hk
  omega
theorem v4a{B:Nat}{v:Value}{ps:List (List Td)}{w:World}(h:q3t B v ps w)(hB:B<=w.heap.size)(x:Td):
  q3t B v ps ((w.alloc (.cells #[.int .i64 x.op,.string x.tx,.int .i64 x.n] 47)).alloc (.cells #[.slice (some ⟨w,0,none⟩) 1 1] 22))/\
  q0w B (.slice (some ⟨w,0,none⟩) 1 1) [x] ((w.alloc (.cells #[.int .i64 x.op,.string x.tx,.int .i64 x.n] 47)).alloc (.cells #[.slice (some ⟨w,0,none⟩) 1 1] 22))/\
  ((w.alloc (.cells #[.int .i64 x.op,.string x.tx,.int .i64 x.n] 47)).alloc (.cells #[.slice (some ⟨w,0,none⟩) 1 1] 22)).cell? ⟨w.heap.size+1,0,none⟩=some (.slice (some ⟨w,0,none⟩) 1 1):=by
 have D:Below w w (w.alloc (.cells #[.int .i64 x.op,.string x.tx,.int .i64 x.n] 47)):= Zb.alloc Zl _;have A:∀w0:World,∀o:Obj,Below w0 w0 (w0.alloc o):=fun w0 o=> Zb.alloc Zl _
 refine⟨(h.kept fun g _ h2=>D.block g h2).kept fun g _ h2=>(A _ _).block g h2,((q0w.one w x).down hB).kept fun g _ h2=>(A _ _).block g h2,?_⟩;have C:=cell_one_new (w.alloc (.cells #[.int .i64 x.op,.string x.tx,.int .i64 x.n] 47)) (.slice (some ⟨w,0,none⟩) 1 1) 22;rw[World.size_alloc]at C;exact C 0 _ rfl
theorem z9e{B:Nat}{v:Value}{ps:List (List Td)}{w:World}(h:q3t B v ps w){g n c:Nat}{t:List Td}(hT:q0w B (.slice (some ⟨g,0,none⟩) n c) t w):
  q3t B v ps (w.alloc (.cells #[.slice (some ⟨g,0,none⟩) n c] 22))/\q0w B (.slice (some ⟨g,0,none⟩) n c) t (w.alloc (.cells #[.slice (some ⟨g,0,none⟩) n c] 22))/\
  (w.alloc (.cells #[.slice (some ⟨g,0,none⟩) n c] 22)).cell? ⟨w,0,none⟩=some (.slice (some ⟨g,0,none⟩) n c):=by
 have A:Below w w (w.alloc (.cells #[.slice (some ⟨g,0,none⟩) n c] 22)):= Zb.alloc Zl _;exact⟨h.kept fun g _ h2=>A.block g h2,hT.kept fun g _ h2=>A.block g h2,cell_one_new w (.slice (some ⟨g,0,none⟩) n c) 22 0 _ rfl⟩
theorem z0w{B:Nat}{w:World}{A:Option Addr}{n c:Nat}{x:Td}{xs:List Td}(h:q0w B (.slice A n c) (x::xs) w):∃g,A=some ⟨g,0,none⟩:=by
 rcases h.2 with⟨_,E⟩|⟨g,G,D,C,_⟩
 ·simp at E
 ·simp only[Value.slice.injEq]at C;exact⟨g,C.1⟩
end Go.Proofs.YtfdppahhbpfnoaaGreatDoor
