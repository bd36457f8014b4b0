import Derived.Test.YtfdppahhbpfnoaaGreatDoorPi06
import Derived.Test.YtfdppahhbpfnoaaGreatDoorPi05
import Derived.BigQuiet
import Derived.Deep.QuietTactic
import Derived.Deep.RegionHeld3
import Derived.Deep.DeepCutAuto
import Derived.Test.YtfdppahhbpfnoaaGreatDoorPi02
open Go.Proofs.Tryz
namespace Go.Proofs.YtfdppahhbpfnoaaGreatDoor
open Go Go.RowKit
set_option maxRecDepth 100000
set_option maxHeartbeats 1000000
structure Rd(w:World)(b:Nat)(A:Option Addr)(c:Nat)(ws:List Wd)(at_:Nat)(bad:Bool):Prop where
 c0:w.cell? ⟨b,0,none⟩=some (.slice A ws.length c)
 c1:w.cell? ⟨b,1,none⟩=some (.int .i64 (at_:Int))
 c2:w.cell? ⟨b,2,none⟩=some (.bool bad)
 row:z9v w b 3
 wd:Wds w A (ws.map wbS)
 lt:∀ba oa,A=some ⟨ba,oa,none⟩->ba<b
theorem v0i{w:World}{A:Option Addr}{xs:List ByteArray}(h:Wds w A xs){b k:Nat}{v:Value}(lt:∀ba oa,A=some ⟨ba,oa,none⟩->ba<b):Wds (w.setCell ⟨b,k,none⟩ v) A xs:=by
 intro i D;obtain⟨ba,oa,e,B,C⟩:=h i D;exact⟨ba,oa,e,by rw[World.size_setCell];exact B,by rw[cso (.inl (by have:=lt ba oa e;omega))];exact C⟩
theorem Rd.keepB{w w':World}{b B:Nat}{A:Option Addr}{c:Nat}{ws:List Wd}{C:Nat}{D:Bool}(h:Rd w b A c ws C D)(hb:Below B w w')(hB:b<B):Rd w' b A c ws C D:=by
 refine⟨(hb.cell (p:=⟨b,0,none⟩) hB).trans h.c0,(hb.cell (p:=⟨b,1,none⟩) hB).trans h.c1,(hb.cell (p:=⟨b,2,none⟩) hB).trans h.c2,h.row.kept (hb.block b hB),?_,h.lt⟩;intro i J;obtain⟨E,H,e,G,I⟩:=h.wd i J
 have:=h.lt E H e
 exact⟨E,H,e,Nat.lt_of_lt_of_le G hb.size,(hb.cell (p:=⟨E,_,none⟩) (by show E<B;omega)).trans I⟩
theorem Rd.keep{w w':World}{b:Nat}{A:Option Addr}{c:Nat}{ws:List Wd}{at_:Nat}{bad:Bool}(h:Rd w b A c ws at_ bad)(hb:Below w w w'):Rd w' b A c ws at_ bad:=h.keepB hb h.row.lt
theorem Rd.setAt{w:World}{b:Nat}{A:Option Addr}{c:Nat}{ws:List Wd}{at_:Nat}{bad:Bool}(h:Rd w b A c ws at_ bad)(n:Nat):Rd (w.setCell ⟨b,1,none⟩ (.int .i64 (n:Int))) b A c ws n bad:=
 ⟨(cso (.inr (by omega))).trans h.c0,css h.c1,(cso (.inr (by omega))).trans h.c2,h.row.set,v0i h.wd h.lt,h.lt⟩
theorem Rd.setBad{w:World}{b:Nat}{A:Option Addr}{c:Nat}{ws:List Wd}{at_:Nat}{bad:Bool}(h:Rd w b A c ws at_ bad)(n:Bool):Rd (w.setCell ⟨b,2,none⟩ (.bool n)) b A c ws at_ n:=
 ⟨(cso (.inr (by omega))).trans h.c0,(cso (.inr (by omega))).trans h.c1,css h.c2,h.row.set,v0i h.wd h.lt,h.lt⟩
theorem y2h(a b:Wd):((wbS a).toList==(wbS b).toList)=(a==b):=by
 rw[Lib.toList_data,Lib.toList_data];rfl
theorem z2f{w:World}{b:Nat}{A:Option Addr}{c:Nat}{ws:List Wd}{B:Nat}{D:Bool}(h:Rd w b A c ws B D)(s:Wd):
  Calls prog 34 #[.pointer (some ⟨b,0,none⟩),.string (wbS s)] w fun e w'=>e=.returned (.bool (!D&&(ws[B]?==some s)))/\∃q,w'=w.drewN q:=by
 obtain⟨L,M,N,_,H,_⟩:=h;cases D with
 | true=>
  generalize wbS s=S;go_in;go_wp2_with fail
  go_quiet (fail)
  go_wp2;go_ret;exact⟨rfl,_,rfl⟩
 | false=>
  by_cases E:B<ws.length
  ·obtain⟨K,O,rfl,J,I⟩:=H B (by rw[List.length_map];exact E);rw[List.getElem_map]at I;have G:(B:Int)<(ws.length:Int):=by omega
   have C:Hid (((wbS ws[B]).toList==(wbS s).toList)=(!false&&(ws[B]?==some s))):=by
    show _=_;rw[y2h,List.getElem?_eq_getElem E];rfl
   generalize(!false&&(ws[B]?==some s))=R at C⊢
   generalize wbS s=S at C⊢;generalize wbS ws[B]=X at C I;clear H;go_in;go_wp2_with fail
   go_quiet (fail)
   go_wp2;go_ret;exact⟨by rw[<-C.o];rfl,_,rfl⟩
  ·have G:¬(B:Int)<(ws.length:Int):=by omega
   have C:Hid ((!false&&(ws[B]?==some s))=false):=by
    show _=_;rw[List.getElem?_eq_none (by omega)];rfl
   generalize(!false&&(ws[B]?==some s))=R at C⊢
   generalize wbS s=S;clear H;go_in;go_wp2_with fail
   go_quiet (fail)
   go_wp2;go_ret;exact⟨by rw[C.o];rfl,_,rfl⟩
def q1n(ws:List Wd)(at_:Nat)(bad:Bool)(s:Wd):Nat:=if(!bad&&(ws[at_]?==some s))=true then at_+1 else at_
def q0u(ws:List Wd)(at_:Nat)(bad:Bool)(s:Wd):Bool:=!(!bad&&(ws[at_]?==some s))
theorem q8e{w:World}{b:Nat}{A:Option Addr}{c:Nat}{ws:List Wd}{B:Nat}{D:Bool}(h:Rd w b A c ws B D)(hl:ws.length<=60000)(ha:B<=ws.length)(s:Wd):
  Calls prog 35 #[.pointer (some ⟨b,0,none⟩),.string (wbS s)] w fun e w'=>(∃v,e=.returned v)/\Rd w' b A c ws (q1n ws B D s) (q0u ws B D s)/\But w b w w':=by
 have E:Hid (Calls prog 34 #[.pointer (some ⟨b,0,none⟩),.string (wbS s)] w fun e w'=>e=.returned (.bool (!D&&(ws[B]?==some s)))/\∃q,w'=w.drewN q):=z2f h s;unfold q1n q0u;cases G:(!D&&(ws[B]?==some s))with
 | true=>
  have J:D=false:=by
   cases D with
   | false=>rfl
   | true=>simp at G
  subst J;rw[G]at E;simp only[if_true,Bool.not_true];have H:=hid h;obtain⟨I,L,M,C,_,_⟩:=h;have O:w.frozen? ⟨b,1,none⟩=false:=C.frozen;generalize wbS s=S at E⊢;clear C G I;go_in;go_wp2_with fail;refine E.o.mono ?_;rintro e N⟨rfl,q,rfl⟩;go_wp2
  go_end0
  refine⟨⟨_,rfl⟩,?_,?_⟩
  ·have K:=(H.o.keep (q0f (Below.refl _ w) q)).setAt (B+1);rw[show((B+1:Nat):Int)=(B:Int)+1 by omega]at K;exact K
  ·exact(But.of (q0f (Below.refl _ w) q)).setCell (p:=⟨b,1,none⟩) (.inl rfl) _
 | false=>
  rw[G]at E;simp only[Bool.false_eq_true,if_false,Bool.not_false];have H:=hid h;obtain⟨I,L,M,C,_,_⟩:=h;have P:w.frozen? ⟨b,2,none⟩=false:=C.frozen;generalize wbS s=S at E⊢;clear C G I;go_in;go_wp2_with fail;refine E.o.mono ?_;rintro e N⟨rfl,q,rfl⟩;go_wp2
  go_end0
  exact⟨⟨_,rfl⟩,(H.o.keep (q0f (Below.refl _ w) q)).setBad true,(But.of (q0f (Below.refl _ w) q)).setCell (p:=⟨b,2,none⟩) (.inl rfl) _⟩
def z2t(be bf i:Nat)(e f:Value)(w w':World):Prop:=
 w'.os=w.os/\w'.tape=w.tape/\w'.output=w.output/\w'.heap=((w.setCell ⟨be,i,none⟩ e).setCell ⟨bf,i,none⟩ f).heap
theorem j1h{i n:Nat}(hn:n<=400)(hi:(i:Int)<n):IntKind.i64.wrap ((i:Int)+1)=(i:Int)+1:=by
 rw[IntKind.wrap_i64];omega
set_option maxHeartbeats 16000000
theorem q8r(oq:Int)(ho:oq=1\/oq=2\/oq=3\/oq=5)(bp be bf s o n cap i:Nat)(w:World)(hn:n<=400)(hi:(i:Int)<n)(h1:bp≠be)(h2:bp≠bf)(h3:be≠bf)(h4:s≠be)(h5:s≠bf)
  (c0:w.cell? ⟨bp,0,none⟩=some (.slice (some ⟨s,o,none⟩) n cap)) (c1:w.cell? ⟨bp,1,none⟩=some (.slice (some ⟨be,0,none⟩) n n)) (c2:w.cell? ⟨bp,2,none⟩=some (.slice (some ⟨bf,0,none⟩) n n))
  (d1:w.cell? ⟨s,o+i*3,none⟩=some (.int .i64 oq))
  (y1 y2:Value) (e5:w.cell? ⟨be,i,none⟩=some y1) (e6:w.cell? ⟨bf,i,none⟩=some y2) (z1:w.frozen? ⟨be,i,none⟩=false) (z2:w.frozen? ⟨bf,i,none⟩=false):
  Calls prog 90 #[.pointer (some ⟨bp,0,none⟩),.int .i64 i] w fun e w'=>e=.returned (.tuple #[])/\z2t be bf i (.int .i64 ((i:Int)+1)) (.bool true) w w':=by
 have E:y2q oq:=.mk;rcases ho with rfl|rfl|rfl|rfl
 all_goals
  have D:=j1h hn hi;have B:(0:Int)<=(i:Int)+1:=by omega
  have A:(0:Int)<=(i:Int):=by omega
  have C:((i:Int)+1).toNat=i+1:=by omega
  go_in;go_wp2_with fail
  go_region_held3 (fun w'=>w'.cell? ⟨bp,0,none⟩=some (.slice (some ⟨s,o,none⟩) n cap)/\w'.cell? ⟨bp,1,none⟩=some (.slice (some ⟨be,0,none⟩) n n)/\w'.cell? ⟨bp,2,none⟩=some (.slice (some ⟨bf,0,none⟩) n n)/\w'.cell? ⟨s,o+i*3,none⟩=some (.int .i64 ↑E))
   (first|exact⟨c0,c1,c2,d1⟩|exact⟨(cso (by omega)).trans c0,(cso (by omega)).trans c1,(cso (by omega)).trans c2,(cso (by omega)).trans d1⟩|exact⟨(cso (by omega)).trans ((cso (by omega)).trans c0),(cso (by omega)).trans ((cso (by omega)).trans c1),(cso (by omega)).trans ((cso (by omega)).trans c2),(cso (by omega)).trans ((cso (by omega)).trans d1)⟩) (fail)
  all_goals
   go_wp2
   go_end0
   exact⟨rfl,rfl,rfl,rfl,rfl⟩
theorem y0o(bp be bf s o n cap i:Nat)(w:World)(hn:n<=400)(hi:(i:Int)<n)(h1:bp≠be)(h2:bp≠bf)(h3:be≠bf)(h4:s≠be)(h5:s≠bf)
  (c0:w.cell? ⟨bp,0,none⟩=some (.slice (some ⟨s,o,none⟩) n cap)) (c1:w.cell? ⟨bp,1,none⟩=some (.slice (some ⟨be,0,none⟩) n n)) (c2:w.cell? ⟨bp,2,none⟩=some (.slice (some ⟨bf,0,none⟩) n n))
  (d1:w.cell? ⟨s,o+i*3,none⟩=some (.int .i64 4))
  (y1 y2:Value) (e5:w.cell? ⟨be,i,none⟩=some y1) (e6:w.cell? ⟨bf,i,none⟩=some y2) (z1:w.frozen? ⟨be,i,none⟩=false) (z2:w.frozen? ⟨bf,i,none⟩=false):
  Calls prog 90 #[.pointer (some ⟨bp,0,none⟩),.int .i64 i] w fun e w'=>e=.returned (.tuple #[])/\z2t be bf i (.int .i64 ((i:Int)+1)) (.bool false) w w':=by
 have D:=j1h hn hi;have B:(0:Int)<=(i:Int)+1:=by omega
 have A:(0:Int)<=(i:Int):=by omega
 have C:((i:Int)+1).toNat=i+1:=by omega
 go_in;go_wp2_with fail
 go_region_held3 (fun w'=>w'.cell? ⟨bp,0,none⟩=some (.slice (some ⟨s,o,none⟩) n cap)/\w'.cell? ⟨bp,1,none⟩=some (.slice (some ⟨be,0,none⟩) n n)/\w'.cell? ⟨bp,2,none⟩=some (.slice (some ⟨bf,0,none⟩) n n)/\w'.cell? ⟨s,o+i*3,none⟩=some (.int .i64 4))
  (first|exact⟨c0,c1,c2,d1⟩|exact⟨(cso (by omega)).trans c0,(cso (by omega)).trans c1,(cso (by omega)).trans c2,(cso (by omega)).trans d1⟩|exact⟨(cso (by omega)).trans ((cso (by omega)).trans c0),(cso (by omega)).trans ((cso (by omega)).trans c1),(cso (by omega)).trans ((cso (by omega)).trans c2),(cso (by omega)).trans ((cso (by omega)).trans d1)⟩) (fail)
 all_goals
  go_wp2
  go_end0
  exact⟨rfl,rfl,rfl,rfl,rfl⟩
end Go.Proofs.YtfdppahhbpfnoaaGreatDoor
