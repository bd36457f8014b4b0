import Derived.Test.YthcpdohdppkmkaaGreatDoorPu21
open Go.Proofs.Tryz
namespace Go.Proofs.YthcpdohdppkmkaaGreatDoor
open Go Go.RowKit
theorem v9i{t:Tr}{wd:Nat}(sb g mb:Nat)(ht:t.Wf)(hn:t.sz<=400)(hw:wd<=100):∀m i c,(q0a t).length-i<=m->i<=(q0a t).length->c<=wd->j5f sb g mb wd (q0a t) i c:=by
 have hlm:=q7v t;have hLM:t.lf*(21+t.dsum)<=400000:=v0i hlm hn;have hL:t.lf<=400:=by unfold Tr.sz at hn;omega
 have hM:t.dsum<=3200:=by unfold Tr.sz at hn;omega
 have hR:(q0a t).length<=400:=by rw[q2u];exact hn
 intro m
 induction m with
 | zero=>intro i c h1 h2 h3;exact j1j sb g mb wd i c _ (by omega)
 | succ m ih=>
  intro i c h1 h2 hc;by_cases hi:i<(q0a t).length
  ·obtain⟨t',nx,dp,ks,hsp⟩:=v2k ht hi;refine v9j sb g mb wd i c _ hi hR hw hc ?_;have hat:=hsp.at
   have hV:∀ch,∃k:Cv,k=(if(q3h (q0a t) wd i c ch).np<(q0a t).length then crs (q0a t) wd (q3h (q0a t) wd i c ch).np (q3h (q0a t) wd i c ch).nc else zCv)/\k.o=(vv (q0a t) wd (q3h (q0a t) wd i c ch).np (q3h (q0a t) wd i c ch).nc).1.1/\k.l=(vv (q0a t) wd (q3h (q0a t) wd i c ch).np (q3h (q0a t) wd i c ch).nc).1.2/\k.o<=400000/\k.l<=400000:=fun ch=>by
    have hm:=v0j (ch:=ch) hsp hc hw hL hM;refine⟨_,rfl,?_⟩;by_cases hl:(q3h (q0a t) wd i c ch).np<(q0a t).length
    ·rw[if_pos hl];obtain⟨t2,nx2,dp2,ks2,hsp2⟩:=v2k ht hl;have h5:=(j7d hsp2 hm.cl).1;have h6:=g6a (wd:=wd) (c:=(q3h (q0a t) wd i c ch).nc) hsp2 hLM;rw[h5]at h6⊢;exact⟨rfl,rfl,h6⟩
    ·rw[if_neg hl,y3f (by omega)];exact⟨rfl,rfl,by simp[zCv],by simp[zCv]⟩
   have hTk:∀ch,(ch=0\/ch=1)->(t'.lg=-1->ch=1)->z6m sb g mb wd (q0a t) i c ch:=fun ch h01 hh=>by
    have hm:=v0j (ch:=ch) hsp hc hw hL hM
    have:=hm.lo
    exact v9z sb g mb hR hsp hc hw hL hM h01 hh (ih _ _ (by omega) hm.hi hm.cl) (hV ch)
   have hbd:∀ch,(tkC (q0a t) wd i c ch).o<=1000000/\(tkC (q0a t) wd i c ch).l<=1000000:=fun ch=>by
    have hm:=v0j (ch:=ch) hsp hc hw hL hM;obtain⟨k,_,h6,h7,h8,h9⟩:=hV ch
    have:=hm.bo
    have:=hm.bl
    simp only[tkC,j7f];omega
   have e1:(q2 (q1g (q0a t) i)).lg=t'.lg:=by rw[hat];rfl
   intro w S h;by_cases hlg:t'.lg=-1
   ·have ec:crs (q0a t) wd i c=tkC (q0a t) wd i c 1:=by rw[crs,if_pos (show(q1g (q0a t) i).lg=-1 by rw[hat];exact hlg)]
    rw[ec];exact k5p sb g mb hsp (by rw[e1];exact hlg) (hTk 1 (.inr rfl) fun _=>rfl) w S h
   ·have hne:((q2 (q1g (q0a t) i)).lg==-1)=false:=beq_eq_false_iff_ne.2 (by rw[e1];exact hlg);have hT0:=hTk 0 (.inl rfl) fun h=>absurd h hlg
    have hT1:=hTk 1 (.inr rfl) fun _=>rfl
    have hl':¬(q1g (q0a t) i).lg=-1:=by rw[hat];exact hlg
    cases hch:z2j (q1g (q0a t) i).nd.op with
    | false=>
     have ec:crs (q0a t) wd i c=tkC (q0a t) wd i c 0:=by rw[crs,if_neg hl',if_pos hch]
     rw[ec];exact k1y sb g mb hsp hne hch hT0 w S h
    | true=>
     by_cases hls:q1q ((tkC (q0a t) wd i c 1).o,(tkC (q0a t) wd i c 1).l) ((tkC (q0a t) wd i c 0).o,(tkC (q0a t) wd i c 0).l)
     ·have ec:crs (q0a t) wd i c=tkC (q0a t) wd i c 1:=by rw[crs,if_neg hl',if_neg (by rw[hch];simp),if_pos hls]
      rw[ec];exact z0d sb g mb hsp hne hch hT0 hT1 (hbd 0) (hbd 1) 1 (.inr ⟨rfl,decide_eq_true hls⟩) w S h
     ·have ec:crs (q0a t) wd i c=tkC (q0a t) wd i c 0:=by rw[crs,if_neg hl',if_neg (by rw[hch];simp),if_neg hls]
      rw[ec];exact z0d sb g mb hsp hne hch hT0 hT1 (hbd 0) (hbd 1) 0 (.inl ⟨rfl,decide_eq_false hls⟩) w S h
  ·exact j1j sb g mb wd i c _ (by omega)
def z3i(be bf i:Nat)(e f:Value)(w w':World):Prop:=
 w'.os=w.os/\w'.tape=w.tape/\w'.output=w.output/\w'.heap=((w.setCell ⟨be,i,none⟩ e).setCell ⟨bf,i,none⟩ f).heap
theorem j4u{i n:Nat}(hn:n<=400)(hi:(i:Int)<n):IntKind.i64.wrap ((i:Int)+1)=(i:Int)+1:=by
 rw[IntKind.wrap_i64];omega
set_option maxRecDepth 100000
set_option maxHeartbeats 16000000
theorem q8n(oq:Int)(ho:oq=1\/oq=2\/oq=3\/oq=5)(bp be bf s o n cap i:Nat)(w:World)(hn:n<=400)(hi:(i:Int)<n)(h1:bp≠be)(h2:bp≠bf)(h3:be≠bf)(h4:s≠be)(h5:s≠bf)
  (c0:w.cell? ⟨bp,0,none⟩=some (.slice (some ⟨s,o,none⟩) n cap)) (c1:w.cell? ⟨bp,1,none⟩=some (.slice (some ⟨be,0,none⟩) n n)) (c2:w.cell? ⟨bp,2,none⟩=some (.slice (some ⟨bf,0,none⟩) n n))
  (d1:w.cell? ⟨s,o+i*3,none⟩=some (.int .i64 oq))
  (y1 y2:Value) (e5:w.cell? ⟨be,i,none⟩=some y1) (e6:w.cell? ⟨bf,i,none⟩=some y2) (z1:w.frozen? ⟨be,i,none⟩=false) (z2:w.frozen? ⟨bf,i,none⟩=false):
  Calls prog 114 #[.pointer (some ⟨bp,0,none⟩),.int .i64 i] w fun e w'=>e=.returned (.tuple #[])/\z3i be bf i (.int .i64 ((i:Int)+1)) (.bool true) w w':=by
 have tg:y9h oq:=.mk;rcases ho with rfl|rfl|rfl|rfl
 all_goals
  have hw1:=j4u hn hi;have hp1:(0:Int)<=(i:Int)+1:=by omega
  have hp0:(0:Int)<=(i:Int):=by omega
  have htn:((i:Int)+1).toNat=i+1:=by omega
  go_in;go_wp2_with fail
  go_region_held3 (fun w'=>w'.cell? ⟨bp,0,none⟩=some (.slice (some ⟨s,o,none⟩) n cap)/\w'.cell? ⟨bp,1,none⟩=some (.slice (some ⟨be,0,none⟩) n n)/\w'.cell? ⟨bp,2,none⟩=some (.slice (some ⟨bf,0,none⟩) n n)/\w'.cell? ⟨s,o+i*3,none⟩=some (.int .i64 ↑tg))
   (first|exact⟨c0,c1,c2,d1⟩|exact⟨(cso (by omega)).trans c0,(cso (by omega)).trans c1,(cso (by omega)).trans c2,(cso (by omega)).trans d1⟩|exact⟨(cso (by omega)).trans ((cso (by omega)).trans c0),(cso (by omega)).trans ((cso (by omega)).trans c1),(cso (by omega)).trans ((cso (by omega)).trans c2),(cso (by omega)).trans ((cso (by omega)).trans d1)⟩) (fail)
  all_goals
   go_wp2
   go_end0
   exact⟨rfl,rfl,rfl,rfl,rfl⟩
theorem y5s(bp be bf s o n cap i:Nat)(w:World)(hn:n<=400)(hi:(i:Int)<n)(h1:bp≠be)(h2:bp≠bf)(h3:be≠bf)(h4:s≠be)(h5:s≠bf)
  (c0:w.cell? ⟨bp,0,none⟩=some (.slice (some ⟨s,o,none⟩) n cap)) (c1:w.cell? ⟨bp,1,none⟩=some (.slice (some ⟨be,0,none⟩) n n)) (c2:w.cell? ⟨bp,2,none⟩=some (.slice (some ⟨bf,0,none⟩) n n))
  (d1:w.cell? ⟨s,o+i*3,none⟩=some (.int .i64 4))
  (y1 y2:Value) (e5:w.cell? ⟨be,i,none⟩=some y1) (e6:w.cell? ⟨bf,i,none⟩=some y2) (z1:w.frozen? ⟨be,i,none⟩=false) (z2:w.frozen? ⟨bf,i,none⟩=false):
  Calls prog 114 #[.pointer (some ⟨bp,0,none⟩),.int .i64 i] w fun e w'=>e=.returned (.tuple #[])/\z3i be bf i (.int .i64 ((i:Int)+1)) (.bool false) w w':=by
 have hw1:=j4u hn hi;have hp1:(0:Int)<=(i:Int)+1:=by omega
 have hp0:(0:Int)<=(i:Int):=by omega
 have htn:((i:Int)+1).toNat=i+1:=by omega
 go_in;go_wp2_with fail
 go_region_held3 (fun w'=>w'.cell? ⟨bp,0,none⟩=some (.slice (some ⟨s,o,none⟩) n cap)/\w'.cell? ⟨bp,1,none⟩=some (.slice (some ⟨be,0,none⟩) n n)/\w'.cell? ⟨bp,2,none⟩=some (.slice (some ⟨bf,0,none⟩) n n)/\w'.cell? ⟨s,o+i*3,none⟩=some (.int .i64 4))
  (first|exact⟨c0,c1,c2,d1⟩|exact⟨(cso (by omega)).trans c0,(cso (by omega)).trans c1,(cso (by omega)).trans c2,(cso (by omega)).trans d1⟩|exact⟨(cso (by omega)).trans ((cso (by omega)).trans c0),(cso (by omega)).trans ((cso (by omega)).trans c1),(cso (by omega)).trans ((cso (by omega)).trans c2),(cso (by omega)).trans ((cso (by omega)).trans d1)⟩) (fail)
 all_goals
  go_wp2
  go_end0
  exact⟨rfl,rfl,rfl,rfl,rfl⟩
theorem j0f(oq:Int)(ho:oq=7\/oq=8)(bp be bf s o n cap i:Nat)(x1:Int)(f1:Bool)(w:World)(hn:n<=400)(hi:(i:Int)<n)(hi1:(i:Int)+1<n)(h1:bp≠be)(h2:bp≠bf)(h3:be≠bf)(h4:s≠be)(h5:s≠bf)
  (c0:w.cell? ⟨bp,0,none⟩=some (.slice (some ⟨s,o,none⟩) n cap)) (c1:w.cell? ⟨bp,1,none⟩=some (.slice (some ⟨be,0,none⟩) n n)) (c2:w.cell? ⟨bp,2,none⟩=some (.slice (some ⟨bf,0,none⟩) n n))
  (d1:w.cell? ⟨s,o+i*3,none⟩=some (.int .i64 oq))
  (e1:w.cell? ⟨be,i+1,none⟩=some (.int .i64 x1))
  (e3:w.cell? ⟨bf,i+1,none⟩=some (.bool f1))
  (y1 y2:Value) (e5:w.cell? ⟨be,i,none⟩=some y1) (e6:w.cell? ⟨bf,i,none⟩=some y2) (z1:w.frozen? ⟨be,i,none⟩=false) (z2:w.frozen? ⟨bf,i,none⟩=false):
  Calls prog 114 #[.pointer (some ⟨bp,0,none⟩),.int .i64 i] w fun e w'=>e=.returned (.tuple #[])/\z3i be bf i (.int .i64 x1) (.bool f1) w w':=by
 have tg:y9h oq:=.mk;rcases ho with rfl|rfl
 all_goals
  have hw1:=j4u hn hi;have hp1:(0:Int)<=(i:Int)+1:=by omega
  have hp0:(0:Int)<=(i:Int):=by omega
  have htn:((i:Int)+1).toNat=i+1:=by omega
  go_in;go_wp2_with fail
  go_region_held3 (fun w'=>w'.cell? ⟨bp,0,none⟩=some (.slice (some ⟨s,o,none⟩) n cap)/\w'.cell? ⟨bp,1,none⟩=some (.slice (some ⟨be,0,none⟩) n n)/\w'.cell? ⟨bp,2,none⟩=some (.slice (some ⟨bf,0,none⟩) n n)/\w'.cell? ⟨s,o+i*3,none⟩=some (.int .i64 ↑tg)/\w'.cell? ⟨be,i+1,none⟩=some (.int .i64 x1)/\w'.cell? ⟨bf,i+1,none⟩=some (.bool f1))
   (first|exact⟨c0,c1,c2,d1,e1,e3⟩|exact⟨(cso (by omega)).trans c0,(cso (by omega)).trans c1,(cso (by omega)).trans c2,(cso (by omega)).trans d1,(cso (by omega)).trans e1,(cso (by omega)).trans e3⟩|exact⟨(cso (by omega)).trans ((cso (by omega)).trans c0),(cso (by omega)).trans ((cso (by omega)).trans c1),(cso (by omega)).trans ((cso (by omega)).trans c2),(cso (by omega)).trans ((cso (by omega)).trans d1),(cso (by omega)).trans ((cso (by omega)).trans e1),(cso (by omega)).trans ((cso (by omega)).trans e3)⟩) (fail)
  all_goals
   go_wp2
   go_end0
   exact⟨rfl,rfl,rfl,rfl,rfl⟩
theorem v7e(bp be bf s o n cap i j:Nat)(x2:Int)(f2:Bool)(w:World)(hn:n<=400)(hi:(i:Int)<n)(hi1:(i:Int)+1<n)(hj:(j:Int)<n)(hij:i+1<j)(h1:bp≠be)(h2:bp≠bf)(h3:be≠bf)(h4:s≠be)(h5:s≠bf)
  (c0:w.cell? ⟨bp,0,none⟩=some (.slice (some ⟨s,o,none⟩) n cap)) (c1:w.cell? ⟨bp,1,none⟩=some (.slice (some ⟨be,0,none⟩) n n)) (c2:w.cell? ⟨bp,2,none⟩=some (.slice (some ⟨bf,0,none⟩) n n))
  (d1:w.cell? ⟨s,o+i*3,none⟩=some (.int .i64 6))
  (e1:w.cell? ⟨be,i+1,none⟩=some (.int .i64 (j:Int)))
  (e2:w.cell? ⟨be,j,none⟩=some (.int .i64 x2))
  (e3:w.cell? ⟨bf,i+1,none⟩=some (.bool true))
  (e4:w.cell? ⟨bf,j,none⟩=some (.bool f2))
  (y1 y2:Value) (e5:w.cell? ⟨be,i,none⟩=some y1) (e6:w.cell? ⟨bf,i,none⟩=some y2) (z1:w.frozen? ⟨be,i,none⟩=false) (z2:w.frozen? ⟨bf,i,none⟩=false):
  Calls prog 114 #[.pointer (some ⟨bp,0,none⟩),.int .i64 i] w fun e w'=>e=.returned (.tuple #[])/\z3i be bf i (.int .i64 x2) (.bool f2) w w':=by
 have hw1:=j4u hn hi;have hp1:(0:Int)<=(i:Int)+1:=by omega
 have hp0:(0:Int)<=(i:Int):=by omega
 have htn:((i:Int)+1).toNat=i+1:=by omega
 have hpj:(0:Int)<=(j:Int):=by omega
 go_in;go_wp2_with fail
 go_region_held3 (fun w'=>w'.cell? ⟨bp,0,none⟩=some (.slice (some ⟨s,o,none⟩) n cap)/\w'.cell? ⟨bp,1,none⟩=some (.slice (some ⟨be,0,none⟩) n n)/\w'.cell? ⟨bp,2,none⟩=some (.slice (some ⟨bf,0,none⟩) n n)/\w'.cell? ⟨s,o+i*3,none⟩=some (.int .i64 6)/\w'.cell? ⟨be,i+1,none⟩=some (.int .i64 (j:Int))/\w'.cell? ⟨be,j,none⟩=some (.int .i64 x2)/\w'.cell? ⟨bf,i+1,none⟩=some (.bool true)/\w'.cell? ⟨bf,j,none⟩=some (.bool f2))
  (first|exact⟨c0,c1,c2,d1,e1,e2,e3,e4⟩|exact⟨(cso (by omega)).trans c0,(cso (by omega)).trans c1,(cso (by omega)).trans c2,(cso (by omega)).trans d1,(cso (by omega)).trans e1,(cso (by omega)).trans e2,(cso (by omega)).trans e3,(cso (by omega)).trans e4⟩|exact⟨(cso (by omega)).trans ((cso (by omega)).trans c0),(cso (by omega)).trans ((cso (by omega)).trans c1),(cso (by omega)).trans ((cso (by omega)).trans c2),(cso (by omega)).trans ((cso (by omega)).trans d1),(cso (by omega)).trans ((cso (by omega)).trans e1),(cso (by omega)).trans ((cso (by omega)).trans e2),(cso (by omega)).trans ((cso (by omega)).trans e3),(cso (by omega)).trans ((cso (by omega)).trans e4)⟩) (fail)
 all_goals
  go_wp2
  go_end0
  exact⟨rfl,rfl,rfl,rfl,rfl⟩
theorem v7d(bp be bf s o n cap i j:Nat)(x2:Int)(f2:Bool)(w:World)(hn:n<=400)(hi:(i:Int)<n)(hi1:(i:Int)+1<n)(hj:(j:Int)<n)(_hij:i+1<j)(h1:bp≠be)(h2:bp≠bf)(h3:be≠bf)(h4:s≠be)(h5:s≠bf)
  (c0:w.cell? ⟨bp,0,none⟩=some (.slice (some ⟨s,o,none⟩) n cap)) (c1:w.cell? ⟨bp,1,none⟩=some (.slice (some ⟨be,0,none⟩) n n)) (c2:w.cell? ⟨bp,2,none⟩=some (.slice (some ⟨bf,0,none⟩) n n))
  (d1:w.cell? ⟨s,o+i*3,none⟩=some (.int .i64 6))
  (e1:w.cell? ⟨be,i+1,none⟩=some (.int .i64 (j:Int)))
  (e2:w.cell? ⟨be,j,none⟩=some (.int .i64 x2))
  (e3:w.cell? ⟨bf,i+1,none⟩=some (.bool false))
  (_e4:w.cell? ⟨bf,j,none⟩=some (.bool f2))
  (y1 y2:Value) (e5:w.cell? ⟨be,i,none⟩=some y1) (e6:w.cell? ⟨bf,i,none⟩=some y2) (z1:w.frozen? ⟨be,i,none⟩=false) (z2:w.frozen? ⟨bf,i,none⟩=false):
  Calls prog 114 #[.pointer (some ⟨bp,0,none⟩),.int .i64 i] w fun e w'=>e=.returned (.tuple #[])/\z3i be bf i (.int .i64 x2) (.bool false) w w':=by
 have hw1:=j4u hn hi;have hp1:(0:Int)<=(i:Int)+1:=by omega
 have hp0:(0:Int)<=(i:Int):=by omega
 have htn:((i:Int)+1).toNat=i+1:=by omega
 have hpj:(0:Int)<=(j:Int):=by omega
 have q0:=(cso (W:=w) (v:=.int .i64 x2) (b:=be) (o:=i) (by omega)).trans c0;have q1:=(cso (W:=w) (v:=.int .i64 x2) (b:=be) (o:=i) (by omega)).trans c1;have q2:=(cso (W:=w) (v:=.int .i64 x2) (b:=be) (o:=i) (by omega)).trans c2;have q3:=(cso (W:=w) (v:=.int .i64 x2) (b:=be) (o:=i) (by omega)).trans e3;have q6:=(cso (W:=w) (v:=.int .i64 x2) (b:=be) (o:=i) (by omega)).trans e6;have qf:=(csf (W:=w) (v:=.int .i64 x2) (a:=⟨be,i,none⟩)).trans z2;go_in;go_wp2_with fail
 go_region
 all_goals
  go_wp2
  go_end0
  exact⟨rfl,rfl,rfl,rfl,rfl⟩
theorem y5t(bp be bf s o n cap i j:Nat)(x2:Int)(f1:Bool)(w:World)(hn:n<=400)(hi:(i:Int)<n)(hi1:(i:Int)+1<n)(hj:(j:Int)<n)(hij:i+1<j)(h1:bp≠be)(h2:bp≠bf)(h3:be≠bf)(h4:s≠be)(h5:s≠bf)
  (c0:w.cell? ⟨bp,0,none⟩=some (.slice (some ⟨s,o,none⟩) n cap)) (c1:w.cell? ⟨bp,1,none⟩=some (.slice (some ⟨be,0,none⟩) n n)) (c2:w.cell? ⟨bp,2,none⟩=some (.slice (some ⟨bf,0,none⟩) n n))
  (d1:w.cell? ⟨s,o+i*3,none⟩=some (.int .i64 9))
  (e1:w.cell? ⟨be,i+1,none⟩=some (.int .i64 (j:Int)))
  (e2:w.cell? ⟨be,j,none⟩=some (.int .i64 x2))
  (e3:w.cell? ⟨bf,i+1,none⟩=some (.bool f1))
  (y1 y2:Value) (e5:w.cell? ⟨be,i,none⟩=some y1) (e6:w.cell? ⟨bf,i,none⟩=some y2) (z1:w.frozen? ⟨be,i,none⟩=false) (z2:w.frozen? ⟨bf,i,none⟩=false):
  Calls prog 114 #[.pointer (some ⟨bp,0,none⟩),.int .i64 i] w fun e w'=>e=.returned (.tuple #[])/\z3i be bf i (.int .i64 x2) (.bool f1) w w':=by
 have hw1:=j4u hn hi;have hp1:(0:Int)<=(i:Int)+1:=by omega
 have hp0:(0:Int)<=(i:Int):=by omega
 have htn:((i:Int)+1).toNat=i+1:=by omega
 have hpj:(0:Int)<=(j:Int):=by omega
 go_in;go_wp2_with fail
 go_region_held3 (fun w'=>w'.cell? ⟨bp,0,none⟩=some (.slice (some ⟨s,o,none⟩) n cap)/\w'.cell? ⟨bp,1,none⟩=some (.slice (some ⟨be,0,none⟩) n n)/\w'.cell? ⟨bp,2,none⟩=some (.slice (some ⟨bf,0,none⟩) n n)/\w'.cell? ⟨s,o+i*3,none⟩=some (.int .i64 9)/\w'.cell? ⟨be,i+1,none⟩=some (.int .i64 (j:Int))/\w'.cell? ⟨be,j,none⟩=some (.int .i64 x2)/\w'.cell? ⟨bf,i+1,none⟩=some (.bool f1))
  (first|exact⟨c0,c1,c2,d1,e1,e2,e3⟩|exact⟨(cso (by omega)).trans c0,(cso (by omega)).trans c1,(cso (by omega)).trans c2,(cso (by omega)).trans d1,(cso (by omega)).trans e1,(cso (by omega)).trans e2,(cso (by omega)).trans e3⟩|exact⟨(cso (by omega)).trans ((cso (by omega)).trans c0),(cso (by omega)).trans ((cso (by omega)).trans c1),(cso (by omega)).trans ((cso (by omega)).trans c2),(cso (by omega)).trans ((cso (by omega)).trans d1),(cso (by omega)).trans ((cso (by omega)).trans e1),(cso (by omega)).trans ((cso (by omega)).trans e2),(cso (by omega)).trans ((cso (by omega)).trans e3)⟩) (fail)
 all_goals
  go_wp2
  go_end0
  exact⟨rfl,rfl,rfl,rfl,rfl⟩
def Row(w:World)(b n:Nat):Prop:=∃cs T,w.heap[b]?=some (.cells cs T (0,0))/\cs.size=n
theorem Row.lt{w:World}{b n:Nat}(h:Row w b n):b<w.heap.size:=by
 obtain⟨cs,T,h,_⟩:=h;rcases Nat.lt_or_ge b w.heap.size with h'|h'
 ·exact h'
 ·simp[Array.getElem?_eq_none h']at h
theorem Row.cell{w:World}{b n i:Nat}(h:Row w b n)(hi:i<n):∃y,w.cell? ⟨b,i,none⟩=some y:=by
 obtain⟨cs,T,h,hs⟩:=h;refine⟨cs[i],?_⟩;simp[World.cell?,h]
theorem Row.frozen{w:World}{b n i:Nat}(h:Row w b n):w.frozen? ⟨b,i,none⟩=false:=by
 obtain⟨cs,T,h,hs⟩:=h;simp[World.frozen?,h]
theorem Row.kept{w w':World}{b n:Nat}(h:Row w b n)(hb:w'.heap[b]?=w.heap[b]?):Row w' b n:=by
 obtain⟨cs,T,h,hs⟩:=h;exact⟨cs,T,hb.trans h,hs⟩
theorem Row.set{w:World}{b n c i:Nat}{v:Value}(h:Row w b n):Row (w.setCell ⟨c,i,none⟩ v) b n:=by
 by_cases e:c=b
 ·subst e;obtain⟨cs,T,h,hs⟩:=h;exact⟨cs.setIfInBounds i v,T,by simp[World.setCell,Array.getElem?_modify,h],by simpa using hs⟩
 ·exact h.kept (Below.heap_setCell _ _ _ _ (Ne.symm e))
section
variable {be bf i:Nat} {e f:Value} {w w':World}
theorem z3i.block(h:z3i be bf i e f w w')(k:Nat)(h1:k≠be)(h2:k≠bf):w'.heap[k]?=w.heap[k]?:=by
 rw[h.2.2.2,Below.heap_setCell _ _ _ _ h2,Below.heap_setCell _ _ _ _ h1]
theorem z3i.cells(h:z3i be bf i e f w w')(b o:Nat):w'.cell? ⟨b,o,none⟩=((w.setCell ⟨be,i,none⟩ e).setCell ⟨bf,i,none⟩ f).cell? ⟨b,o,none⟩:=World.cell?_of_block (a:=⟨b,o,none⟩) (by rw[h.2.2.2])
theorem z3i.other(h:z3i be bf i e f w w')(b o:Nat)(h1:be≠b\/i≠o)(h2:bf≠b\/i≠o):w'.cell? ⟨b,o,none⟩=w.cell? ⟨b,o,none⟩:=(h.cells b o).trans ((cso h2).trans (cso h1))
theorem z3i.cellE(h:z3i be bf i e f w w')(hb:be≠bf){y:Value}(hy:w.cell? ⟨be,i,none⟩=some y):w'.cell? ⟨be,i,none⟩=some e:=(h.cells be i).trans ((cso (by omega)).trans (css hy))
theorem z3i.cellF(h:z3i be bf i e f w w')(hb:be≠bf){y:Value}(hy:w.cell? ⟨bf,i,none⟩=some y):w'.cell? ⟨bf,i,none⟩=some f:=(h.cells bf i).trans (css ((cso (by omega)).trans hy))
theorem z3i.size(h:z3i be bf i e f w w'):w'.heap.size=w.heap.size:=by rw[h.2.2.2];simp[World.setCell]
theorem z3i.W(h:z3i be bf i e f w w'){B:Nat}(h1:B<=be)(h2:B<=bf):Below B w w':=
 ⟨h.1,h.2.1,h.2.2.1,Nat.le_of_eq h.size.symm,fun k hk=>h.block k (by omega) (by omega)⟩
theorem z3i.row{b n:Nat}(h:z3i be bf i e f w w')(hr:Row w b n):Row w' b n:=by
 refine(Row.set (c:=bf) (i:=i) (v:=f) (Row.set (c:=be) (i:=i) (v:=e) hr)).kept ?_;rw[h.2.2.2]
end
def q8y(w:World)(be bf:Nat)(ds:List Nd)(k:Nat):Prop:=
 ∀i(t:Tr)(r:List Nd),k<=i->t.Wf->ds.drop i=t.N++r->w.cell? ⟨be,i,none⟩=some (.int .i64 ((i+t.N.length:Nat):Int))/\w.cell? ⟨bf,i,none⟩=some (.bool t.isFlat)
theorem q8y.kept{w w':World}{be bf:Nat}{ds:List Nd}{k:Nat}(h:q8y w be bf ds k)(h1:w'.heap[be]?=w.heap[be]?)(h2:w'.heap[bf]?=w.heap[bf]?):q8y w' be bf ds k:=by
 intro i t r hk ht hd;obtain⟨c1,c2⟩:=h i t r hk ht hd;exact⟨(World.cell?_of_block (w:=w) (a:=⟨be,i,none⟩) h1).trans c1,(World.cell?_of_block (w:=w) (a:=⟨bf,i,none⟩) h2).trans c2⟩
theorem q8y.end{w:World}{be bf:Nat}{ds:List Nd}:q8y w be bf ds ds.length:=by
 intro i t r hk ht hd;rw[List.drop_eq_nil_of_le hk]at hd
 have:=t.pos
 have h2:=congrArg List.length hd;rw[List.length_append,List.length_nil]at h2;omega
theorem q8y.step{w w':World}{be bf:Nat}{ds:List Nd}{i:Nat}{t:Tr}{r:List Nd}{y1 y2:Value}(h:q8y w be bf ds (i+1))(ht:t.Wf)(hd:ds.drop i=t.N++r)(hb:be≠bf)(e1:w.cell? ⟨be,i,none⟩=some y1)(e2:w.cell? ⟨bf,i,none⟩=some y2)
  (hp:z3i be bf i (.int .i64 ((i+t.N.length:Nat):Int)) (.bool t.isFlat) w w'):q8y w' be bf ds i:=by
 intro j t' r' hk ht' hd';by_cases hj:j=i
 ·subst hj;obtain⟨rfl,_⟩:=q7x t t' r r' ht ht' (hd.symm.trans hd');exact⟨hp.cellE hb e1,hp.cellF hb e2⟩
 ·obtain⟨c1,c2⟩:=h j t' r' (by omega) ht' hd';exact⟨(hp.other be j (by omega) (by omega)).trans c1,(hp.other bf j (by omega) (by omega)).trans c2⟩
theorem q1l{ds A:List Nd}{i:Nat}{x:Nd}(h:ds.drop i=x::A):∃hi:i<ds.length,ds[i]=x/\ds.drop (i+1)=A:=by
 have hi:i<ds.length:=by
  rcases Nat.lt_or_ge i ds.length with h'|h'
  ·exact h'
  ·rw[List.drop_eq_nil_of_le h']at h;cases h
 rw[List.drop_eq_getElem_cons hi,List.cons.injEq]at h;exact⟨hi,h⟩
theorem z9a{ds A r:List Nd}{i:Nat}(h:ds.drop i=A++r):ds.drop (i+A.length)=r:=by
 rw[<-List.drop_drop,h,List.drop_left]
theorem q9g{ds:List Nd}{i:Nat}{t:Tr}{r:List Nd}(h:ds.drop i=t.N++r):i<ds.length:=by
 rcases Nat.lt_or_ge i ds.length with h'|h'
 ·exact h'
 ·have h2:=congrArg List.length h
  have:=t.pos
  rw[List.drop_eq_nil_of_le h',List.length_append,List.length_nil]at h2;omega
theorem j9h(bp be bf s cap i:Nat)(ds:List Nd)(a:Option Addr)(t:Tr)(r:List Nd)(w:World)(ht:t.Wf)(hd:ds.drop i=t.N++r)(hl:ds.length<=400)(hN:q0x s w a ds)(h1:bp≠be)(h2:bp≠bf)(h3:be≠bf)(h4:s≠be)(h5:s≠bf)
  (c0:w.cell? ⟨bp,0,none⟩=some (.slice a ds.length cap)) (c1:w.cell? ⟨bp,1,none⟩=some (.slice (some ⟨be,0,none⟩) ds.length ds.length)) (c2:w.cell? ⟨bp,2,none⟩=some (.slice (some ⟨bf,0,none⟩) ds.length ds.length))
  (hE:Row w be ds.length) (hF:Row w bf ds.length) (hK:q8y w be bf ds (i+1)):
  Calls prog 114 #[.pointer (some ⟨bp,0,none⟩),.int .i64 i] w fun e w'=>e=.returned (.tuple #[])/\z3i be bf i (.int .i64 ((i+t.N.length:Nat):Int)) (.bool t.isFlat) w w':=by
 have hi:=q9g hd;obtain⟨y1,e5⟩:=hE.cell hi;obtain⟨y2,e6⟩:=hF.cell hi;have z1:w.frozen? ⟨be,i,none⟩=false:=hE.frozen;have z2:w.frozen? ⟨bf,i,none⟩=false:=hF.frozen;obtain⟨o,ea,d1,_,_⟩:=hN i hi;subst ea;have hiI:(i:Int)<ds.length:=by omega
 cases t with
 | leaf x=>
  obtain⟨_,ex,_⟩:=q1l (x:=x) (A:=r) hd;have en:((i+(Tr.leaf x).N.length:Nat):Int)=(i:Int)+1:=rfl;rw[en];rw[ex]at d1;rcases q5o ht.1 ht.2 with e|e|e|e|e
  ·have ef:(Tr.leaf x).isFlat=true:=by simp[Tr.isFlat,Tr.flat,e]
   rw[ef];rw[e]at d1;exact q8n 1 (.inl rfl) bp be bf s o _ cap i w hl hiI h1 h2 h3 h4 h5 c0 c1 c2 d1 y1 y2 e5 e6 z1 z2
  ·have ef:(Tr.leaf x).isFlat=true:=by simp[Tr.isFlat,Tr.flat,e]
   rw[ef];rw[e]at d1;exact q8n 2 (.inr (.inl rfl)) bp be bf s o _ cap i w hl hiI h1 h2 h3 h4 h5 c0 c1 c2 d1 y1 y2 e5 e6 z1 z2
  ·have ef:(Tr.leaf x).isFlat=true:=by simp[Tr.isFlat,Tr.flat,e]
   rw[ef];rw[e]at d1;exact q8n 3 (.inr (.inr (.inl rfl))) bp be bf s o _ cap i w hl hiI h1 h2 h3 h4 h5 c0 c1 c2 d1 y1 y2 e5 e6 z1 z2
  ·have ef:(Tr.leaf x).isFlat=false:=by simp[Tr.isFlat,Tr.flat,e]
   rw[ef];rw[e]at d1;exact y5s bp be bf s o _ cap i w hl hiI h1 h2 h3 h4 h5 c0 c1 c2 d1 y1 y2 e5 e6 z1 z2
  ·have ef:(Tr.leaf x).isFlat=true:=by simp[Tr.isFlat,Tr.flat,e]
   rw[ef];rw[e]at d1;exact q8n 5 (.inr (.inr (.inr rfl))) bp be bf s o _ cap i w hl hiI h1 h2 h3 h4 h5 c0 c1 c2 d1 y1 y2 e5 e6 z1 z2
 | one x a'=>
  obtain⟨_,ex,hd'⟩:=q1l (x:=x) (A:=a'.N++r) hd;have hi1:=q9g hd';obtain⟨k1,k2⟩:=hK (i+1) a' r Zl ht.2.2 hd';have en:((i+(Tr.one x a').N.length:Nat):Int)=((i+1+a'.N.length:Nat):Int):=by simp only[Tr.N,List.length_cons];congr 1;omega
  have ef:(Tr.one x a').isFlat=a'.isFlat:=rfl;rw[en,ef];rw[ex]at d1;rcases z3e ht.2.1 with e|e
  ·rw[e]at d1;exact j0f 7 (.inl rfl) bp be bf s o _ cap i _ _ w hl hiI (by omega) h1 h2 h3 h4 h5 c0 c1 c2 d1 k1 k2 y1 y2 e5 e6 z1 z2
  ·rw[e]at d1;exact j0f 8 (.inr rfl) bp be bf s o _ cap i _ _ w hl hiI (by omega) h1 h2 h3 h4 h5 c0 c1 c2 d1 k1 k2 y1 y2 e5 e6 z1 z2
 | two x a' b'=>
  obtain⟨_,ex,hd0⟩:=q1l (x:=x) (A:=a'.N++b'.N++r) hd;have hd':ds.drop (i+1)=a'.N++(b'.N++r):=by rw[hd0,List.append_assoc]
  have hd'':=z9a hd';have hi1:=q9g hd';have hi2:=q9g hd'';have hp:=a'.pos;obtain⟨k1,k2⟩:=hK (i+1) a' _ Zl ht.2.2.1 hd';obtain⟨k3,k4⟩:=hK _ b' r (by omega) ht.2.2.2 hd'';have en:((i+(Tr.two x a' b').N.length:Nat):Int)=((i+1+a'.N.length+b'.N.length:Nat):Int):=by simp only[Tr.N,List.length_cons,List.length_append];congr 1;omega
  rw[en];rw[ex]at d1;rcases z1m ht.2.1 with e|e
  ·have ef:(Tr.two x a' b').isFlat=(a'.isFlat&&b'.isFlat):=(j9v e).2;rw[ef];rw[e]at d1;cases hf:a'.isFlat with
   | true=>
    rw[hf]at k2;exact v7e bp be bf s o _ cap i _ _ _ w hl hiI (by omega) (by omega) (by omega) h1 h2 h3 h4 h5 c0 c1 c2 d1 k1 k3 k2 k4 y1 y2 e5 e6 z1 z2
   | false=>
    rw[hf]at k2;exact v7d bp be bf s o _ cap i _ _ _ w hl hiI (by omega) (by omega) (by omega) h1 h2 h3 h4 h5 c0 c1 c2 d1 k1 k3 k2 k4 y1 y2 e5 e6 z1 z2
  ·have ef:(Tr.two x a' b').isFlat=a'.isFlat:=by simp[Tr.isFlat,Tr.flat,e]
   rw[ef];rw[e]at d1;exact y5t bp be bf s o _ cap i _ _ _ w hl hiI (by omega) (by omega) (by omega) h1 h2 h3 h4 h5 c0 c1 c2 d1 k1 k3 k2 y1 y2 e5 e6 z1 z2
theorem j8u:(prog.info? 3).map (fun i=>(i.zero,i.size,i.bytes))=some (some (.int .i64 0),1,8):=by kernel_rfl
theorem v5i:(prog.info? 4).map (fun i=>(i.zero,i.size,i.bytes))=some (some (.bool false),1,1):=by kernel_rfl
structure z8m(w0:World)(s bp be bf:Nat)(a:Option Addr)(cap:Nat)(ds:List Nd)(w:World):Prop where
 b1:w0.heap.size<=bp
 b2:w0.heap.size+1<=be
 b3:w0.heap.size+1<=bf
 n1:bp≠be
 n2:bp≠bf
 n3:be≠bf
 c0:w.cell? ⟨bp,0,none⟩=some (.slice a ds.length cap)
 c1:w.cell? ⟨bp,1,none⟩=some (.slice (some ⟨be,0,none⟩) ds.length ds.length)
 c2:w.cell? ⟨bp,2,none⟩=some (.slice (some ⟨bf,0,none⟩) ds.length ds.length)
 re:Row w be ds.length
 rf:Row w bf ds.length
 rb:w.heap[w0.heap.size]?=some (.cells #[.slice none 0 0,.slice none 0 0,.slice none 0 0] 133 (0,0))
 bw:Below w0 w0 w
 nd:q0x s w a ds
theorem z8m.put{w0 w w':World}{s bp be bf cap i:Nat}{a:Option Addr}{ds:List Nd}{e f:Value}(h:z8m w0 s bp be bf a cap ds w)(hs:s<w0.heap.size)(hp:z3i be bf i e f w w'):z8m w0 s bp be bf a cap ds w' where
 b1:=h.b1
 b2:=h.b2
 b3:=h.b3
 n1:=h.n1
 n2:=h.n2
 n3:=h.n3
 c0:=(hp.other bp 0 (.inl h.n1.symm) (.inl h.n2.symm)).trans h.c0
 c1:=(hp.other bp 1 (.inl h.n1.symm) (.inl h.n2.symm)).trans h.c1
 c2:=(hp.other bp 2 (.inl h.n1.symm) (.inl h.n2.symm)).trans h.c2
 re:=hp.row h.re
 rf:=hp.row h.rf
 rb:=(hp.block _ (by have:=h.b2;omega) (by have:=h.b3;omega)).trans h.rb
 bw:=h.bw.trans (hp.W (by have:=h.b2;omega) (by have:=h.b3;omega))
 nd:=h.nd.kept (hp.block s (by have:=h.b2;omega) (by have:=h.b3;omega))
def q0w(ws:List Int):List Value:=ws.map (.int .i64)
theorem k2n(ws:List Int):(q0w ws).length=ws.length*1:=by simp[q0w]
theorem k2m(a b:List Int):q0w (a++b)=q0w a++q0w b:=by simp[q0w]
theorem v8v{B:Nat}{w:World}{a:Option Addr}{n cap m:Nat}{ws:List Int}(h:w.ownsRow B 3 1 (.slice a n cap) m (q0w ws)):m=ws.length/\n=ws.length/\ws.length<=cap/\z1r w a ws/\(a=none->ws=[]/\cap=0):=by
 have hm:m=ws.length:=by have:=h.1;rw[k2n]at this;omega
 rcases h.2 with⟨hv,h0⟩|⟨g,c,cur,hv,_,hg,hnc,_,hsz,htake⟩
 ·simp only[Value.slice.injEq]at hv;obtain⟨rfl,rfl,rfl⟩:=hv;have hw:ws=[]:=List.eq_nil_of_length_eq_zero (by omega);subst hw;exact⟨hm,rfl,Nat.le_refl _,fun i hi=>by simp at hi,fun _=>⟨rfl,rfl⟩⟩
 ·simp only[Value.slice.injEq]at hv;obtain⟨rfl,rfl,rfl⟩:=hv;refine⟨hm,hm,by omega,?_,fun h=>by cases h⟩;intro i hi
  have hlt:g<w.heap.size:=by
   rcases Nat.lt_or_ge g w.heap.size with h'|h'
   ·exact h'
   ·simp[Array.getElem?_eq_none h']at hg
  refine⟨g,0,rfl,hlt,?_⟩;have hk:(q0w ws)[i]?=some (.int .i64 ws[i]):=by simp[q0w,hi]
  rw[<-htake]at hk;rw[List.getElem?_take_of_lt (by omega)]at hk;rw[Nat.zero_add];simp only[World.cell?,hg];simpa using hk
end Go.Proofs.YthcpdohdppkmkaaGreatDoor
