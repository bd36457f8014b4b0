import Derived.Test.YtfdppahhbpfnoaaGreatDoorPb07
import Derived.BigRegion
import Derived.Test.YtfdppahhbpfnoaaGreatDoorPb08
import Derived.Lib.Fields
open Go.Proofs.Tryz
namespace Go.Proofs.YtfdppahhbpfnoaaGreatDoor
open Go Go.RowKit
set_option maxRecDepth 100000
set_option maxHeartbeats 4000000
theorem v3y(bp be bf s o n cap i j:Nat)(x2:Int)(f2:Bool)(w:World)(hn:n<=400)(hi:(i:Int)<n)(A:(i:Int)+1<n)(hj:(j:Int)<n)(B:i+1<j)(h1:bp≠be)(h2:bp≠bf)(h3:be≠bf)(h4:s≠be)(h5:s≠bf)
  (c0:w.cell? ⟨bp,0,none⟩=some (.slice (some ⟨s,o,none⟩) n cap)) (c1:w.cell? ⟨bp,1,none⟩=some (.slice (some ⟨be,0,none⟩) n n)) (c2:w.cell? ⟨bp,2,none⟩=some (.slice (some ⟨bf,0,none⟩) n n))
  (d1:w.cell? ⟨s,o+i*3,none⟩=some (.int .i64 6))
  (e1:w.cell? ⟨be,i+1,none⟩=some (.int .i64 (j:Int)))
  (e2:w.cell? ⟨be,j,none⟩=some (.int .i64 x2))
  (e3:w.cell? ⟨bf,i+1,none⟩=some (.bool true))
  (e4:w.cell? ⟨bf,j,none⟩=some (.bool f2))
  (y1 y2:Value) (e5:w.cell? ⟨be,i,none⟩=some y1) (e6:w.cell? ⟨bf,i,none⟩=some y2) (z1:w.frozen? ⟨be,i,none⟩=false) (z2:w.frozen? ⟨bf,i,none⟩=false):
  Calls prog 90 #[.pointer (some ⟨bp,0,none⟩),.int .i64 i] w fun e w'=>e=.returned (.tuple #[])/\z2l be bf i (.int .i64 x2) (.bool f2) w w':=by
 have H:=j1z hn hi;have D:(0:Int)<=(i:Int)+1:=by omega
 have C:(0:Int)<=(i:Int):=by omega
 have G:((i:Int)+1).toNat=i+1:=by omega
 have E:(0:Int)<=(j:Int):=by omega
 go_in;go_wp2_with fail
 go_region_held3 (fun w'=>w'.cell? ⟨bp,0,none⟩=some (.slice (some ⟨s,o,none⟩) n cap)/\w'.cell? ⟨bp,1,none⟩=some (.slice (some ⟨be,0,none⟩) n n)/\w'.cell? ⟨bp,2,none⟩=some (.slice (some ⟨bf,0,none⟩) n n)/\w'.cell? ⟨s,o+i*3,none⟩=some (.int .i64 6)/\w'.cell? ⟨be,i+1,none⟩=some (.int .i64 (j:Int))/\w'.cell? ⟨be,j,none⟩=some (.int .i64 x2)/\w'.cell? ⟨bf,i+1,none⟩=some (.bool true)/\w'.cell? ⟨bf,j,none⟩=some (.bool f2))
  (first|exact⟨c0,c1,c2,d1,e1,e2,e3,e4⟩|exact⟨(cso (by omega)).trans c0,(cso (by omega)).trans c1,(cso (by omega)).trans c2,(cso (by omega)).trans d1,(cso (by omega)).trans e1,(cso (by omega)).trans e2,(cso (by omega)).trans e3,(cso (by omega)).trans e4⟩|exact⟨(cso (by omega)).trans ((cso (by omega)).trans c0),(cso (by omega)).trans ((cso (by omega)).trans c1),(cso (by omega)).trans ((cso (by omega)).trans c2),(cso (by omega)).trans ((cso (by omega)).trans d1),(cso (by omega)).trans ((cso (by omega)).trans e1),(cso (by omega)).trans ((cso (by omega)).trans e2),(cso (by omega)).trans ((cso (by omega)).trans e3),(cso (by omega)).trans ((cso (by omega)).trans e4)⟩) (fail)
 all_goals
  go_wp2
  go_end0
  exact⟨rfl,rfl,rfl,rfl,rfl⟩
theorem v3x(bp be bf s o n cap i j:Nat)(x2:Int)(f2:Bool)(w:World)(hn:n<=400)(hi:(i:Int)<n)(A:(i:Int)+1<n)(hj:(j:Int)<n)(_hij:i+1<j)(h1:bp≠be)(h2:bp≠bf)(h3:be≠bf)(h4:s≠be)(h5:s≠bf)
  (c0:w.cell? ⟨bp,0,none⟩=some (.slice (some ⟨s,o,none⟩) n cap)) (c1:w.cell? ⟨bp,1,none⟩=some (.slice (some ⟨be,0,none⟩) n n)) (c2:w.cell? ⟨bp,2,none⟩=some (.slice (some ⟨bf,0,none⟩) n n))
  (d1:w.cell? ⟨s,o+i*3,none⟩=some (.int .i64 6))
  (e1:w.cell? ⟨be,i+1,none⟩=some (.int .i64 (j:Int)))
  (e2:w.cell? ⟨be,j,none⟩=some (.int .i64 x2))
  (e3:w.cell? ⟨bf,i+1,none⟩=some (.bool false))
  (_e4:w.cell? ⟨bf,j,none⟩=some (.bool f2))
  (y1 y2:Value) (e5:w.cell? ⟨be,i,none⟩=some y1) (e6:w.cell? ⟨bf,i,none⟩=some y2) (z1:w.frozen? ⟨be,i,none⟩=false) (z2:w.frozen? ⟨bf,i,none⟩=false):
  Calls prog 90 #[.pointer (some ⟨bp,0,none⟩),.int .i64 i] w fun e w'=>e=.returned (.tuple #[])/\z2l be bf i (.int .i64 x2) (.bool false) w w':=by
 have G:=j1z hn hi;have C:(0:Int)<=(i:Int)+1:=by omega
 have B:(0:Int)<=(i:Int):=by omega
 have E:((i:Int)+1).toNat=i+1:=by omega
 have D:(0:Int)<=(j:Int):=by omega
 have H:=(cso (W:=w) (v:=.int .i64 x2) (b:=be) (o:=i) (by omega)).trans c0;have I:=(cso (W:=w) (v:=.int .i64 x2) (b:=be) (o:=i) (by omega)).trans c1;have J:=(cso (W:=w) (v:=.int .i64 x2) (b:=be) (o:=i) (by omega)).trans c2;have K:=(cso (W:=w) (v:=.int .i64 x2) (b:=be) (o:=i) (by omega)).trans e3;have L:=(cso (W:=w) (v:=.int .i64 x2) (b:=be) (o:=i) (by omega)).trans e6;have M:=(csf (W:=w) (v:=.int .i64 x2) (a:=⟨be,i,none⟩)).trans z2;go_in;go_wp2_with fail
 go_region
 all_goals
  go_wp2
  go_end0
  exact⟨rfl,rfl,rfl,rfl,rfl⟩
def g0y(s:ByteArray)(u:List Wd):Nat:=((z9u (btL s))[(q2p (btL s)).length-u.length]?).getD s.size
inductive q8o (s:ByteArray):List (List Td)->Int->Int->Prop where
 | lex (h:q7a (btL s)≠0):q8o s [] ((k2a (btL s):Nat):Int) (q7a (btL s))
 | bad {u} (h:q7a (btL s)=0) (hg:PG false [] (q2p (btL s)) (.bad u)):q8o s [] ((g0y s u:Nat):Int) 5
 | full {qs} (h:q7a (btL s)=0) (hg:PG false [] (q2p (btL s)) (.ok qs)) (hf:(q0t qs).2≠0):q8o s [] 0 (q0t qs).2
 | ok {qs} (h:q7a (btL s)=0) (hg:PG false [] (q2p (btL s)) (.ok qs)) (hf:(q0t qs).2=0):q8o s qs 0 0
theorem q1r{s:ByteArray}{p p':List (List Td)}{k k' f f':Int}(h:q8o s p k f)(h':q8o s p' k' f'):p=p'/\k=k'/\f=f':=by
 cases h with
 | lex h1=>cases h' with
  | lex _=>exact⟨rfl,rfl,rfl⟩
  | bad h2=>exact absurd h2 h1
  | full h2=>exact absurd h2 h1
  | ok h2=>exact absurd h2 h1
 | bad h1 hg=>cases h' with
  | lex h2=>exact absurd h1 h2
  | bad _ hg'=>cases z0e hg hg';exact⟨rfl,rfl,rfl⟩
  | full _ hg'=>cases z0e hg hg'
  | ok _ hg'=>cases z0e hg hg'
 | full h1 hg hf=>cases h' with
  | lex h2=>exact absurd h1 h2
  | bad _ hg'=>cases z0e hg hg'
  | full _ hg'=>cases z0e hg hg';exact⟨rfl,rfl,rfl⟩
  | ok _ hg' hf'=>cases z0e hg hg';exact absurd hf' hf
 | ok h1 hg hf=>cases h' with
  | lex h2=>exact absurd h1 h2
  | bad _ hg'=>cases z0e hg hg'
  | full _ hg' hf'=>cases z0e hg hg';exact absurd hf hf'
  | ok _ hg'=>cases z0e hg hg';exact⟨rfl,rfl,rfl⟩
theorem z1t:∀(ps:List (List Td))(prev:Int),okP prev ps->∀t∈ps,q0b t=0
 | t::r,prev,h,x,hx=>by
  rcases List.mem_cons.1 hx with rfl|hx
  ·exact h.1
  ·exact z1t r _ h.2.2 x hx
theorem y9w(l:List UInt8):btL (wbS l)=l:=rfl
def y7n(ps:List (List Td)):ByteArray:=if(q0t ps).2=0 then wbS (q4o ps)else⟨#[]⟩
theorem j8z{ps:List (List Td)}(h:(q0t ps).2=0):y7n ps=wbS (q4o ps):=by rw[y7n,if_pos h]
theorem y3p{ps:List (List Td)}(h:(q0t ps).2≠0):y7n ps=⟨#[]⟩:=by rw[y7n,if_neg h]
def z3e(s:ByteArray)(W:World)(e:Ending)(w':World):Prop:=∃ps k f A c,e=.returned (.tuple #[.slice A ps.length c,.int .i64 k,q1m f])/\q8o s ps k f/\Prg w' A ps/\ps.length<=c/\Below W W w'
theorem v5b{s:ByteArray}{ps:List (List Td)}{k f:Int}(h:q8o s ps k f):ps.length<=20/\∀t∈ps,t.length<=40:=by
 cases h with
 | lex=>exact⟨by simp,fun t ht=>by cases ht⟩
 | bad=>exact⟨by simp,fun t ht=>by cases ht⟩
 | full=>exact⟨by simp,fun t ht=>by cases ht⟩
 | ok _ _ hf=>
  obtain⟨A,B⟩:=q6j hf;exact⟨A,fun t ht=>(q2j (z1t ps 0 B t ht)).1⟩
abbrev neW(w:Wd):Bool:=!w.isEmpty
theorem k4v:∀(ws:List Wd)(t:Wd),ws.foldl z0w t=(ws.filter neW).foldl z0w t
 | [],_=>rfl
 | w::r,t=>by
  cases w with
  | nil=>
   have e:z0w t []=t:=by simp[z0w]
   rw[List.foldl_cons,e,k4v r t];rfl
  | cons c z=>exact k4v r _
theorem z3q:∀(l cur h:Wd)(tl:List Wd),(∀b∈l,Lib.isSp b=true->b=32)->q4h l=h::tl->Lib.fieldsGo cur l=((cur++h)::tl).filter neW
 | [],cur,h,tl,_,e=>by
  have e2:[[]]=h::tl:=e;simp only[List.cons.injEq]at e2;obtain⟨rfl,rfl⟩:=e2;cases cur<;>simp[Lib.fieldsGo]
 | b::l,cur,h,tl,hb,e=>by
  have hl:∀x∈l,Lib.isSp x=true->x=32:=fun x hx=>hb x (by simp[hx])
  cases hs:q4h l with
  | nil=>exact absurd hs (q6o l)
  | cons h2 tl2=>
   by_cases h32:b=32
   ·subst h32;rw[q5t,hs]at e;simp only[List.cons.injEq]at e;obtain⟨rfl,rfl⟩:=e;have ih:=z3q l [] h2 tl2 hl hs;have hsp:Lib.isSp 32=true:=by decide
    cases cur with
    | nil=>rw[Lib.fieldsGo_sp _ _ hsp,ih];simp
    | cons a z=>rw[Lib.fieldsGo_end _ _ _ hsp (by simp),ih];simp
   ·have hsp:Lib.isSp b=false:=by
     cases A:Lib.isSp b with
     | false=>rfl
     | true=>exact absurd (hb b (by simp) A) h32
    rw[q5u h32 hs]at e;simp only[List.cons.injEq]at e;obtain⟨rfl,rfl⟩:=e;rw[Lib.fieldsGo_more _ _ _ hsp,z3q l (cur++[b]) h2 tl2 hl hs];simp
theorem z1h{l:Wd}(h:∀b∈l,Lib.isSp b=true->b=32):Lib.fields l=(q4h l).filter neW:=by
 cases A:q4h l with
 | nil=>exact absurd A (q6o l)
 | cons a tl=>exact z3q l [] a tl h A
theorem k1f{l:Wd}(h:∀b∈l,Lib.isSp b=true->b=32):∀w∈Lib.fields l,w≠[]:=by
 intro w A;rw[z1h h]at A
 have:=(List.mem_filter.1 A).2
 rintro rfl;simp at this
theorem j1a{l:Wd}(h:∀b∈l,Lib.isSp b=true->b=32):ntx (q0e l)=jb (Lib.fields l):=by
 have e:(q0e l).filter neW=Lib.fields l:=by
  rw[z1h h];unfold q0e
  split
  ·rename_i h0;subst h0;rfl
  ·rfl
 rw[<-v8w (k1f h),<-e,ntx,ntx,k4v]
theorem j5l:∀(a b:List Wd),a≠[]->b≠[]->jb (a++b)=jb a++32::jb b
 | [w],b,_,hb=>by
  cases b with
  | nil=>exact absurd rfl hb
  | cons x y=>simp[jb]
 | w::u::r,b,_,hb=>by
  have ih:=j5l (u::r) b (by simp) hb;rw[List.cons_append]at ih;simp only[List.cons_append,jb]at ih⊢;rw[ih];simp
theorem v7x{a:List Wd}(h:∀w∈a,w≠[]):jb a=[]↔a=[]:=by
 cases a with
 | nil=>simp[jb]
 | cons w r=>
  have:=h w (by simp)
  constructor
  ·intro e;have A:w++(match r with|[]=>[]|_::_=>32::jb r)=[]:=e;exact absurd (List.append_eq_nil_iff.1 A).1 this
  ·intro e;cases e
theorem y0a{a b:List Wd}(ha:∀w∈a,w≠[])(hb:∀w∈b,w≠[]):z0w (jb a) (jb b)=jb (a++b):=by
 by_cases A:a=[]
 ·subst A
  have:jb ([]:List Wd)=[]:=rfl
  rw[this,z0w,if_neg (by simp)];rfl
 ·by_cases B:b=[]
  ·subst B
   have:jb ([]:List Wd)=[]:=rfl
   rw[this,z0w,if_neg (by simp)];simp
  ·have C:jb a≠[]:=fun e=>A ((v7x ha).1 e)
   have D:jb b≠[]:=fun e=>B ((v7x hb).1 e)
   rw[z0w,if_pos ⟨D,C⟩,j5l a b A B];simp
theorem j5m:∀ws:List Wd,Lib.join ws [32]=jb ws
 | []=>rfl
 | [w]=>by rw[Lib.join_one];simp[jb]
 | w::u::r=>by
  have ih:=j5m (u::r);rw[Lib.join_cons]at ih⊢;rw[jb,<-ih];simp[Lib.joinTail]
def q9i(w:Wd):List Wd:=Lib.fields (w.drop 1)
def v7w(w:Wd):Prop:=w.headD 0=35/\∀b∈w,prB b=true
theorem y7l{b:UInt8}(h:prB b=true)(hs:Lib.isSp b=true):b=32:=by
 simp only[prB,Bool.and_eq_true,decide_eq_true_eq]at h;simp only[Lib.isSp,Bool.or_eq_true,beq_iff_eq]at hs;have A:=h.1;rcases hs with(((((e|e)|e)|e)|e)|e)<;>subst e<;>first|rfl|(exfalso;revert A;decide)
theorem y7c{w:Wd}(h:v7w w):∀b∈w.drop 1,Lib.isSp b=true->b=32:=fun b hb hs=>y7l (h.2 b (List.mem_of_mem_drop hb)) hs
theorem y7d{w:Wd}(h:v7w w):q4x w=jb (q9i w):=j1a (y7c h)
theorem j4v{w:Wd}(h:v7w w):∀x∈q9i w,x≠[]:=k1f (y7c h)
theorem j2l(A:List (List Td))(X t:Wd):k7a true (A++[[ntT X]]) t=A++[[ntT (z0w X t)]]:=by
 have e:q4u (A++[[ntT X]])=X:=by
  simp only[q4u,List.getLast?_append,List.getLast?_singleton];rfl
 rw[k7a,if_pos rfl,e,List.dropLast_concat]
theorem j8r:∀(nts:List Wd)(acc:List (List Td))(W:List Wd)(ts:List Wd)(r:Rp),(∀w∈nts,v7w w)->(∀x∈W,x≠[])->PG true (acc++[[ntT (jb (W++nts.flatMap q9i))]]) ts r->PG true (acc++[[ntT (jb W)]]) (nts++ts) r
 | [],acc,W,ts,r,_,_,h=>by simpa using h
 | w::z,acc,W,ts,r,hn,hW,h=>by
  have hw:=hn w (by simp);refine .note hw.1 ?_;rw[j2l,y7d hw,y0a hW (j4v hw)];refine j8r z acc (W++q9i w) ts r (fun x hx=>hn x (by simp[hx])) ?_ ?_
  ·intro x hx;rcases List.mem_append.1 hx with hx|hx
   ·exact hW x hx
   ·exact j4v hw x hx
  ·rw[List.flatMap_cons,<-List.append_assoc]at h;exact h
theorem v5f{A:List Wd}{B:List (List Td)}{ts:List Wd}{r:Rp}(h0:A≠[])(hn:∀w∈A,v7w w)(h:PG true (B++[[ntT (jb (A.flatMap q9i))]]) ts r):PG false B (A++ts) r:=by
 cases A with
 | nil=>exact absurd rfl h0
 | cons w z=>
  have C:=hn w (by simp);refine .note C.1 ?_;rw[k7a,if_neg (by simp),y7d C];refine j8r z B (q9i w) ts r (fun x hx=>hn x (by simp[hx])) (j4v C) ?_;rw[List.flatMap_cons]at h;exact h
theorem v0c{p:UInt8->Bool}{c:UInt8}{r:List UInt8}(hc:p c=true)(hl:(r.takeWhile p).length+1=(c::r).length):∀b∈c::r,p b=true:=by
 have B:r.takeWhile p=r:=by
  have G:=z5n (p:=p) r;rw[show(r.takeWhile p).length=r.length by simp only[List.length_cons]at hl;omega,List.take_length]at G;exact G.symm
 have E:∀(l:List UInt8)x,x∈l.takeWhile p->p x=true:=by
  intro l
  induction l with
  | nil=>intro x A;cases A
  | cons a l ih=>
   intro x A;rw[List.takeWhile_cons]at A;by_cases D:p a=true
   ·rw[if_pos D]at A;rcases List.mem_cons.1 A with rfl|A
    ·exact D
    ·exact ih x A
   ·rw[if_neg D]at A;cases A
 intro b C;rcases List.mem_cons.1 C with rfl|C
 ·exact hc
 ·rw[<-B]at C;exact E r b C
theorem v9l{w:Wd}(h:q3u w):w≠[]:=by
 obtain⟨c,r,rfl,_⟩:=h;simp
theorem v6f{w:Wd}(h:q3u w):nmW w=(decide (w≠z4d)&&q2f (w.headD 0)):=by
 obtain⟨c,r,rfl,_,I,D,_⟩:=h;have C:btL (wbS (c::r))=c::r:=rfl;have B:(wbS (c::r)).size=(c::r).length:=by rw[<-q0c,C]
 unfold nmW q0o;rw[C,B];show _=(decide ((c::r)≠z4d)&&q2f c);cases A:q2f c with
 | false=>simp[A]
 | true=>
  simp only[q5b,A,if_true,decide_eq_true_eq]at I;simp only[q0r,A,if_true]at D;have E:=v0c A D;have G:(c::r).all q2f=true:=List.all_eq_true.2 E;rw[G];have H:(c::r).length<=8:=by omega
  simp only[List.length_cons]at H⊢;simp;omega
theorem y3z{w:Wd}(h:q3u w)(hn:k3y w=true):(∀b∈w,q4f b=true)/\w.length<=6:=by
 obtain⟨c,r,rfl,_,D,C,_⟩:=h;have B:q4f c=true:=hn;have A:q2f c=false:=k4s B;simp only[q5b,A,B,if_true,Bool.false_eq_true,if_false,Bool.and_eq_true,decide_eq_true_eq]at D;simp only[q0r,A,B,if_true,Bool.false_eq_true,if_false]at C;exact⟨v0c B C,by omega⟩
theorem y7z{w:Wd}(h:q3u w)(hn:w.headD 0=35):v7w w:=by
 obtain⟨c,r,rfl,_,C,I,_⟩:=h;have J:c=35:=hn;subst J;have D:q2f 35=false:=by decide
 have E:q4f 35=false:=by decide
 have G:((35:UInt8)==35)=true:=by decide
 simp only[q5b,D,E,G,if_true,Bool.false_eq_true,if_false]at C;simp only[q0r,D,E,G,if_true,Bool.false_eq_true,if_false]at I
 have A:r.takeWhile nlB=r:=by
  have H:=z5n (p:=nlB) r;rw[show(r.takeWhile nlB).length=r.length by simp only[List.length_cons]at I;omega,List.take_length]at H;exact H.symm
 rw[A,List.all_eq_true]at C;refine⟨rfl,fun b B=>?_⟩;rcases List.mem_cons.1 B with rfl|B
 ·decide
 ·exact C b B
end Go.Proofs.YtfdppahhbpfnoaaGreatDoor
