import Derived.Test.YtfdppahhbpfnoaaGreatDoorPb03
import Derived.Deep.RegionHeld3
import Derived.Deep.OwnRows
import Derived.Deep.DeepCutAuto
import Derived.Test.YtfdppahhbpfnoaaGreatDoorPb05
open Go.Proofs.Tryz
namespace Go.Proofs.YtfdppahhbpfnoaaGreatDoor
open Go Go.RowKit
def z2l(be bf i:Nat)(e f:Value)(w w':World):Prop:=
 w'.os=w.os/\w'.tape=w.tape/\w'.output=w.output/\w'.heap=((w.setCell ⟨be,i,none⟩ e).setCell ⟨bf,i,none⟩ f).heap
theorem j1z{i n:Nat}(hn:n<=400)(hi:(i:Int)<n):IntKind.i64.wrap ((i:Int)+1)=(i:Int)+1:=by
 rw[IntKind.wrap_i64];omega
set_option maxRecDepth 100000
set_option maxHeartbeats 16000000
theorem q8e(oq:Int)(ho:oq=1\/oq=2\/oq=3\/oq=5)(bp be bf s o n cap i:Nat)(w:World)(hn:n<=400)(hi:(i:Int)<n)(h1:bp≠be)(h2:bp≠bf)(h3:be≠bf)(h4:s≠be)(h5:s≠bf)
  (c0:w.cell? ⟨bp,0,none⟩=some (.slice (some ⟨s,o,none⟩) n cap)) (c1:w.cell? ⟨bp,1,none⟩=some (.slice (some ⟨be,0,none⟩) n n)) (c2:w.cell? ⟨bp,2,none⟩=some (.slice (some ⟨bf,0,none⟩) n n))
  (d1:w.cell? ⟨s,o+i*3,none⟩=some (.int .i64 oq))
  (y1 y2:Value) (e5:w.cell? ⟨be,i,none⟩=some y1) (e6:w.cell? ⟨bf,i,none⟩=some y2) (z1:w.frozen? ⟨be,i,none⟩=false) (z2:w.frozen? ⟨bf,i,none⟩=false):
  Calls prog 90 #[.pointer (some ⟨bp,0,none⟩),.int .i64 i] w fun e w'=>e=.returned (.tuple #[])/\z2l be bf i (.int .i64 ((i:Int)+1)) (.bool true) w w':=by
 have E:y4v oq:=.mk;rcases ho with rfl|rfl|rfl|rfl
 all_goals
  have D:=j1z hn hi;have B:(0:Int)<=(i:Int)+1:=by omega
  have A:(0:Int)<=(i:Int):=by omega
  have C:((i:Int)+1).toNat=i+1:=by omega
  go_in;go_wp2_with fail
  go_region_held3 (fun w'=>w'.cell? ⟨bp,0,none⟩=some (.slice (some ⟨s,o,none⟩) n cap)/\w'.cell? ⟨bp,1,none⟩=some (.slice (some ⟨be,0,none⟩) n n)/\w'.cell? ⟨bp,2,none⟩=some (.slice (some ⟨bf,0,none⟩) n n)/\w'.cell? ⟨s,o+i*3,none⟩=some (.int .i64 ↑E))
   (first|exact⟨c0,c1,c2,d1⟩|exact⟨(cso (by omega)).trans c0,(cso (by omega)).trans c1,(cso (by omega)).trans c2,(cso (by omega)).trans d1⟩|exact⟨(cso (by omega)).trans ((cso (by omega)).trans c0),(cso (by omega)).trans ((cso (by omega)).trans c1),(cso (by omega)).trans ((cso (by omega)).trans c2),(cso (by omega)).trans ((cso (by omega)).trans d1)⟩) (fail)
  all_goals
   go_wp2
   go_end0
   exact⟨rfl,rfl,rfl,rfl,rfl⟩
theorem y2h(bp be bf s o n cap i:Nat)(w:World)(hn:n<=400)(hi:(i:Int)<n)(h1:bp≠be)(h2:bp≠bf)(h3:be≠bf)(h4:s≠be)(h5:s≠bf)
  (c0:w.cell? ⟨bp,0,none⟩=some (.slice (some ⟨s,o,none⟩) n cap)) (c1:w.cell? ⟨bp,1,none⟩=some (.slice (some ⟨be,0,none⟩) n n)) (c2:w.cell? ⟨bp,2,none⟩=some (.slice (some ⟨bf,0,none⟩) n n))
  (d1:w.cell? ⟨s,o+i*3,none⟩=some (.int .i64 4))
  (y1 y2:Value) (e5:w.cell? ⟨be,i,none⟩=some y1) (e6:w.cell? ⟨bf,i,none⟩=some y2) (z1:w.frozen? ⟨be,i,none⟩=false) (z2:w.frozen? ⟨bf,i,none⟩=false):
  Calls prog 90 #[.pointer (some ⟨bp,0,none⟩),.int .i64 i] w fun e w'=>e=.returned (.tuple #[])/\z2l be bf i (.int .i64 ((i:Int)+1)) (.bool false) w w':=by
 have D:=j1z hn hi;have B:(0:Int)<=(i:Int)+1:=by omega
 have A:(0:Int)<=(i:Int):=by omega
 have C:((i:Int)+1).toNat=i+1:=by omega
 go_in;go_wp2_with fail
 go_region_held3 (fun w'=>w'.cell? ⟨bp,0,none⟩=some (.slice (some ⟨s,o,none⟩) n cap)/\w'.cell? ⟨bp,1,none⟩=some (.slice (some ⟨be,0,none⟩) n n)/\w'.cell? ⟨bp,2,none⟩=some (.slice (some ⟨bf,0,none⟩) n n)/\w'.cell? ⟨s,o+i*3,none⟩=some (.int .i64 4))
  (first|exact⟨c0,c1,c2,d1⟩|exact⟨(cso (by omega)).trans c0,(cso (by omega)).trans c1,(cso (by omega)).trans c2,(cso (by omega)).trans d1⟩|exact⟨(cso (by omega)).trans ((cso (by omega)).trans c0),(cso (by omega)).trans ((cso (by omega)).trans c1),(cso (by omega)).trans ((cso (by omega)).trans c2),(cso (by omega)).trans ((cso (by omega)).trans d1)⟩) (fail)
 all_goals
  go_wp2
  go_end0
  exact⟨rfl,rfl,rfl,rfl,rfl⟩
def y1v(a b:UInt8):Bool:=(q2f a&&q2f b)||(q4f a&&q4f b)
def q6n(b:UInt8):Bool:=!q2f b&&!q4f b
def k4p(s rest:List UInt8):Prop:=∀a b,s.getLast?=some a->rest.head?=some b->y1v a b=false
theorem z6a{a b:UInt8}(h:q6n b=true):y1v a b=false:=by
 simp only[q6n,Bool.and_eq_true,Bool.not_eq_true']at h;simp[y1v,h.1,h.2]
theorem k1q{a b:UInt8}(h:q6n a=true):y1v a b=false:=by
 simp only[q6n,Bool.and_eq_true,Bool.not_eq_true']at h;simp[y1v,h.1,h.2]
theorem z5w{s:List UInt8}{b:UInt8}(h:q6n b=true)(r:List UInt8):k4p s (b::r):=fun _ c _ hc=>by
 simp only[List.head?_cons,Option.some.injEq]at hc;subst hc;exact z6a h
theorem q8b{a:UInt8}(h:q6n a=true)(s r:List UInt8):k4p (s++[a]) r:=fun c _ hc _=>by
 simp only[List.getLast?_append,List.getLast?_singleton,Option.some_or,Option.some.injEq]at hc;subst hc;exact k1q h
def Lx(s:List UInt8)(ws:List Wd):Prop:=∀rest i,k4p s rest->(lxW (s++rest) i).map (·.2)=ws++(lxW rest (i+s.length)).map (·.2)/\lxF (s++rest) i=lxF rest (i+s.length)
theorem Lx.nil:Lx [] []:=fun rest i _=>by simp
theorem Lx.app{s t:List UInt8}{ws us:List Wd}(h1:Lx s ws)(h2:Lx t us)(h:k4p s t):Lx (s++t) (ws++us):=by
 intro A i D
 have E:k4p s (t++A):=by
  intro a b B C;cases t with
  | nil=>
   rw[List.append_nil]at D;exact D a b B C
  | cons c t=>exact h a b B C
 have G:k4p t A:=by
  intro a b B C;refine D a b ?_ C;rw[List.getLast?_append,B];rfl
 obtain⟨H,I⟩:=h1 (t++A) i E;obtain⟨J,K⟩:=h2 A (i+s.length) G;rw[List.append_assoc,H,I,J,K,List.length_append,Nat.add_assoc];exact⟨by simp,rfl⟩
theorem Lx.blank{c:UInt8}(h:spB c=true):Lx [c] []:=by
 intro A i _;rw[List.cons_append,List.nil_append,lxW,lxF,k5w A i h];exact⟨by simp[lxW],by simp[lxF]⟩
theorem Lx.tok{c:UInt8}{r:List UInt8}(hs:spB c=false)(h:∀rest,k4p (c::r) rest->q5b (c::r++rest)=true/\q0r (c::r++rest)=(c::r).length)(ht:q1d (c::r)=c::r):Lx (c::r) [c::r]:=by
 intro rest i E;obtain⟨B,A⟩:=h rest E;rw[List.cons_append]at B A;have C:(c::(r++rest)).drop (q0r (c::(r++rest)))=rest:=by rw[A,<-List.cons_append,List.drop_left]
 have D:tkW (c::(r++rest))=c::r:=by rw[tkW,A,<-List.cons_append,List.take_left,ht]
 rw[List.cons_append,lxW,lxF,z6l i hs B,C,D,A];exact⟨rfl,rfl⟩
theorem k9j{p:UInt8->Bool}:∀(r rest:List UInt8),(∀x∈r,p x=true)->(∀b,rest.head?=some b->p b=false)->(r++rest).takeWhile p=r
 | [],rest,_,h=>by
  cases rest with
  | nil=>rfl
  | cons b t=>rw[List.nil_append,List.takeWhile_cons,if_neg (by simp[h b rfl])]
 | a::r,rest,h,h2=>by
  rw[List.cons_append,List.takeWhile_cons,if_pos (h a (by simp)),k9j r rest (fun x hx=>h x (by simp[hx])) h2]
theorem k8d{s:List UInt8}(h:s≠[]):∃a,s.getLast?=some a/\a∈s:=by
 refine⟨s.getLast h,List.getLast?_eq_some_getLast h,List.getLast_mem h⟩
theorem v0i{p:UInt8->Bool}(hp:∀x,p x=true->x≠32){l:List UInt8}(h:∀x∈l,p x=true):q1d l=l:=by
 rcases List.eq_nil_or_concat l with rfl|⟨v,c,rfl⟩
 ·rfl
 ·rw[List.concat_eq_append]at h⊢;exact q1n v (hp c (h c (by simp)))
theorem y6r{c:UInt8}(h:q2f c=true):spB c=false:=by
 have A:c≠32:=k2g h;have B:c≠10:=by rintro rfl;revert h;decide
 simp[spB,A,B]
theorem y5v{c:UInt8}(h:q4f c=true):spB c=false:=by
 have A:c≠32:=k1g h;have B:c≠10:=by rintro rfl;revert h;decide
 simp[spB,A,B]
theorem Lx.name{w:Wd}(h:∀x∈w,q2f x=true)(h0:w≠[])(h8:w.length<=8):Lx w [w]:=by
 cases w with
 | nil=>exact absurd rfl h0
 | cons c r=>
  have B:=h c (by simp);refine Lx.tok (y6r B) (fun rest hr=>?_) (v0i (fun _=>k2g) h);obtain⟨a,C,D⟩:=k8d (s:=c::r) (by simp)
  have A:∀b,rest.head?=some b->q2f b=false:=fun b A=>by
   have:=hr a b C A
   simp only[y1v,h a D,Bool.true_and,Bool.or_eq_false_iff]at this;exact this.1
  have e:=k9j r rest (fun x hx=>h x (by simp[hx])) A;rw[List.cons_append];simp only[q5b,q0r,B,if_true,e];simp only[List.length_cons]at h8⊢;exact⟨decide_eq_true h8,trivial⟩
theorem Lx.num(n:Nat)(hn:n<=999999):Lx (q2n n) [q2n n]:=by
 have B:=q9r n;have D:=q8a 5 n (by omega)
 have K:∀c r,q2n n=c::r->(c != 48||r.length==0)=true:=fun c r e=>by
  rcases Nat.eq_zero_or_pos n with h|h
  ·subst h;rw[q2n,dif_pos (by omega)]at e;cases e;rfl
  ·obtain⟨d,z,H,A⟩:=k1c n h;rw[e,List.cons.injEq]at H;rw[H.1];simp[A]
 cases A:q2n n with
 | nil=>exact absurd A (z7w n)
 | cons c r=>
  rw[A]at B D;have G:=B c (by simp);have C:q2f c=false:=k4s G;refine Lx.tok (y5v G) (fun rest hr=>?_) (v0i (fun _=>k1g) B);obtain⟨a,I,J⟩:=k8d (s:=c::r) (by simp)
  have E:∀b,rest.head?=some b->q4f b=false:=fun b E=>by
   have:=hr a b I E
   simp only[y1v,B a J,Bool.true_and,Bool.or_eq_false_iff]at this;exact this.2
  have e:=k9j r rest (fun x hx=>B x (by simp[hx])) E;rw[List.cons_append];simp only[q5b,q0r,G,C,if_true,Bool.false_eq_true,if_false,e];simp only[List.length_cons]at D⊢;exact⟨by rw[decide_eq_true D,K c r A];rfl,trivial⟩
theorem Lx.mark{c:UInt8}(h:y4o c=true):Lx [c] [[c]]:=by
 have G:spB c=false/\q2f c=false/\q4f c=false/\(c==35)=false/\c≠32:=by
  simp only[y4o,y6w,List.any_cons,List.any_nil,Bool.or_false,Bool.or_eq_true,beq_iff_eq]at h;rcases h with h|h|h|h|h|h|h|h|h<;>(subst h;decide)
 obtain⟨A,B,C,D,E⟩:=G;refine Lx.tok A (fun rest _=>?_) (q1n [] E);rw[List.cons_append];simp only[q5b,q0r,B,C,D,Bool.false_eq_true,if_false];exact⟨h,rfl⟩
theorem Lx.pre{c:UInt8}{t:List UInt8}{ws us:List Wd}(h1:Lx [c] ws)(hc:q6n c=true)(h2:Lx t us):Lx (c::t) (ws++us):=
 Lx.app h1 h2 (q8b hc [] t)
theorem Lx.post{c:UInt8}{s:List UInt8}{ws us:List Wd}(h1:Lx s ws)(hc:q6n c=true)(h2:Lx [c] us):Lx (s++[c]) (ws++us):=
 Lx.app h1 h2 (z5w hc [])
def z0w(t l:Wd):Wd:=(if l≠[]/\t≠[]then t++[32]else t)++l
def ntx(ws:List Wd):Wd:=ws.foldl z0w []
def q4x(w:Wd):Wd:=ntx (q0e (w.drop 1))
def jb:List Wd->Wd
 | []=>[]
 | w::r=>w++match r with
  | []=>[]
  | _::_=>32::jb r
theorem z3z:∀s:List UInt8,jb (q4h s)=s
 | []=>rfl
 | c::r=>by
  have ih:=z3z r;by_cases hc:c=32
  ·subst hc;rw[q5t];cases hs:q4h r with
   | nil=>exact absurd hs (q6o r)
   | cons w ws=>
    rw[hs]at ih;simp[jb,<-ih]
  ·cases hs:q4h r with
   | nil=>exact absurd hs (q6o r)
   | cons w ws=>
    rw[q5u hc hs];rw[hs]at ih;rw[<-ih];simp[jb]
theorem j5f:∀(ws:List Wd)(t:Wd),(∀w∈ws,w≠[])->t≠[]->ws.foldl z0w t=t++(match ws with|[]=>[]|_::_=>32::jb ws)
 | [],t,_,_=>by simp
 | w::r,t,h,ht=>by
  have hw:=h w (by simp);have e:z0w t w=t++32::w:=by simp[z0w,hw,ht]
  rw[List.foldl_cons,e,j5f r _ (fun x hx=>h x (by simp[hx])) (by simp)];cases r with
  | nil=>simp[jb]
  | cons u r=>simp[jb]
theorem v8w{ws:List Wd}(h:∀w∈ws,w≠[]):ntx ws=jb ws:=by
 cases ws with
 | nil=>rfl
 | cons w r=>
  have A:=h w (by simp);have e:z0w [] w=w:=by simp[z0w]
  rw[ntx,List.foldl_cons,e,j5f r w (fun x hx=>h x (by simp[hx])) A];cases r<;>simp[jb]
theorem j8a(ws:List Wd):ntx ([]::ws)=ntx ws:=by
 have e:z0w [] []=[]:=by simp[z0w]
 rw[ntx,List.foldl_cons,e];rfl
theorem z1s{tx:ByteArray}(h:q1x tx=0):(q0e (btL tx)).length<=60/\∀w∈q0e (btL tx),w≠[]/\w.length<=20/\∀b∈w,q5g b=true:=by
 obtain⟨B,C⟩:=q9g h;refine⟨by simpa using B,fun w hw=>?_⟩;have A:=C (wbS w) (List.mem_map.2 ⟨w,hw,rfl⟩);have D:(wbS w).size=w.length:=by rw[<-q0c];rfl
 simp only[okW,Bool.and_eq_true,decide_eq_true_eq,List.all_eq_true,D]at A;refine⟨fun e=>?_,A.1.2,A.2⟩;rw[e]at A;simp at A
def k3x(tx:ByteArray):Wd:=if tx.size=0 then [35]else [35,32]++btL tx
theorem q6m{tx:ByteArray}:tx.size=0↔btL tx=[]:=by
 rw[<-q0c];exact List.length_eq_zero_iff
theorem z6o{tx:ByteArray}(h:q1x tx=0):q4x (k3x tx)=btL tx:=by
 obtain⟨_,E⟩:=z1s h;unfold k3x q4x;by_cases A:tx.size=0
 ·rw[if_pos A,q6m.1 A];rfl
 ·rw[if_neg A];have B:btL tx≠[]:=fun e=>A (q6m.2 e)
  have C:([35,32]++btL tx).drop 1=32::btL tx:=rfl;have D:q0e (btL tx)=q4h (btL tx):=by rw[q0e,if_neg B]
  rw[C,q0e,if_neg (by simp),q5t,j8a,v8w (fun w hw=>(E w (by rw[D];exact hw)).1),z3z]
theorem z8q{p:UInt8->Bool}(A:p 32=true):∀ws:List Wd,(∀w∈ws,∀b∈w,p b=true)->∀b∈jb ws,p b=true
 | [],_,b,hb=>by cases hb
 | [w],h,b,hb=>by
  have e:jb [w]=w:=by simp[jb]
  rw[e]at hb;exact h w (by simp) b hb
 | w::u::r,h,b,hb=>by
  have e:jb (w::u::r)=w++32::jb (u::r):=by simp[jb]
  rw[e]at hb;rcases List.mem_append.1 hb with hb|hb
  ·exact h w (by simp) b hb
  ·rcases List.mem_cons.1 hb with rfl|hb
   ·exact A
   ·exact z8q A (u::r) (fun x hx=>h x (by simp[hx])) b hb
theorem k5r:∀(ws:List Wd),ws≠[]->(∀w∈ws,w≠[])->∃v c,jb ws=v++[c]/\∃w∈ws,c∈w
 | [],h,_=>absurd rfl h
 | [w],_,h=>by
  have hw:=h w (by simp);rcases List.eq_nil_or_concat w with e|⟨v,c,e⟩
  ·exact absurd e hw
  ·exact⟨v,c,by rw[jb,e];simp,w,by simp,by rw[e];simp⟩
 | w::u::r,_,h=>by
  obtain⟨v,c,e,x,hx,hc⟩:=k5r (u::r) (by simp) fun y hy=>h y (by simp[hy])
  exact⟨w++32::v,c,by rw[jb];simp[e],x,by simp[hx],hc⟩
theorem k8m{tx:ByteArray}(h:q1x tx=0):q3u (k3x tx):=by
 obtain⟨_,H⟩:=z1s h;unfold k3x;by_cases I:tx.size=0
 ·rw[if_pos I];exact⟨35,[],rfl,rfl,rfl,rfl,rfl⟩
 ·rw[if_neg I];have J:btL tx≠[]:=fun e=>I (q6m.2 e)
  have M:q0e (btL tx)=q4h (btL tx):=by rw[q0e,if_neg J]
  rw[M]at H;have L:=z3z (btL tx)
  have D:∀b∈btL tx,prB b=true/\nlB b=true:=by
   intro b B;rw[<-L]at B
   have:=z8q (p:=fun b=>prB b&&nlB b) rfl (q4h (btL tx)) (fun w G b B=>by
    have K:=(H w G).2.2 b B;simp only[q5g,Bool.and_eq_true,decide_eq_true_eq]at K;simp only[prB,nlB,Bool.and_eq_true,decide_eq_true_eq,bne_iff_ne,ne_eq];refine⟨by omega,?_⟩;rintro rfl
    simp at K) b B
   simpa using this
  have E:(32::btL tx).takeWhile nlB=32::btL tx:=by
   have:=k9j (p:=nlB) (32::btL tx) [] (fun x A=>by
    rcases List.mem_cons.1 A with rfl|A
    ·rfl
    ·exact(D x A).2) (fun b B=>by cases B)
   rw[List.append_nil]at this;exact this
  refine⟨35,32::btL tx,rfl,rfl,?_,?_,?_⟩
  ·simp only[q5b];rw[E];simp only[q2f,q4f];show List.all _ _=true;rw[List.all_eq_true];intro x A;rcases List.mem_cons.1 A with rfl|A
   ·rfl
   ·exact(D x A).1
  ·simp only[q0r];rw[E];rfl
  ·obtain⟨v,c,e,w,G,O⟩:=k5r (q4h (btL tx)) (q6o _) (fun w G=>(H w G).1);rw[L]at e
   have C:c≠32:=by
    rintro rfl
    have:=(H w G).2.2 32 O
    revert this;decide
   have N:(35::32::btL tx)=(35::32::v)++[c]:=by rw[e];rfl
   rw[N];exact q1n _ C
inductive Rp where
 | ok (ps:List (List Td)):Rp
 | bad (rest:List Wd):Rp
abbrev z4d:Wd:=[108,101,116]
def ntT(t:Wd):Td:=⟨9,wbS t,0⟩
def z6j(w:Wd):Td:=⟨7,wbS w,0⟩
def doT:Td:=⟨8,⟨#[]⟩,0⟩
def q4u(acc:List (List Td)):Wd:=match acc.getLast? with
 | some (x::_)=>btL x.tx
 | _=>[]
def k7a(pv:Bool)(acc:List (List Td))(t:Wd):List (List Td):=if pv then acc.dropLast++[[ntT (z0w (q4u acc) t)]]else acc++[[ntT t]]
inductive PG:Bool->List (List Td)->List Wd->Rp->Prop where
 | done {pv acc}:PG pv acc [] (.ok acc)
 | note {pv acc w ts r}:w.headD 0=35->PG true (k7a pv acc (q4x w)) ts r->PG pv acc (w::ts) r
 | letN {pv acc ts}:(∀w,ts.head?=some w->nmW w=false)->PG pv acc (z4d::ts) (.bad ts)
 | letE {pv acc nm ts}:nmW nm=true->ts.head?≠some [61]->PG pv acc (z4d::nm::ts) (.bad ts)
 | letB {pv acc nm ts u}:nmW nm=true->PR (.level 0) ts (.bad u)->PG pv acc (z4d::nm::[61]::ts) (.bad u)
 | letX {pv acc nm ts m ns u}:nmW nm=true->PR (.level 0) ts (.ok m ns u)->u.head?≠some [59]->PG pv acc (z4d::nm::[61]::ts) (.bad u)
 | letO {pv acc nm ts m ns u r}:nmW nm=true->PR (.level 0) ts (.ok m ns ([59]::u))->PG false (acc++[z6j nm::ns]) u r->PG pv acc (z4d::nm::[61]::ts) r
 | doB {pv acc w ts u}:w.headD 0≠35->w≠z4d->PR (.level 0) (w::ts) (.bad u)->PG pv acc (w::ts) (.bad u)
 | doX {pv acc w ts m ns u}:w.headD 0≠35->w≠z4d->PR (.level 0) (w::ts) (.ok m ns u)->u.head?≠some [59]->PG pv acc (w::ts) (.bad u)
 | doO {pv acc w ts m ns u r}:w.headD 0≠35->w≠z4d->PR (.level 0) (w::ts) (.ok m ns ([59]::u))->PG false (acc++[doT::ns]) u r->PG pv acc (w::ts) r
theorem q8r:z4d.headD 0≠35:=by decide
theorem z0e{pv:Bool}{B:List (List Td)}{ts:List Wd}{r:Rp}(h:PG pv B ts r):∀{r':Rp},PG pv B ts r'->r=r':=by
 induction h with
 | done=>intro r' A;cases A;rfl
 | note h0 _ ih=>intro r' A;cases A with
  | note _ h2=>exact ih h2
  | letN=>exact absurd h0 q8r
  | letE=>exact absurd h0 q8r
  | letB=>exact absurd h0 q8r
  | letX=>exact absurd h0 q8r
  | letO=>exact absurd h0 q8r
  | doB h2=>exact absurd h0 h2
  | doX h2=>exact absurd h0 h2
  | doO h2=>exact absurd h0 h2
 | letN h0=>intro r' A;cases A with
  | note h2=>exact absurd h2 q8r
  | letN=>rfl
  | letE h2=>rw[h0 _ rfl]at h2;cases h2
  | letB h2=>rw[h0 _ rfl]at h2;cases h2
  | letX h2=>rw[h0 _ rfl]at h2;cases h2
  | letO h2=>rw[h0 _ rfl]at h2;cases h2
  | doB _ h2=>exact absurd rfl h2
  | doX _ h2=>exact absurd rfl h2
  | doO _ h2=>exact absurd rfl h2
 | letE h0 h1=>intro r' A;cases A with
  | note h2=>exact absurd h2 q8r
  | letN h2=>rw[h2 _ rfl]at h0;cases h0
  | letE=>rfl
  | letB=>simp at h1
  | letX=>simp at h1
  | letO=>simp at h1
  | doB _ h2=>exact absurd rfl h2
  | doX _ h2=>exact absurd rfl h2
  | doO _ h2=>exact absurd rfl h2
 | letB h0 h1=>intro r' A;cases A with
  | note h2=>exact absurd h2 q8r
  | letN h2=>rw[h2 _ rfl]at h0;cases h0
  | letE _ h2=>simp at h2
  | letB _ h2=>cases q2v h1 h2;rfl
  | letX _ h2=>cases q2v h1 h2
  | letO _ h2=>cases q2v h1 h2
  | doB _ h2=>exact absurd rfl h2
  | doX _ h2=>exact absurd rfl h2
  | doO _ h2=>exact absurd rfl h2
 | letX h0 h1 h3=>intro r' A;cases A with
  | note h2=>exact absurd h2 q8r
  | letN h2=>rw[h2 _ rfl]at h0;cases h0
  | letE _ h2=>simp at h2
  | letB _ h2=>cases q2v h1 h2
  | letX _ h2 _=>cases q2v h1 h2;rfl
  | letO _ h2 _=>cases q2v h1 h2;simp at h3
  | doB _ h2=>exact absurd rfl h2
  | doX _ h2=>exact absurd rfl h2
  | doO _ h2=>exact absurd rfl h2
 | letO h0 h1 _ ih=>intro r' A;cases A with
  | note h2=>exact absurd h2 q8r
  | letN h2=>rw[h2 _ rfl]at h0;cases h0
  | letE _ h2=>simp at h2
  | letB _ h2=>cases q2v h1 h2
  | letX _ h2 h4=>cases q2v h1 h2;simp at h4
  | letO _ h2 h4=>cases q2v h1 h2;exact ih h4
  | doB _ h2=>exact absurd rfl h2
  | doX _ h2=>exact absurd rfl h2
  | doO _ h2=>exact absurd rfl h2
 | doB h0 h1 h3=>intro r' A;cases A with
  | note h2=>exact absurd h2 h0
  | letN=>exact absurd rfl h1
  | letE=>exact absurd rfl h1
  | letB=>exact absurd rfl h1
  | letX=>exact absurd rfl h1
  | letO=>exact absurd rfl h1
  | doB _ _ h2=>cases q2v h3 h2;rfl
  | doX _ _ h2=>cases q2v h3 h2
  | doO _ _ h2=>cases q2v h3 h2
 | doX h0 h1 h3 h4=>intro r' A;cases A with
  | note h2=>exact absurd h2 h0
  | letN=>exact absurd rfl h1
  | letE=>exact absurd rfl h1
  | letB=>exact absurd rfl h1
  | letX=>exact absurd rfl h1
  | letO=>exact absurd rfl h1
  | doB _ _ h2=>cases q2v h3 h2
  | doX _ _ h2 _=>cases q2v h3 h2;rfl
  | doO _ _ h2 _=>cases q2v h3 h2;simp at h4
 | doO h0 h1 h3 _ ih=>intro r' A;cases A with
  | note h2=>exact absurd h2 h0
  | letN=>exact absurd rfl h1
  | letE=>exact absurd rfl h1
  | letB=>exact absurd rfl h1
  | letX=>exact absurd rfl h1
  | letO=>exact absurd rfl h1
  | doB _ _ h2=>cases q2v h3 h2
  | doX _ _ h2 h4=>cases q2v h3 h2;simp at h4
  | doO _ _ h2 h4=>cases q2v h3 h2;exact ih h4
def okP:Int->List (List Td)->Prop
 | _,[]=>True
 | prev,t::r=>q0b t=0/\¬(opT t=9/\prev=9)/\okP (opT t) r
theorem v8y:∀(ps:List (List Td))(prev:Int)(k:Nat),(q5r prev k ps).2=0->okP prev ps
 | [],_,_,_=>trivial
 | t::r,prev,k,h=>by
  rw[q5r]at h
  split at h
  ·rename_i h1;exact absurd h h1
  ·rename_i h1
   split at h
   ·cases h
   ·rename_i h2;exact⟨by omega,h2,v8y r _ _ h⟩
theorem q6j{ps:List (List Td)}(h:(q0t ps).2=0):ps.length<=20/\okP 0 ps:=by
 unfold q0t at h
 split at h
 ·cases h
 ·exact⟨by omega,v8y ps 0 0 h⟩
theorem k8z:∀(ps:List (List Td))(prev:Int)(pv:Bool)(acc:List (List Td)),okP prev ps->(pv=true->prev=9)->PG pv acc (ps.flatMap q8p) (.ok (acc++ps))
 | [],_,_,acc,_,_=>by simpa using PG.done
 | t::r,prev,pv,acc,h,hpv=>by
  have ih:∀pv',(pv'=true->opT t=9)->PG pv' (acc++[t]) (r.flatMap q8p) (.ok (acc++[t]++r)):=fun pv' h'=>k8z r (opT t) pv' (acc++[t]) h.2.2 h'
  have e0:acc++t::r=acc++[t]++r:=by simp
  rw[e0,List.flatMap_cons];rcases q3h h.1 with⟨x,rfl,A,D,K⟩|⟨x,F,rfl,G,I,V,C⟩
  ·have X:q8p [x]=[k3x x.tx]:=by
    have Z:(Fo.nil).len=kdT x:=by unfold kdT;rw[A];rfl
    have:=z0l (x:=x) (F:=.nil) trivial Z
    rw[show([x]:List Td)=x::Fo.nil.N from rfl,this.2];simp[stK,A,k3x]
   rw[X]
   have O:pv=false:=by
    cases pv with
    | false=>rfl
    | true=>exact absurd ⟨A,hpv rfl⟩ h.2.1
   have C:x=ntT (btL x.tx):=z1w A rfl D;refine .note (by unfold k3x;split<;>rfl) ?_;rw[z6o K,O]
   have H:k7a false acc (btL x.tx)=acc++[[x]]:=by
    rw[k7a];simp only[Bool.false_eq_true,if_false];rw[<-C]
   rw[H];exact ih true (fun _=>A)
  ·have J:F.len=kdT x:=by
    rw[V];unfold kdT;rcases C with⟨h,_⟩|⟨h,_⟩<;>rw[h]<;>rfl
   obtain⟨_,H⟩:=z0l G J;have Q:F.R.length=1:=by rw[q4q];exact V
   obtain⟨t,P⟩:∃t,F.R=[t]:=by
    match F.R,Q with
    | [t],_=>exact⟨t,rfl⟩
   have W:=z0h F G I t (by rw[P];simp)
   have M:t.ns=F.N:=by
    have:=q7q F
    rw[P]at this;simpa using this
   have B:=z8x W (rest:=[59]::r.flatMap q8p) (by simp) (by simp) (by simp);rw[M]at B;rw[H,P];rcases C with⟨A,L,D⟩|⟨A,S,D⟩
   ·have U:stK x [t]++r.flatMap q8p=z4d::btL x.tx::[61]::(t.tk++[59]::r.flatMap q8p):=by simp[stK,A,hdK]
    have C:x=z6j (btL x.tx):=z1w A rfl D;rw[U];refine .letO L B ?_;rw[<-C];exact ih false (fun h=>by cases h)
   ·have U:stK x [t]++r.flatMap q8p=t.tk++[59]::r.flatMap q8p:=by simp[stK,A,hdK]
    have C:x=doT:=z1w A S D;obtain⟨w,z,Y,a⟩:=W.b;have E:=z3j a;rw[U];rw[Y,List.cons_append]at B⊢;refine .doO E.2.2.2.2 E.2.2.2.1 B ?_;rw[<-C];exact ih false (fun h=>by cases h)
theorem j6q(a:List Wd):many a<=a.length:=List.length_filter_le _ _
theorem k6n{nm:Wd}{ns:List Td}{t:Tn}(h:z2n ns t):many (q8p (z6j nm::ns))<=t.tk.length+4:=by
 obtain⟨F,C,B,D,_⟩:=h;have A:F.len=kdT (z6j nm):=by rw[<-q4q,B];rfl
 have e:=(z0l C A).2;rw[D]at e;have E:=j6q (q8p (z6j nm::ns));have G:(q8p (z6j nm::ns)).length=t.tk.length+4:=by rw[e,B];simp[stK,z6j,hdK]
 omega
theorem j1t{ns:List Td}{t:Tn}(h:z2n ns t):many (q8p (doT::ns))<=t.tk.length+1:=by
 obtain⟨F,C,B,D,_⟩:=h;have A:F.len=kdT doT:=by rw[<-q4q,B];rfl
 have e:=(z0l C A).2;rw[D]at e;have E:=j6q (q8p (doT::ns));have G:(q8p (doT::ns)).length=t.tk.length+1:=by rw[e,B];simp[stK,doT,hdK]
 omega
theorem z2g(w:Wd):many (q8p [ntT w])=0:=by
 have A:(Fo.nil).len=kdT (ntT w):=rfl
 have:=(z0l (x:=ntT w) (F:=.nil) trivial A).2
 rw[show([ntT w]:List Td)=ntT w::Fo.nil.N from rfl,this];simp only[stK,ntT];by_cases h:(wbS w).size=0<;>simp[h,many,z2p]
def q3q(ps:List (List Td)):Nat:=many (ps.flatMap q8p)
theorem q7l(a b:List (List Td)):q3q (a++b)=q3q a+q3q b:=by simp[q3q,z0a]
theorem j0w(a:List (List Td)):q3q a.dropLast<=q3q a:=by
 rcases List.eq_nil_or_concat a with rfl|⟨v,c,rfl⟩
 ·exact Nat.le_refl _
 ·rw[List.concat_eq_append,List.dropLast_concat,q7l];omega
theorem y3o{pv:Bool}{A:List (List Td)}{ts:List Wd}{r:Rp}(h:PG pv A ts r):∀ps,r=.ok ps->q3q ps<=q3q A+many ts:=by
 induction h with
 | done=>intro ps e;cases e;omega
 | note _ _ ih=>
  intro ps e;rename_i pv A w ts r _ _;have C:=ih ps e
  have G:q3q (k7a pv A (q4x w))<=q3q A:=by
   unfold k7a
   split
   ·have:=j0w A
    rw[q7l]
    have B:q3q [[ntT (z0w (q4u A) (q4x w))]]=0:=by
     have:=z2g (z0w (q4u A) (q4x w))
     simpa[q3q]using this
    omega
   ·rw[q7l]
    have B:q3q [[ntT (q4x w)]]=0:=by
     have:=z2g (q4x w)
     simpa[q3q]using this
    omega
  have H:many ts<=many (w::ts):=by
   have:many (w::ts)=many [w]+many ts:=z0a [w] ts
   omega
  omega
 | letN _=>intro ps e;cases e
 | letE _ _=>intro ps e;cases e
 | letB _ _=>intro ps e;cases e
 | letX _ _ _=>intro ps e;cases e
 | letO hn hp _ ih=>
  intro ps e;rename_i pv A nm ts m ns u r _;have C:=ih ps e;obtain⟨t,D,E⟩:=j8w hp;have G:=k6n (nm:=nm) D;have B:q3q [z6j nm::ns]=many (q8p (z6j nm::ns)):=by simp[q3q]
  rw[q7l,B]at C;rw[q3m,q4m (w:=[59]) rfl]at E;rw[q4m (w:=z4d) rfl,q4m (z9h hn),q4m (w:=[61]) rfl];omega
 | doB _ _ _=>intro ps e;cases e
 | doX _ _ _ _=>intro ps e;cases e
 | doO _ _ hp _ ih=>
  intro ps e;rename_i pv A w ts m ns u r _ _ _;have C:=ih ps e;obtain⟨t,D,E⟩:=j8w hp;have G:=j1t D;have B:q3q [doT::ns]=many (q8p (doT::ns)):=by simp[q3q]
  rw[q7l,B]at C;rw[q3m,q4m (w:=[59]) rfl]at E;omega
theorem j5n:∀ws:List Wd,(∀w∈ws,w.length<=20)->(jb ws).length<=21*ws.length
 | [],_=>by simp[jb]
 | [w],h=>by
  have:=h w (by simp)
  simp[jb];omega
 | w::u::r,h=>by
  have h1:=h w (by simp);have h2:=j5n (u::r) fun x hx=>h x (by simp[hx])
  rw[jb,List.length_append];simp only[List.length_cons]at h2⊢;omega
theorem z9i{tx:ByteArray}(h:q1x tx=0):tx.size<=1300:=by
 by_cases A:btL tx=[]
 ·have:=q0c tx
  rw[A]at this;simp at this;omega
 ·obtain⟨D,B⟩:=z1s h;have C:q0e (btL tx)=q4h (btL tx):=by rw[q0e,if_neg A]
  rw[C]at D B;have E:=j5n _ fun w hw=>(B w hw).2.1
  rw[z3z]at E;rw[<-q0c];omega
theorem y5o{y:Td}{k:Fo}(B:(Fo.cons y k .nil).ok)(A:(Fo.cons y k .nil).exs)(hl:(Fo.cons y k .nil).N.length<=40):(q0x y k.R).tx.length<=640:=by
 have C:=v0m _ B A (q0x y k.R) (by simp[Fo.R])
 have D:(q0x y k.R).ns=(Fo.cons y k .nil).N:=by
  have:=q7q (Fo.cons y k .nil)
  simpa[Fo.R]using this
 rw[D]at C;omega
theorem v7r{F:Fo}(h:F.len=1):∃y k,F=.cons y k .nil:=by
 cases F with
 | nil=>cases h
 | cons y k n=>
  cases n with
  | nil=>exact⟨y,k,rfl⟩
  | cons _ _ _=>simp[Fo.len]at h
theorem k9d{ds:List Td}(h:q0b ds=0):(q5i ds).length<=2000:=by
 have B:=(q2j h).1;rcases q3h h with⟨x,rfl,A,_,G⟩|⟨x,F,rfl,C,D,I,J⟩
 ·have E:(Fo.nil).len=kdT x:=by unfold kdT;rw[A];rfl
  have K:q5i [x]=stX x []:=(z0l (x:=x) (F:=.nil) trivial E).1;have L:=z9i G;rw[K];unfold stX;rw[if_neg (by omega),if_neg (by omega)]
  split
  ·simp
  ·simp only[List.length_append,List.length_cons,List.length_nil,q0c];omega
 ·obtain⟨y,k,rfl⟩:=v7r I
  have E:(Fo.cons y k .nil).len=kdT x:=by
   rw[I];unfold kdT;rcases J with⟨A,_⟩|⟨A,_⟩<;>rw[A]<;>rfl
  have N:=y5o C D (by have:=B;simp only[List.length_cons]at this;omega);rw[(z0l C E).1];unfold stX;rcases J with⟨A,H,_⟩|⟨A,_,_⟩
  ·have M:=q1q H;rw[if_pos A];simp only[List.length_append,List.length_cons,List.length_nil,hdT,Fo.R];omega
  ·rw[if_neg (by omega),if_pos A];simp only[List.length_append,List.length_cons,List.length_nil,hdT,Fo.R];omega
theorem j8x:∀ps:List (List Td),(∀t∈ps,q0b t=0)->(q4o ps).length<=2001*ps.length
 | [],_=>by simp[q4o]
 | t::r,h=>by
  have h1:=k9d (h t (by simp));have h2:=j8x r fun x hx=>h x (by simp[hx])
  rw[j1g];simp only[List.length_append,List.length_cons,List.length_nil];omega
end Go.Proofs.YtfdppahhbpfnoaaGreatDoor
