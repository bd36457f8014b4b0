import Derived.Test.YthcpdohdppkmkaaGreatDoorCards
import Derived.ProofKit
import Derived.JoinedOf
import Derived.KernelRfl
import Derived.Test.YthcpdohdppkmkaaGreatDoorPl43
import Derived.RangeFuncNested
import Derived.RangeFuncBound
import Derived.RangeFuncCalls
import Derived.RangeFuncLeaves
import Derived.Shelf.Abstract
import Derived.LoopNIn
import Derived.LoopIn
import Derived.RangeFuncBox
import Derived.RangeFuncFrom
import Derived.Maps.AppendAt
open Go.Proofs.Tryz
namespace Go.Proofs.YthcpdohdppkmkaaGreatDoor
open Go Go.RowKit
set_option maxRecDepth 100000
theorem g0g:laidOutB Tryz.pinned.checked.prog=true:=by kernel_rfl
theorem g0h:mapsRowed Tryz.pinned.checked.prog=true:=by kernel_rfl
theorem g0i:Program.stopsHeard Tryz.pinned.checked.prog=true:=by kernel_rfl
theorem g0e:Program.mayEnter Tryz.pinned.checked.prog=true:=by kernel_rfl
theorem g0f:true=Program.looks Tryz.pinned.checked.prog []:=by kernel_rfl
theorem v2z{P:Program}{f:FuncId}{fn:Func}{s:ChangeSpec}{c:OpenClaim}(hL:laidOutB P=true)(hM:mapsRowed P=true)(hS:P.stopsHeard=true)(hE:P.mayEnter=true)
  (a1:(c.inPlace==P.inPlace f)=true) (a2:(c.unfollowed==P.unfollowed f)=true) (a3:(c.recurses==P.recurses f)=true) (a4:(c.named==P.varsNamed f)=true) (a5:(c.lifted==P.liftsFinal)=true) (a6:(P.make==some c.make)=true)
  (b1:c.wf (OpenSpec.ofChange s)=true) (b2:(fn.params.all (P.readableRec ·)&&namedTie P c.named s.vars&&(c.stops==[])&&(P.stops==[])&&(c.knobs==[])&&(P.stopKnobs==[]))=true)
  (b3:((c.maps==(fn.params.toList++s.plain.varTypes P).any (P.mapsRec ·))&&(c.ifaces==(fn.params.toList++s.plain.varTypes P).any (P.ifacesRec ·))&&(c.mapsOut==P.mapsAmong fn.resultTypes.toList)&&
   (c.loops==(fn.params.toList++s.plain.varTypes P).any (P.loopsFrom ·))&&(c.wideKeys==(fn.params.toList++s.plain.varTypes P++fn.resultTypes.toList).any (P.wideKeysFrom ·))&&
   s.vars.all (P.varReadable ·)&&fn.resultTypes.all (fun t=>P.readableRec t&&decide (t<P.types.size))&&(c.ifacesOut==fn.resultTypes.toList.any (P.ifacesRec ·))&&(c.loopsOut==fn.resultTypes.toList.any (P.loopsFrom ·))&&(c.plainKeys==P.plainKeys)&&c.shortTexts.isNone)=true)
  (b4:((c.kinds==(if c.domain.isEmpty then []else fn.params.toList.map fun t=>match P.underlying t with|some (.int k)=>some k|_=>none))&&(c.pinned==c.pinnedBy)&&
   (c.veiled==(fn.params.toList++s.plain.varTypes P++fn.resultTypes.toList).any (P.veiledRec ·))&&c.veiledFits P fn.params.toList (fn.params.toList++s.plain.varTypes P++fn.resultTypes.toList))=true):joinedFacts P f fn s c=true:=by
 unfold joinedFacts;simp only[Bool.and_eq_true]at b2 b3 b4;obtain⟨⟨⟨⟨⟨C,D⟩,E⟩,G⟩,H⟩,I⟩:=b2;obtain⟨⟨⟨⟨⟨⟨⟨⟨⟨⟨J,K⟩,L⟩,M⟩,N⟩,O⟩,Q⟩,R⟩,S⟩,A⟩,B⟩:=b3;obtain⟨⟨⟨U,V⟩,W⟩,X⟩:=b4;simp only[Bool.and_eq_true];exact⟨⟨⟨⟨⟨⟨⟨⟨⟨⟨⟨⟨⟨⟨⟨⟨⟨⟨⟨⟨⟨⟨⟨⟨⟨⟨⟨⟨⟨⟨⟨b1,hL⟩,hM⟩,C⟩,D⟩,E⟩,G⟩,H⟩,I⟩,a1⟩,a2⟩,a3⟩,a4⟩,J⟩,K⟩,L⟩,M⟩,N⟩,O⟩,Q⟩,R⟩,S⟩,A⟩,B⟩,hS⟩,hE⟩,a5⟩,a6⟩,U⟩,V⟩,W⟩,X⟩
abbrev PaC:Prop:=∀(s:ByteArray)(W:World),Calls prog 9 #[.string s] W fun e w'=>∃ps k f A c,e=.returned (.tuple #[.slice A ps.length c,.int .i64 k,.int .i64 f])/\q4l s ps k f/\Prg w' A ps/\Below W W w'
theorem k2j{n:Nat}(h1:10<=n)(h2:n<=100)(w:World):Calls prog 10 #[.int .i64 (n:Int)] w fun e w'=>e=.returned (.bool true)/\w=w':=by
 have h:=k2i (n:Int) w;rw[show decide (¬((n:Int)<10\/100<(n:Int)))=true by simp;omega]at h;exact h
theorem k7u{wd:Int}(h1:wd<10\/100<wd)(w:World):Calls prog 10 #[.int .i64 wd] w fun e w'=>e=.returned (.bool false)/\w=w':=by
 have h:=k2i wd w;rw[show decide (¬(wd<10\/100<wd))=false by simp;omega]at h;exact h
end Go.Proofs.YthcpdohdppkmkaaGreatDoor
namespace Go.Proofs.YthcpdohdppkmkaaGreatDoor
open Go Go.RowKit Go.Shelf
attribute [local go_sem] Oper.semAt_some
set_option maxRecDepth 100000
set_option maxHeartbeats 2000000
theorem v2u(s:ByteArray)(w:World)(h:Lib.indexByte s.data.toList 10=-1):
  Calls prog 89 #[.string s,.string ⟨#[10]⟩] w fun e w'=>e=.returned (.tuple #[.string s,.string ⟨#[]⟩,.bool false])/\∃n,w'=w.drewN n:=by
 go_in;go_wp2_with(go_at_call 143;refine(z5w _ _ h).mono ?_;rintro e w'⟨rfl,n,rfl⟩);go_ret3;exact⟨rfl,n,rfl⟩
theorem y0q(s:ByteArray)(w:World)(i:Nat)(h:Lib.indexByte s.data.toList 10=i)(hi:i+1<=s.size)(hb:s.size<=100000000):
  Calls prog 89 #[.string s,.string ⟨#[10]⟩] w fun e w'=>e=.returned (.tuple #[.string (s.extract 0 i),.string (s.extract (i+1) s.size),.bool true])/\∃n,w'=w.drewN n:=by
 go_in;go_wp2_with(go_at_call 143;refine(k0n _ _ _ h hi hb).mono ?_;rintro e w'⟨rfl,n,rfl⟩);go_ret3;exact⟨rfl,n,rfl⟩
abbrev LnT:={x:ByteArray // x.size<=100000000}
abbrev v4k(x:LnT):Array Value:=#[.string x.1]
def lft:Value->Value->Nat
 | .string q,.bool true=>q.size+1
 | _,_=>0
theorem z4b(w:World)(n:Nat)(row:Option Nat):w.grownBy (w.drewN n) row:=⟨rfl,rfl,rfl,Nat.le_refl _,fun _ _ _=>rfl⟩
theorem j5v(F:Fence)(n:Nat)(hF:∀f,F.fn f)(U:F.round=none)(hn:1<=n)
  (E:∀s w,Lib.indexByte s.data.toList 10=-1->CallsIn F (n-1) prog 89 #[.string s,.string ⟨#[10]⟩] w fun e w'=>e=.returned (.tuple #[.string s,.string ⟨#[]⟩,.bool false])/\∃n,w'=w.drewN n)
  (K:∀(s:ByteArray)w(i:Nat),Lib.indexByte s.data.toList 10=i->i+1<=s.size->s.size<=100000000->CallsIn F (n-1) prog 89 #[.string s,.string ⟨#[10]⟩] w fun e w'=>e=.returned (.tuple #[.string (s.extract 0 i),.string (s.extract (i+1) s.size),.bool true])/\∃n,w'=w.drewN n)
  (l Bn n₀:Nat) (s:ByteArray) (hs:s.size<=100000000) (J Jx:List LnT->World->Prop)
  (W:World) (hJ:AbidesFrom W.heap.size J)
  (hY:∀pre x W1,J pre W1->pre.length<(q2p s).length->YieldAt F (n-1) prog l (v4k x) W1 fun e W'=>
   (e=.returned (.bool true)/\J (pre++[x]) W'/\Below n₀ W1 W')\/(e=.returned (.bool false)/\Jx (pre++[x]) W'))
  (Y:W.cell? ⟨Bn,0,none⟩=some (.string s)) (h0:J [] W):
  CallsIn F n prog 112 #[.func (.yield l) #[] #[],.pointer (some ⟨Bn,0,none⟩)] W fun e W'=>(∃v,e=.returned v)/\
   ((∃ys:List LnT,ys.map (·.1)=q2p s/\J ys W')\/(∃pre:List LnT,pre.map (·.1) <+:q2p s/\Jx pre W')):=by
 refine callsIn_of_wp func112 rfl (hF 112) ?_ U;simp only[ntmps112,List.size_toArray,List.length_cons,List.length_nil,Nat.reduceAdd,Nat.reduceSub,Array.replicate_succ,Array.replicate_zero,List.push_toArray,List.append_toArray,List.nil_append,List.cons_append]
 gi_wp2
 gi_loopw [3,4] (fun r f wr=>∃(pre:List LnT)(q:ByteArray)(b:Bool),r=.string q/\f=.bool b/\q.size<=100000000/\q2p s=pre.map (·.1)++(if b then q2p q else [])/\J pre wr/\W.heap.size<=wr.heap.size)
  (fun r f _=>lft r f)
 case atStart=>
  exact⟨[],s,true,rfl,rfl,hs,by simp,h0,Nat.le_refl _⟩
 case round=>
  obtain⟨pre,q,b,rfl,rfl,P,H,D,N⟩:=hrel;cases b with
  | false=>
   gi_wp2
   go_end0
   exact⟨⟨_,rfl⟩,.inl ⟨pre,by simpa using H.symm,D⟩⟩
  | true=>
   simp only[if_true]at H;rcases v3u q.data.toList with L|⟨i,L⟩
   ·have M:=j5y q L;have B:Hid (q2p s=pre.map (·.1)++[q]):=by rw[<-M];exact H
    clear H M
    gi_wp2_with fail
    refine(E q wr L).mono ?_;rintro e Z⟨rfl,k,rfl⟩;have C:J pre (wr.drewN k):=hJ _ _ _ none D (z4b _ _ _) (by simp);obtain⟨fn,O,A,I,V,Q⟩:=hY pre ⟨q,P⟩ _ C (by rw[B.o];simp);dsimp only[v4k]at V
    gi_wp2
    refine Q.mono ?_;rintro e X (⟨rfl,hJ3,hk3⟩|⟨rfl,hJx3⟩)
    ·gi_wp2
     go_roundw
     case rel=>exact⟨pre++[⟨q,P⟩],⟨#[]⟩,false,rfl,rfl,Nat.zero_le _,by rw[B.o];simp,hJ3,Nat.le_trans N hk3.size⟩
     case measure=>simp[lft]
    ·gi_wp2
     refine bodyPost_ret (results_none rfl _ _ _) rfl ?_;exact⟨⟨_,rfl⟩,.inr ⟨pre++[⟨q,P⟩],by rw[B.o];simp,hJx3⟩⟩
   ·obtain⟨R,M⟩:=v4m q i L;have B:Hid (q2p s=pre.map (·.1)++(q.extract 0 i::q2p (q.extract (i+1) q.size))):=by rw[<-M];exact H
    clear H M;have G:(q.extract 0 i).size<=100000000:=by simp;omega
    have S:(q.extract (i+1) q.size).size<=100000000:=by simp;omega
    have a:(q.extract (i+1) q.size).size<q.size:=by simp;omega
    gi_wp2_with fail
    refine(K q wr i L R P).mono ?_;rintro e Z⟨rfl,k,rfl⟩;have C:J pre (wr.drewN k):=hJ _ _ _ none D (z4b _ _ _) (by simp);obtain⟨fn,O,A,I,V,Q⟩:=hY pre ⟨q.extract 0 i,G⟩ _ C (by rw[B.o];simp);dsimp only[v4k]at V
    gi_wp2
    refine Q.mono ?_;rintro e X (⟨rfl,hJ3,hk3⟩|⟨rfl,hJx3⟩)
    ·gi_wp2
     go_roundw
     case rel=>exact⟨pre++[⟨q.extract 0 i,G⟩],q.extract (i+1) q.size,true,rfl,rfl,S,by rw[B.o];simp,hJ3,Nat.le_trans N hk3.size⟩
     case measure=>simp only[lft];omega
    ·gi_wp2
     refine bodyPost_ret (results_none rfl _ _ _) rfl ?_;exact⟨⟨_,rfl⟩,.inr ⟨pre++[⟨q.extract 0 i,G⟩],by rw[B.o];exact⟨q2p (q.extract (i+1) q.size),by simp⟩,hJx3⟩⟩
theorem z4g(n:Nat)(hn:1<=n)(Bn n₀:Nat)(s:ByteArray)(hs:s.size<=100000000)(w:World)(hBn:Bn<w.heap.size)(hc:w.cell? ⟨Bn,0,none⟩=some (.string s)):
  SeqStopsK Fence.wide n prog 112 #[.pointer (some ⟨Bn,0,none⟩)] v4k (Below n₀) (fun ys=>ys.map (·.1)=q2p s) (fun pre=>pre.map (·.1) <+:q2p s) (q2p s).length w:=fun l J Jx W hW hJ _ hY h0=>
 j5v Fence.wide n (fun _=>trivial) rfl hn (fun s w h=>callsIn_wide.2 (v2u s w h)) (fun s w i h1 h2 h3=>callsIn_wide.2 (y0q s w i h1 h2 h3)) l Bn n₀ s hs J Jx W hJ hY ((hW.cell (p:=⟨Bn,0,none⟩) hBn).trans hc) h0
theorem j5w(s:ByteArray)(w:World):
  Calls prog 66 #[.string s] w fun e w'=>e=.returned (.func (.func 112) #[] #[.pointer (some ⟨w,0,none⟩)])/\w'=w.alloc (.cells #[.string s] 9):=by
 go_in;go_wp2;go_ret;exact⟨rfl,rfl⟩
attribute [local go_sem] Oper.semAt_some
set_option maxRecDepth 100000
set_option maxHeartbeats 2000000
theorem k7a(s:ByteArray):(q2p s).length<=s.size+1:=by
 have:=j6a s.data.toList
 rw[<-Lib.size_eq]at this;unfold q2p;simpa using this
def lnV(pre:List LnT):List Value:=strCells (pre.map (·.1))
theorem v4l(A:List LnT)(x:LnT):lnV (A++[x])=lnV A++[.string x.1]:=by simp[lnV,strCells]
theorem j2c(n:Nat)(hn:3<=n)(s:ByteArray)(hs:s.size<=100000000)(Bn:Nat)(w:World)(V:Bn<w.heap.size)(hc:w.cell? ⟨Bn,0,none⟩=some (.string s)):
  CallsIn Fence.wide n prog 135 #[.slice none 0 0,.func (.func 112) #[] #[.pointer (some ⟨Bn,0,none⟩)]] w fun e w'=>∃A c,e=.returned (.slice A (q2p s).length c)/\q1x w (.slice A (q2p s).length c) (q2p s) w'/\Below w w w':=by
 have u:1<=n:=by omega
 have j:(q2p s).length<=100000001:=by have:=k7a s;omega
 obtain⟨i0,hi,a,b,d⟩:=info_parts q9d;obtain⟨F,E⟩:∃F,F=Fence.wide:=⟨_,rfl⟩;rw[<-E];have i:∀f,F.fn f:=fun f=>by rw[E];trivial
 have Q:F.round=none:=by rw[E];rfl
 have U:Hid (F=Fence.wide):=E;have m:=Boxed.new w 42 (.slice none 0 0);have N:Below w w (w.alloc (.cells #[.slice none 0 0] 42)):=(Below.refl _ w).alloc Zl _;have I:=z4g (n-1) (by omega) Bn w.heap.size s hs (w.alloc (.cells #[.slice none 0 0] 42)) (by simp;omega) ((N.cell (p:=⟨Bn,0,none⟩) V).trans hc);rw[<-U.o]at I;clear E;refine callsIn_of_wp_marks func135 rfl (i 135) ?_ Q;simp only[ntmps135,List.size_toArray,List.length_cons,List.length_nil,Nat.reduceAdd,Nat.reduceSub,Array.replicate_succ,Array.replicate_zero,List.push_toArray,List.append_toArray,List.nil_append,List.cons_append]
 gi_wp2
 refine wpIn_rangeFunc_ownF Q u (gf:=112) (lb:=#[.pointer (some ⟨Bn,0,none⟩)]) rfl (i 112) (enters_of func112 (by kernel_rfl) rfl)
  I belowK_t (belowK_b (by simp)) Zb (fun _=>rfl)
  (fun C W=>(∃v,Boxed W w.heap.size 42 v/\W.ownsRow w.heap.size 9 1 v C.length (lnV C)/\True)/\Below w w W)
  (fun _ _ _=>False)
  (OwnFrom.and (Own.from (holdsRow_own w.heap.size w.heap.size 42 9 1 (fun C:List LnT=>C.length) (fun C=>lnV C) (fun _ _=>True)) _) (ownFrom_below Zl (by simp)))
  (fun _ _ _ _ _ hs _ _=>hs)
  ⟨⟨_,m,World.ownsRow_nil _ _ _ _,trivial⟩,N⟩
  (fun x=>{tmps:=#[.slice none 0 0,.func (.func 112) #[] #[.pointer (some ⟨Bn,0,none⟩)],.pointer (some ⟨w,0,none⟩),undef,.slice none 0 0,.string x.1,.func (.func 112) #[] #[.pointer (some ⟨Bn,0,none⟩)],.string x.1,undef,undef,undef,undef,undef],defers:=[]}) ?assign ?body ?done ?stop
 case assign=>
  intro l x W K O
  gi_wp2
  exact O
 case body=>
  rintro l C x W⟨⟨v,J,B,_⟩,M⟩Ab;have hc:=J.cell
  gi_wp2_with (gi_at_builtin;refine wpListIn_append_own _ rfl _ _ 42 rfl w.heap.size 9 i0 (.string ⟨#[]⟩) 1 16 Tryz.underlying42 hi a b d rfl (by decide) _ _ _ rfl (B.alloc _) ⟨W,0,none⟩ 1 1 [.string x.1] rfl rfl (cell_one_new _ _ _) (by simp[Value.oneCell']) (by unfold maxLen;omega) (by omega) (by have:=M.size;simp;omega) ?_;intro v' w1 G L _;obtain⟨r,g,rfl⟩:=ownsRow_succ G;obtain⟨R,Z,Y,X,P⟩:=J.appended (by decide) B M.size Zl G L;have z:=R.cell;have Aa:=R.frozen)
  exact⟨X,P,⟨_,Z,by rw[v4l];simpa using Y,trivial⟩,M.trans P⟩
 case done=>
  rintro D k W y S⟨⟨v,J,B,_⟩,M⟩O;have hc:=J.cell;have hl:k.length=(q2p s).length:=by rw[<-S,List.length_map]
  have H:lnV k=strCells (q2p s):=by rw[lnV,S]
  rw[hl,H]at B
  obtain⟨A,c,rfl⟩:∃A c,v=.slice A (q2p s).length c:=by
   rcases B.2 with⟨J,t⟩|⟨r,o,q,J,_⟩
   ·exact⟨none,0,by rw[J,t]⟩
   ·exact⟨_,o,J⟩
  gi_wp2
  refine⟨by simp,.inl ⟨_,_,rfl,run_takeDeferred O,?_⟩⟩;exact⟨_,results_tmp rfl _ _ _,A,c,rfl,ownsRow_putObj B _ O rfl,M.trans (belowK_b (w:=w) Zl W D _ _ (by simp at y;omega) O rfl rfl)⟩
 case stop=>
  rintro D c C W _ _ h _;exact h.elim
theorem k3k(s:ByteArray)(hs:s.size<=100000000)(Bn:Nat)(w:World)(B:Bn<w.heap.size)(hc:w.cell? ⟨Bn,0,none⟩=some (.string s)):
  Calls prog 81 #[.func (.func 112) #[] #[.pointer (some ⟨Bn,0,none⟩)]] w fun e w'=>∃A c,e=.returned (.slice A (q2p s).length c)/\q1x w (.slice A (q2p s).length c) (q2p s) w'/\Below w w w':=by
 have C:Hid (Calls prog 135 #[.slice none 0 0,.func (.func 112) #[] #[.pointer (some ⟨Bn,0,none⟩)]] w fun e w'=>∃A c,e=.returned (.slice A (q2p s).length c)/\q1x w (.slice A (q2p s).length c) (q2p s) w'/\Below w w w'):=callsIn_wide.1 (j2c 3 Zl s hs Bn w B hc);clear hc hs
 generalize(q2p s).length=nl at C⊢
 go_in;go_wp2_with fail;refine C.o.mono ?_;rintro e H⟨A,c,rfl,D,G⟩;have E:Hid (q1x w (.slice A nl c) (q2p s) H):=D;clear D;go_wp2;go_ret;exact⟨A,c,rfl,E.o,G⟩
end Go.Proofs.YthcpdohdppkmkaaGreatDoor
namespace Go.Proofs.YthcpdohdppkmkaaGreatDoor
open Go Go.RowKit
theorem z6r{s:ByteArray}{ps:List (List Td)}{k:Int}(h:q4l s ps k 0):q5o (btL s)=0/\PG false [] (q2m (btL s)) (.ok ps)/\(q0r ps).2=0:=by
 generalize A:(0:Int)=z at h;cases h with
 | lex h1=>exact absurd A.symm h1
 | bad=>cases A
 | full _ _ h1=>exact absurd A.symm h1
 | ok h1 h2 h3=>exact⟨h1,h2,h3⟩
def fdL:List UInt8->List UInt8->Nat->Int
 | [],[],_=>-1
 | [],c::_,l=>if c=10 then(l:Int)+1 else l
 | c::_,[],l=>if c=10 then(l:Int)+1 else l
 | a::r,b::s,l=>if a=b then fdL r s (if a=10 then l+1 else l)else l
theorem j3w:∀(a:List UInt8)(l:Nat),fdL a a l=-1
 | [],_=>rfl
 | a::r,l=>by rw[fdL,if_pos rfl];exact j3w r _
def cmn{α:Type}[DecidableEq α]:List α->List α->Nat
 | x::a,y::b=>if x=y then cmn a b+1 else 0
 | _,_=>0
theorem z3d(c:UInt8)(r:List UInt8):∃h t,lns r=h::t/\lns (c::r)=if c=10 then []::h::t else(c::h)::t:=by
 cases B:lns r with
 | nil=>exact absurd B (j6b r)
 | cons h t=>
  refine⟨h,t,rfl,?_⟩;rw[lns,B];by_cases A:c=10
  ·rw[if_pos A,if_pos (by simp[A])]
  ·rw[if_neg A,if_neg (by simp[A])];rfl
theorem j3d:∀(a b:List UInt8)(l:Nat),a≠b->((l+cmn (lns a) (lns b):Nat):Int)=fdL a b l
 | [],[],_,h=>absurd rfl h
 | [],c::r,l,_=>by
  obtain⟨h,t,_,e⟩:=z3d c r;rw[e,fdL];by_cases hc:c=10
  ·rw[if_pos hc,if_pos hc];simp[lns,cmn]
  ·rw[if_neg hc,if_neg hc];simp[lns,cmn]
 | c::r,[],l,_=>by
  obtain⟨h,t,_,e⟩:=z3d c r;rw[e,fdL];by_cases hc:c=10
  ·rw[if_pos hc,if_pos hc];simp[lns,cmn]
  ·rw[if_neg hc,if_neg hc];simp[lns,cmn]
 | x::a,y::b,l,h=>by
  obtain⟨h1,t1,e1,f1⟩:=z3d x a;obtain⟨h2,t2,e2,f2⟩:=z3d y b;rw[f1,f2,fdL];by_cases hxy:x=y
  ·subst hxy;have hne:a≠b:=fun e=>h (by rw[e])
   rw[if_pos rfl];by_cases hx:x=10
   ·have ih:=j3d a b (l+1) hne;rw[e1,e2]at ih;rw[if_pos hx,if_pos hx,if_pos hx,<-ih,cmn,if_pos rfl];omega
   ·have ih:=j3d a b l hne;rw[e1,e2]at ih;rw[if_neg hx,if_neg hx,if_neg hx,<-ih,cmn,cmn];simp
  ·rw[if_neg hxy]
   have h0:cmn (if x=10 then []::h1::t1 else(x::h1)::t1) (if y=10 then []::h2::t2 else(y::h2)::t2)=0:=by
    by_cases hx:x=10
    ·have A:y≠10:=fun e=>hxy (by rw[hx,e])
     rw[if_pos hx,if_neg A,cmn,if_neg (by simp)]
    ·by_cases A:y=10
     ·rw[if_neg hx,if_pos A,cmn,if_neg (by simp)]
     ·rw[if_neg hx,if_neg A,cmn,if_neg (by simp[hxy])]
   rw[h0];rfl
theorem j3e{α β:Type}[DecidableEq α] [DecidableEq β](f:α->β)(hf:∀x y,f x=f y->x=y):∀a b:List α,cmn (a.map f) (b.map f)=cmn a b
 | [],b=>by simp[cmn]
 | x::a,[]=>by simp[cmn]
 | x::a,y::b=>by
  rw[List.map_cons,List.map_cons,cmn,cmn,j3e f hf a b];by_cases h:x=y
  ·rw[if_pos h,if_pos (by rw[h])]
  ·rw[if_neg h,if_neg (fun e=>h (hf x y e))]
theorem v7v{α:Type}[DecidableEq α]:∀(a b:List α)(n:Nat),a.take n=b.take n->n<=a.length->n<=b.length->(∀(h1:n<a.length)(h2:n<b.length),a[n]≠b[n])->cmn a b=n
 | [],b,n,_,h,_,_=>by
  have:n=0:=Nat.le_zero.1 h
  subst this;simp[cmn]
 | x::a,[],n,_,_,h,_=>by
  have:n=0:=Nat.le_zero.1 h
  subst this;simp[cmn]
 | x::a,y::b,0,_,_,_,hd=>by
  have:=hd (by simp) (by simp)
  rw[cmn,if_neg (by simpa using this)]
 | x::a,y::b,n+1,ht,ha,hb,hd=>by
  rw[List.take_succ_cons,List.take_succ_cons]at ht;obtain⟨rfl,hu⟩:=List.cons.inj ht
  rw[cmn,if_pos rfl,v7v a b n hu (by simpa using ha) (by simpa using hb) (fun h1 h2=>by
   have:=hd (by simpa using h1) (by simpa using h2)
   simpa using this)]
theorem y2e(x y:List UInt8)(h:(⟨x.toArray⟩:ByteArray)=⟨y.toArray⟩):x=y:=by
 have:=congrArg (fun b:ByteArray=>b.data.toList) h
 simpa using this
theorem j3c(a b:ByteArray)(n:Nat)(ht:(q2p a).take n=(q2p b).take n)(ha:n<=(q2p a).length)(hb:n<=(q2p b).length)(hd:∀(h1:n<(q2p a).length)(h2:n<(q2p b).length),(q2p a)[n]≠(q2p b)[n]):cmn (lns a.data.toList) (lns b.data.toList)=n:=by
 rw[<-j3e (fun l:List UInt8=>(⟨l.toArray⟩:ByteArray)) y2e];exact v7v _ _ n ht ha hb hd
abbrev g0a:Prop:=∀(t:List Td)(a:Option Addr)(cap:Nat)(wd:Int)(w:World),t.length<=cap->Tds w a t->j1k t->z2t w->
 Calls prog 22 #[.slice a t.length cap,.int .i64 wd] w fun e w'=>e=.returned (.tuple #[.string (v1s t wd),q1r (k4t t wd)])/\Below w w w'
def z3h(s:ByteArray)(wd:Int)(w:World)(e:Ending)(w':World):Prop:=∃T k f,e=.returned (.tuple #[.string T,.int .i64 k,q1r f])/\k5r s wd T k f/\Below w w w'
abbrev y8a:Prop:=∀(s:ByteArray)(wd:Int)(w:World),z2t w->Calls prog 18 #[.string s,.int .i64 wd] w fun e w'=>z3h s wd w e w'
theorem k4u{t:List Td}{wd:Int}(h:k4t t wd≠0):v1s t wd=⟨#[]⟩:=by rw[v1s,if_neg h]
theorem j8n{t:List Td}{n:Nat}(h:k4t t (n:Int)=0):v1s t (n:Int)=wbS (z4l n t):=by rw[v1s,if_pos h];rfl
end Go.Proofs.YthcpdohdppkmkaaGreatDoor
namespace Go.Proofs.YthcpdohdppkmkaaGreatDoor
open Go Go.RowKit Go.Shelf
attribute [local go_sem] Oper.semAt_some
set_option maxRecDepth 100000
set_option maxHeartbeats 4000000
theorem y4o{W:World}{B i:Nat}{xs:Array Value}{t:TypeId}{v:Value}(h:W.heap[B]?=some (.cells xs t (0,0)))(hi:xs[i]?=some v):W.cell? ⟨B,i,none⟩=some v/\W.frozen? ⟨B,i,none⟩=false:=by
 constructor<;>simp[World.cell?,World.frozen?,h,hi]
theorem q9w(W:World)(xs:Array Value)(t:TypeId)(i:Nat)(v:Value)(hi:xs[i]?=some v):(W.alloc (.cells xs t)).cell? ⟨W,i,none⟩=some v/\(W.alloc (.cells xs t)).frozen? ⟨W,i,none⟩=false:=y4o (World.alloc_heap_new W _) hi
theorem z7w{W:World}{a:Addr}{v:Value}(o:Obj)(h:W.cell? a=some v):(W.alloc o).cell? a=some v:=cell_kept h (World.grownBy_alloc W o none) (fun r e=>by cases e)
theorem v3t{W:World}{a:Addr}{v:Value}(o:Obj)(h:W.cell? a=some v)(hf:W.frozen? a=false):(W.alloc o).frozen? a=false:=(frozen_kept h (World.grownBy_alloc W o none) (fun r e=>by cases e)).trans hf
def Alk(b:ByteArray)(pre:List LnT):Prop:=pre.length<=(q2p b).length/\pre.map (·.1)=(q2p b).take pre.length
def Oth(b:ByteArray)(k:Nat)(pre:List LnT):Prop:=∃p0 x,pre=p0++[x]/\Alk b p0/\p0.length=k/\∀h:k<(q2p b).length,x.1≠(q2p b)[k]
theorem v1x{b:ByteArray}{A:List LnT}{x:LnT}(h:Alk b A)(hl:A.length<(q2p b).length)(hx:x.1=(q2p b)[A.length]):Alk b (A++[x]):=by
 refine⟨by simp;omega,?_⟩;rw[List.map_append,h.2,List.length_append,List.map_cons,List.map_nil,List.length_singleton,List.take_succ_eq_append_getElem hl,hx]
theorem v1w{a b:ByteArray}{ys:List LnT}(h:Alk b ys)(hy:ys.map (·.1)=q2p a):cmn (lns a.data.toList) (lns b.data.toList)=ys.length:=by
 have A:(q2p a).length=ys.length:=by rw[<-hy,List.length_map]
 refine j3c a b ys.length ?_ (by omega) h.1 (fun h1 _=>by omega);rw[<-h.2,hy,List.take_of_length_le (by omega)]
theorem v1y{a b:ByteArray}{k:Nat}{A:List LnT}(h:Oth b k A)(hp:A.map (·.1) <+:q2p a):cmn (lns a.data.toList) (lns b.data.toList)=k:=by
 obtain⟨C,x,rfl,D,rfl,E⟩:=h;obtain⟨r,B⟩:=hp;rw[List.map_append,List.map_cons,List.map_nil,List.append_assoc,List.singleton_append]at B;have G:(C.map (·.1)).length=C.length:=List.length_map _;refine j3c a b C.length ?_ (by rw[<-B];simp) D.1 (fun q1 q2 e=>E q2 ?_)
 ·rw[<-B,List.take_append_of_le_length (by omega),List.take_of_length_le (by omega),D.2]
 ·rw[<-e]
  have:(q2p a)[C.length]?=some x.1:=by rw[<-B,List.getElem?_append_right (by omega),G,Nat.sub_self];rfl
  rw[List.getElem?_eq_getElem q1]at this;exact(Option.some.inj this).symm
theorem j3j(n:Nat)(hn:5<=n)(a b:ByteArray)(ha:a.size<=100000000)(hb:b.size<=100000000)(w:World):
  CallsIn Fence.wide n prog 41 #[.string a,.string b] w fun e w'=>e=.returned (.int .i64 ((cmn (lns a.data.toList) (lns b.data.toList):Nat):Int))/\Below w w w':=by
 have h1:1<=n:=by omega
 have lb:(q2p b).length<=100000001:=by have:=k7a b;omega
 obtain⟨m,J⟩:∃m,cmn (lns a.data.toList) (lns b.data.toList)=m:=⟨_,rfl⟩;have HM:Hid (cmn (lns a.data.toList) (lns b.data.toList)=m):=J;rw[J];clear J;obtain⟨F,H⟩:∃F,F=Fence.wide:=⟨_,rfl⟩;rw[<-H];have hF:∀f,F.fn f:=fun f=>by rw[H];trivial
 have i:F.round=none:=by rw[H];rfl
 have P:Hid (F=Fence.wide):=H;clear H;refine callsIn_of_wp_marks func41 rfl (hF 41) ?_ i;simp only[ntmps41,List.size_toArray,List.length_cons,List.length_nil,Nat.reduceAdd,Nat.reduceSub,Array.replicate_succ,Array.replicate_zero,List.push_toArray,List.append_toArray,List.nil_append,List.cons_append];have d:=(q9w w #[.string b] 9 0 (.string b) rfl).1
 gi_wp2_with (first
  | (gi_at_call 66;rw[P.o];refine(callsIn_wide.2 (j5w _ _)).mono ?_;rintro e w'⟨rfl,rfl⟩)
  | (gi_at_call 81;rw[P.o];refine(callsIn_wide.2 (k3k b hb w.heap.size _ (by simp) d)).mono ?_;rintro e E⟨A,c,rfl,hO,b2⟩))
 rename_i Q0 K0 hK0;have R:Below w w E:=((Below.refl _ w).alloc Zl _).trans (b2.mono (by simp));have HW:Hid (z2r E.heap.size E A (q2p b)):=q3p hO;have j:w.heap.size<=E.heap.size:=R.size;clear b2 hO d;have c0:=q9w E #[.slice A (q2p b).length c] 42 0 (.slice A (q2p b).length c) rfl;have q:=q9w (E.alloc (.cells #[.slice A (q2p b).length c] 42)) #[.int .i64 0] 3 0 (.int .i64 0) rfl;have c2:=q9w ((E.alloc (.cells #[.slice A (q2p b).length c] 42)).alloc (.cells #[.int .i64 0] 3)) #[.string a] 9 0 (.string a) rfl;simp only[World.size_alloc]at q c2;have t:Below E E (((E.alloc (.cells #[.slice A (q2p b).length c] 42)).alloc (.cells #[.int .i64 0] 3)).alloc (.cells #[.string a] 9)):=(((Below.refl _ E).alloc Zl _).alloc (by simp) _).alloc (by simp;omega) _;have O:=z4g (n-1) (by omega) (E.heap.size+1+1) E.heap.size a ha _ (by simp) c2.1;rw[<-P.o]at O
 refine wpIn_rangeFunc_ownF i h1 (gf:=112) (lb:=#[.pointer (some ⟨E.heap.size+1+1,0,none⟩)]) rfl (hF 112) (enters_of func112 (by kernel_rfl) rfl)
  O belowK_t (belowK_b (by simp;omega)) Zb (fun _=>rfl)
  (fun C W=>(W.cell? ⟨E,0,none⟩=some (.slice A (q2p b).length c)/\W.cell? ⟨E.heap.size+1,0,none⟩=some (.int .i64 (C.length:Int))/\W.frozen? ⟨E.heap.size+1,0,none⟩=false/\Alk b C)/\Below E E W)
  (fun cd C W=>(W.cell? ⟨E.heap.size+1,0,none⟩=some (.int .i64 ((C.length-1:Nat):Int))/\cd=.exit 0/\Oth b (C.length-1) C)/\Below E E W)
  (OwnFrom.and (Own.from (fun s A B row hs U hr=>⟨cell_kept hs.1 U hr,cell_kept hs.2.1 U hr,(frozen_kept hs.2.1 U hr).trans hs.2.2.1,hs.2.2.2⟩) _) (ownFrom_below Zl (by simp;omega)))
  (fun _=>OwnFrom.and (Own.from (fun s A B row hs U hr=>⟨cell_kept hs.1 U hr,hs.2⟩) _) (ownFrom_below Zl (by simp;omega)))
  ⟨⟨z7w _ (z7w _ c0.1),z7w _ q.1,v3t _ q.1 q.2,Nat.zero_le _,rfl⟩,t⟩
  (fun x=>{tmps:=#[.string a,.string b,undef,undef,.int .i64 0,.pointer (some ⟨E,0,none⟩),.pointer (some ⟨E.heap.size+1,0,none⟩),.string x.1,.string b,.func (.func 112) #[] #[.pointer (some ⟨w,0,none⟩)],.slice A (q2p b).length c,.string a,.func (.func 112) #[] #[.pointer (some ⟨E.heap.size+1+1,0,none⟩)],.string x.1,undef,undef,undef,undef,undef,undef,undef,undef,undef,undef,undef,undef,undef,undef,undef],defers:=[]}) ?assign ?body ?done ?stop
 case assign=>
  intro l x W K S
  gi_wp2
  exact S
 case body=>
  rintro l C x W⟨⟨k0,V,Q,G⟩,M⟩Ab;have Aa:=G.1;have r:Hid (Alk b C):=G;have I:(C++[x]).length-1=C.length:=by simp
  have Ad:=x.2;generalize hx:x.1=xs at Ad;have HX:Hid (x.1=xs):=hx;clear G Ab hx;by_cases y:C.length=(q2p b).length
  ·have Y:Hid (Oth b C.length (C++[x])):=⟨C,x,rfl,r.o,rfl,fun h=>by omega⟩;have z:((C.length:Int)==((q2p b).length:Int))=true:=by simp[y]
   clear y
   generalize(q2p b).length=L at *
   gi_wp2
   exact⟨KeepsOthers.refl _,⟨by rw[I];exact V,rfl,by rw[I];exact Y.o⟩,M⟩
  ·have Z:C.length<(q2p b).length:=by omega
   have z:((C.length:Int)==((q2p b).length:Int))=false:=by simp;omega
   obtain⟨g,o,rfl,U,hc⟩:=HW.o C.length Z;have v:W.cell? ⟨g,o+C.length,none⟩=some (.string (q2p b)[C.length]):=(M.cell (p:=⟨g,_,none⟩) U).trans hc;have Ae:(C.length:Int)<((q2p b).length:Int):=by omega
   clear hc y Aa;by_cases X:xs=(q2p b)[C.length]
   ·have Y:Hid (Alk b (C++[x])):=v1x r.o Z (by rw[HX.o];exact X);rw[<-X]at v;have Ac:(xs.toList==xs.toList)=true:=by simp
    clear X
    generalize(q2p b).length=L at *
    gi_wp2
    refine⟨KeepsOthers.setCell _ _ _,(Below.refl _ W).setCell (p:=⟨E.heap.size+1,0,none⟩) (by simp) _,⟨(cso (by omega)).trans k0,(css V).trans ?_,csf.trans Q,Y.o⟩,M.setCell (p:=⟨E.heap.size+1,0,none⟩) (by simp) _⟩;simp
   ·have Y:Hid (Oth b C.length (C++[x])):=⟨C,x,rfl,r.o,rfl,fun h=>by rw[HX.o];exact X⟩
    have Ac:(xs.toList==(q2p b)[C.length].toList)=false:=by
     simp only[beq_eq_false_iff_ne,ne_eq,ByteArray.toList_eq];exact fun h=>X (ByteArray.ext (Array.toList_inj.1 h))
    clear X
    generalize(q2p b)[C.length]=ys at *
    generalize(q2p b).length=L at *
    gi_wp2
    exact⟨KeepsOthers.refl _,⟨by rw[I];exact V,rfl,by rw[I];exact Y.o⟩,M⟩
 case done=>
  rintro D ys W u k⟨⟨k0,V,Q,G⟩,M⟩S;have J:ys.length=m:=by rw[<-HM.o];exact(v1w G k).symm
  rw[J]at V;apply hK0;clear G k k0 Q J
  gi_wp2
  refine⟨by simp,.inl ⟨_,_,rfl,run_takeDeferred S,?_⟩⟩;exact⟨_,results_tmp rfl _ _ _,rfl,R.trans (((M.trans (belowK_b (w:=E) Zl W D _ _ (by simp at u;omega) S rfl rfl))).mono j)⟩
 case stop=>
  rintro D cd C W u N⟨⟨V,rfl,G⟩,M⟩S;have J:C.length-1=m:=by rw[<-HM.o];exact(v1y G N).symm
  rw[J]at V;clear G N J
  gi_wp2
  refine⟨by simp,.inl ⟨_,_,rfl,run_takeDeferred S,?_⟩⟩;exact⟨_,results_tmp rfl _ _ _,rfl,R.trans (((M.trans (belowK_b (w:=E) Zl W D _ _ (by simp at u;omega) S rfl rfl))).mono j)⟩
theorem k8z(a b:ByteArray)(ha:a.size<=100000000)(hb:b.size<=100000000)(A:a≠b)(w:World):
  Calls prog 41 #[.string a,.string b] w fun e w'=>e=.returned (.int .i64 (fdL (btL a) (btL b) 0))/\Below w w w':=by
 have h:=callsIn_wide.1 (j3j 5 Zl a b ha hb w);have B:=j3d a.data.toList b.data.toList 0 (fun e=>A (ByteArray.ext (Array.toList_inj.1 e)));rw[Nat.zero_add]at B;rw[B]at h;exact h
def k0a(s:ByteArray)(wd:Int)(w:World)(e:Ending)(w':World):Prop:=∃T k f,e=.returned (.tuple #[.int .i64 (if f=0 then fdL (btL s) (btL T) 0 else 0),.int .i64 k,q1r f])/\k5r s wd T k f/\Below w w w'
abbrev y9z:Prop:=∀(s:ByteArray)(wd:Int)(w:World),z2t w->Calls prog 13 #[.string s,.int .i64 wd] w fun e w'=>k0a s wd w e w'
theorem j4m{s T:ByteArray}{wd k:Int}(h:k5r s wd T k 0):s.size<=60000/\T.size<=100000000/\k=0:=by
 generalize C:(0:Int)=z at h;cases h with
 | range=>cases C
 | bad _ _ hf=>exact absurd C.symm hf
 | full _ _ hf=>exact absurd C.symm hf
 | ok h hp hf=>
  obtain⟨_,_,B,A⟩:=z0i hp;have G:=j4n wd.toNat _ A hf;have H:=Nat.mul_le_mul_right 2000001 B;obtain⟨D,_,_⟩:=z6r hp;have E:=(q7v D).1;rw[z1c];rw[q0b]at E;exact⟨by omega,by omega,rfl⟩
theorem k4b(hF:y8a):y9z:=by
 intro s E w O;have H:Hid (Calls prog 18 #[.string s,.int .i64 E] w fun e w'=>∃T k f,e=.returned (.tuple #[.string T,.int .i64 k,q1r f])/\k5r s E T k f/\Below w w w'):=hF s E w O;clear O hF;go_in;go_wp2_with fail;refine H.o.mono ?_;rintro e B⟨T,k,f,rfl,N,M⟩;have C:Hid (k5r s E T k f):=N;have G:Hid (Below w w B):=M;clear N M;by_cases D:f=0
 ·subst D;obtain⟨Q,J,rfl⟩:=j4m C.o;rw[q0z];by_cases A:s=T
  ·have S:(s.toList==T.toList)=true:=by simp[A]
   have I:Hid (fdL (btL s) (btL T) 0=-1):=(show _=_ by rw[A];exact j3w _ _);clear A Q J;go_wp2;go_ret3;exact⟨T,0,0,by rw[q0z,if_pos rfl,I.o];rfl,C.o,G.o⟩
  ·have S:(s.toList==T.toList)=false:=by
    simp only[beq_eq_false_iff_ne,ne_eq,ByteArray.toList_eq];exact fun h=>A (ByteArray.ext (Array.toList_inj.1 h))
   have K:Hid (Calls prog 41 #[.string s,.string T] B fun e w'=>e=.returned (.int .i64 (fdL (btL s) (btL T) 0))/\Below B B w'):=k8z s T (by omega) J A B;clear A Q J;generalize P:fdL (btL s) (btL T) 0=v at K;have I:Hid (fdL (btL s) (btL T) 0=v):=P;clear P;go_wp2_with fail;refine K.o.mono ?_;rintro e U⟨rfl,R⟩;go_wp2;go_ret3;exact⟨T,0,0,by rw[q0z,if_pos rfl,I.o];rfl,C.o,q0e G.o Zl R⟩
 ·have L:Hid (f≠0):=D;rw[q0l D];clear D;go_wp2;go_ret3;exact⟨T,k,f,by rw[q0l L.o,if_neg L.o];rfl,C.o,G.o⟩
end Go.Proofs.YthcpdohdppkmkaaGreatDoor
namespace Go.Proofs.YthcpdohdppkmkaaGreatDoor
open Go Go.RowKit
set_option maxRecDepth 100000
set_option maxHeartbeats 4000000
theorem k6f{s:ByteArray}{k:Nat}(h:k<s.size):(btL s).drop k=s[k]::(btL s).drop (k+1):=by
 have A:k<(btL s).length:=by rw[q0b];exact h
 rw[List.drop_eq_getElem_cons A];rfl
theorem k6g{s:ByteArray}{k:Nat}(h:¬k<s.size):(btL s).drop k=[]:=List.drop_eq_nil_of_le (by rw[q0b];omega)
theorem y9n{x y:UInt8}(h:x≠y):¬(x.toNat:Int)=(y.toNat:Int):=fun e=>h (UInt8.toNat_inj.1 (by omega))
theorem y3i{x:UInt8}(h:x≠10):¬(x.toNat:Int)=10:=fun e=>h (UInt8.toNat_inj.1 (by simpa using(by omega:x.toNat=10)))
theorem j9e(a b:ByteArray)(ha:a.size<=100000000)(hb:b.size<=100000000)(w:World):
  Calls prog 12 #[.string a,.string b] w fun e w'=>e=.returned (.int .i64 (fdL (btL a) (btL b) 0))/\Below w w w':=by
 generalize K:fdL (btL a) (btL b) 0=v;have L:Hid (fdL (btL a) (btL b) 0=v):=K;clear K;go_in;go_wp2
 go_loopw [5,6] (fun l i wr=>∃q m k:Nat,wr=w.drewN q/\l=.int .i64 (m:Int)/\i=.int .i64 (k:Int)/\m<=k/\k<=100000000/\fdL ((btL a).drop k) ((btL b).drop k) m=v) (fun _ i _=>100000001-(intOf i).toNat)
 case atStart=>exact⟨0,0,0,rfl,rfl,rfl,Nat.le_refl _,Nat.zero_le _,L.o⟩
 case round=>
  obtain⟨q,m,k,rfl,rfl,rfl,Q,P,A⟩:=hrel;by_cases I:k<a.size
  ·have N:(k:Int)<(a.size:Int):=by omega
   by_cases G:k<b.size
   ·have J:(k:Int)<(b.size:Int):=by omega
    rw[k6f I,k6f G,fdL]at A;by_cases D:a[k]=b[k]
    ·rw[if_pos D]at A;by_cases B:a[k]=10
     ·rw[if_pos B]at A;have C:Hid (fdL ((btL a).drop (k+1)) ((btL b).drop (k+1)) (m+1)=v):=A;have H:b[k]=10:=by rw[<-D];exact B
      have E:((a[k].toNat:Nat):Int)=10:=by rw[B];rfl
      have M:((b[k].toNat:Nat):Int)=10:=by rw[H];rfl
      clear A D B H;go_wp2_with fail
      go_quiet (fail)
      go_wp2
      go_roundw
      case rel=>exact⟨_,m+1,k+1,rfl,by go_num,by go_num,by omega,by omega,C.o⟩
      case measure=>simp[intOf];omega
     ·rw[if_neg B]at A;have C:Hid (fdL ((btL a).drop (k+1)) ((btL b).drop (k+1)) m=v):=A;have E:(((a[k].toNat:Nat):Int)==10)=false:=by simpa using y3i B
      have M:(((a[k].toNat:Nat):Int) != ((b[k].toNat:Nat):Int))=false:=by rw[D];simp
      clear A D B;go_wp2_with fail
      go_quiet (fail)
      go_wp2
      go_roundw
      case rel=>exact⟨_,m,k+1,rfl,by go_num,by go_num,by omega,by omega,C.o⟩
      case measure=>simp[intOf];omega
    ·rw[if_neg D]at A;have C:Hid ((m:Int)=v):=A;have E:(((a[k].toNat:Nat):Int) != ((b[k].toNat:Nat):Int))=true:=by simpa using y9n D
     clear A D;go_wp2_with fail
     go_quiet (fail)
     go_wp2;go_ret;exact⟨by rw[<-C.o];rfl,q0d Zb _⟩
   ·have J:¬(k:Int)<(b.size:Int):=by omega
    have O:(b.size:Int)<=(k:Int):=by omega
    rw[k6f I,k6g G,fdL]at A;by_cases B:a[k]=10
    ·rw[if_pos B]at A;have C:Hid ((m:Int)+1=v):=A;have E:((a[k].toNat:Nat):Int)=10:=by rw[B];rfl
     clear A B;go_wp2_with fail
     go_quiet (fail)
     go_wp2;go_ret;exact⟨by rw[<-C.o];rfl,q0d Zb _⟩
    ·rw[if_neg B]at A;have C:Hid ((m:Int)=v):=A;have E:=y3i B;clear A B;go_wp2_with fail
     go_quiet (fail)
     go_wp2;go_ret;exact⟨by rw[<-C.o];rfl,q0d Zb _⟩
  ·have N:¬(k:Int)<(a.size:Int):=by omega
   have O:(a.size:Int)<=(k:Int):=by omega
   by_cases G:k<b.size
   ·have J:(k:Int)<(b.size:Int):=by omega
    rw[k6g I,k6f G,fdL]at A;by_cases B:b[k]=10
    ·rw[if_pos B]at A;have C:Hid ((m:Int)+1=v):=A;have E:((b[k].toNat:Nat):Int)=10:=by rw[B];rfl
     clear A B;go_wp2_with fail
     go_quiet (fail)
     go_wp2;go_ret;exact⟨by rw[<-C.o];rfl,q0d Zb _⟩
    ·rw[if_neg B]at A;have C:Hid ((m:Int)=v):=A;have E:=y3i B;clear A B;go_wp2_with fail
     go_quiet (fail)
     go_wp2;go_ret;exact⟨by rw[<-C.o];rfl,q0d Zb _⟩
   ·have J:¬(k:Int)<(b.size:Int):=by omega
    rw[k6g I,k6g G,fdL]at A;have C:Hid ((-1:Int)=v):=A;clear A;go_wp2;go_ret;exact⟨by rw[<-C.o];rfl,q0d Zb _⟩
end Go.Proofs.YthcpdohdppkmkaaGreatDoor
