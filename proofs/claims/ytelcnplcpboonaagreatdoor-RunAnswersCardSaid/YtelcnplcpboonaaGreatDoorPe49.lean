import Derived.Test.YtelcnplcpboonaaGreatDoorPe48
import Derived.Test.YtelcnplcpboonaaGreatDoorPe32
import Derived.Test.YtelcnplcpboonaaGreatDoorPe47
open Go.Proofs.Tryz
open List renaming length->ſ
open Go.Value renaming pointer->À,string->Á,slice->Í,tuple->Î,bool->Ñ,int->Ó
open Go.Obj renaming cells->Â
open Array renaming getElem?_eq_some_iff->Ã
open List renaming length_append->Ä,take_succ_eq_append_getElem->È,length_cons->Ê,length_singleton->Ë,getElem_mem->Ï
open Option renaming none->Å,some->É
open Go.Ending renaming returned->Æ
open Go renaming callsIn_wide->Ç,heap_alloc_new->Ì,World->Ð,undef->Ò
namespace Go.Proofs.YtelcnplcpboonaaGreatDoor
open Go Go.RowKit Go.Shelf
attribute [local go_sem] Oper.semAt_some
set_option maxRecDepth 100000
set_option maxHeartbeats 4000000
theorem NZ(w:Ð):Calls prog 8 #[] w λe J=>∃M d,e=Æ (À (É ⟨M,0,Å⟩))/\bG J M d ⟨[],[],40⟩/\w.heap.size<=M/\w.heap.size<=d/\Below w w J:=by
 have E:Hid (Cp 21 #[((40:Nat):Int)] w λe J=>e=Æ (Î #[À w.heap.size,.nilIface])/\cq 93 J w.heap.size [] 40/\Below w w J):=Kn (by decide) (by decide) w;go_in;go_wp2_with fail;refine E.o.mono ?_;rintro e A⟨rfl,B,H⟩;have G:Hid (cq 93 A w.heap.size [] 40):=B;have D:Hid (Below w w A):=H;have I:=B.lt;go_wp2;go_ret;have C:=aC A (Â #[À w.heap.size,Á ⟨#[]⟩] 62);exact⟨A.heap.size,w.heap.size,rfl,⟨Ì A _,G.o.W C,by omega⟩,by omega,Nat.le_refl _,aH D.o Zl C⟩
structure jw(w:Ð)(sb M d:Nat)(pre:List gb)(ans:List UInt8)(σ:Ss)(W:Ð):Prop where
 r:iK ⟨[],[],40⟩ (eJ pre) ans σ
 se:bG W M d σ
 tx:σ.tx.length<=(cB (eJ pre)).length
 al:ſ ans<=ſ pre*100000000
 u:cT (sb+1) (sb+1) ans W
 sb:W.heap[sb]?=É (Â #[À (É ⟨M,0,Å⟩)] 33 (0,0))
 bl:Below w w W
section
variable {w W W':Ð} {sb M d:Nat} {pre:List gb} {ans:List UInt8} {σ:Ss}
theorem jw.apart(h:jw w sb M d pre ans σ W):¬Bd W (sb+1) M/\¬Bd W (sb+1) d/\¬Bd W (sb+1) sb/\sb≠M/\sb≠d:=by
 obtain⟨D,C,B,_⟩:=h.se.sh;refine⟨h.u.not h.se.se (by decide) (by decide),h.u.not B (by decide) (by decide),h.u.not h.sb (by decide) (by decide),?_,?_⟩
 .rintro rfl;have A:=h.sb;rw[h.se.se]at A;cases A
 .rintro rfl;have A:=h.sb;rw[B]at A;cases A
theorem jw.turn{S:Nat->Prop}(h:jw w sb M d pre ans σ W)(I:Ex S W W')(J:∀k,S k->jW W k)(N:∀k,S k->w.heap.size<=k):jw w sb M d pre ans σ W':=by
 have B:∀{k C T f},W.heap[k]?=É (Â C T f)->¬S k:=by
  intro k C T f A E;rcases J k E _ A with⟨_,e⟩|⟨_,e⟩<;>cases e
 obtain⟨H,G,D,_⟩:=h.se.sh;exact⟨h.r,h.se.ex I (λk A=>.bare (J k A)) (B h.se.se) (B D),h.tx,h.al,h.u.ex I (λk K L=>h.u.notBare (J k L) K),(I.block sb (Ã.1 h.sb).1 (B h.sb)).trans h.sb,h.bl.trans (I.W N h.bl.size)⟩
theorem jw.step{x a}{τ:Ss}{U}(h:jw w sb M d pre ans σ W)(j:w.heap.size<=M)(b:w.heap.size<=d)(l:w.heap.size<=sb)(c:ck σ (cG (ae x.1)) a τ)(Y:bG U M d τ)(g:ſ a<=100000000)(i:τ.tx.length<=σ.tx.length+x.1.size)(X:Ex (ek M d) W U):
  cT (sb+1) (sb+1) ans U/\(∀k,jW W k->k<W.heap.size->U.heap[k]?=W.heap[k]?)/\
  ∀V,cT (sb+1) (sb+1) (ans++ae (ab a)) V->Ex (Bd U (sb+1)) U V->jw w sb M d (pre++[x]) (ans++a) τ V/\∀k,jW W k->k<W.heap.size->V.heap[k]?=W.heap[k]?:=by
 obtain⟨L,N,R,O,P⟩:=h.apart
 have D:cT (sb+1) (sb+1) ans U:=h.u.ex X λk B C=>by
  rcases C with rfl|rfl
  .exact L B
  .exact N B
 have G:∀k,jW W k->k<W.heap.size->U.heap[k]?=W.heap[k]?:=by
  intro k B C;refine X.block k C ?_;rintro(rfl|rfl)
  .rcases B _ h.se.se with⟨_,e⟩|⟨_,e⟩<;>cases e
  .obtain⟨Q,K,b,_⟩:=h.se.sh;rcases B _ b with⟨_,e⟩|⟨_,e⟩<;>cases e
 refine⟨D,G,λV Z S=>?_⟩;have A:=(X.block sb (Ã.1 h.sb).1 (by rintro(e|e);exact O e;exact P e)).trans h.sb;have E:=h.bl.trans (X.W (by rintro k (rfl|rfl)<;>assumption) h.bl.size);obtain⟨Q,K,H,_⟩:=Y.sh;refine⟨⟨?_,Y.ex S D.noD (D.not Y.se (by decide) (by decide)) (D.not H (by decide) (by decide)),?_,?_,Z,(S.block sb (Ã.1 A).1 (D.not A (by decide) (by decide))).trans A,E.trans (S.W (λk C=>?_) E.size)⟩,λk B C=>?_⟩
 .rw[qx];exact vl h.r c
 .have:=h.tx
  rw[qx,qv,Ä,Ä,aw,Ë];omega
 .have:=h.al
  rw[Ä,Ä,Ë,Nat.add_mul];omega
 .have:=D.ge Zl k C
  omega
 .have I:=G k B C;refine(S.block k (by have:=X.size;omega) λf=>D.notBare (k:=k) ?_ f).trans I;intro o J;rw[I]at J;exact B o J
end
theorem LA(P:md)(n)(hn:6<=n)(s)(hs:s.size<=3000)(w:Ð)(ht:fo w):
  CallsIn Fence.wide n prog 6 #[Á s] w λe a=>∃b,e=Æ (Á (ab b))/\jY s b/\(ſ b)<=1000000000000/\Below w w a:=by
 have h1:1<=n:=by omega
 have g1:¬(3000:Int)<(s.size:Int):=by omega
 obtain⟨F,H⟩:∃F,F=Fence.wide:=⟨_,rfl⟩;rw[<-H];have hF:∀f,F.fn f:=λf=>by rw[H];trivial
 have j:F.round=none:=by rw[H];rfl
 have G:Hid (F=Fence.wide):=H;have HC:Hid md:=P;have HT:Hid (iu w.heap.size w):=λw' g=>ht.W g
 clear H P ht;refine callsIn_of_wp_marks func6 rfl (hF 6) ?_ j;simp only[ntmps6,List.size_toArray,Ê,List.length_nil,Nat.reduceAdd,Nat.reduceSub,Array.replicate_succ,Array.replicate_zero,List.push_toArray,List.append_toArray,List.nil_append,List.cons_append]
 gi_wp2_with (first
  | (gi_at_call 8;rw[G.o];refine(Ç.2 (NZ w)).mono ?_;rintro e B⟨M,d,rfl,hS,hM,hd,v⟩)
  | (gi_at_call 9;rw[G.o];refine(Ç.2 (JN _ _)).mono ?_;rintro e w'⟨rfl,rfl⟩))
 rename_i Q0 K0 hK0;have y:=aC B (Â #[À (É ⟨M,0,Å⟩)] 33);have p:=aC (B.alloc (Â #[À (É ⟨M,0,Å⟩)] 33)) (Â #[À Å,Í Å 0 0] 38);have Y:=aC ((B.alloc (Â #[À (É ⟨M,0,Å⟩)] 33)).alloc (Â #[À Å,Í Å 0 0] 38)) (Â #[Á s] 9);have u1:=cT.fresh (B.alloc (Â #[À (É ⟨M,0,Å⟩)] 33));have k1:=Ì B (Â #[À (É ⟨M,0,Å⟩)] 33);have k3:=Ì ((B.alloc (Â #[À (É ⟨M,0,Å⟩)] 33)).alloc (Â #[À Å,Í Å 0 0] 38)) (Â #[Á s] 9);have z1:(B.alloc (Â #[À (É ⟨M,0,Å⟩)] 33)).heap.size=B.heap.size+1:=World.size_alloc ..;have z2:((B.alloc (Â #[À (É ⟨M,0,Å⟩)] 33)).alloc (Â #[À Å,Í Å 0 0] 38)).heap.size=B.heap.size+1+1:=by rw[World.size_alloc,z1]
 have z3:(((B.alloc (Â #[À (É ⟨M,0,Å⟩)] 33)).alloc (Â #[À Å,Í Å 0 0] 38)).alloc (Â #[Á s] 9)).heap.size=B.heap.size+1+1+1:=by rw[World.size_alloc,z2]
 have O:=v.size
 have S:jw w B.heap.size M d [] [] ⟨[],[],40⟩ (((B.alloc (Â #[À (É ⟨M,0,Å⟩)] 33)).alloc (Â #[À Å,Í Å 0 0] 38)).alloc (Â #[Á s] 9)):=by
  refine⟨.nil _,((hS.W y).W p).W Y,Nat.zero_le _,Nat.zero_le _,?_,?_,((v.trans (y.mono O)).trans (p.mono (by omega))).trans (Y.mono (by omega))⟩
  .rw[z1]at u1;exact u1.W Y
  .exact(Y.block _ (by omega)).trans ((p.block _ (by omega)).trans k1)
 have E:=JO n (by omega) (B.heap.size+1+1) s (by omega) (((B.alloc (Â #[À (É ⟨M,0,Å⟩)] 33)).alloc (Â #[À Å,Í Å 0 0] 38)).alloc (Â #[Á s] 9)) (by omega) (by rw[z2]at k3;rw[Lib.cell_of_heap k3];rfl);rw[<-G.o]at E;clear y p Y u1 k1 k3 hS v
 generalize((B.alloc (Â #[À (É ⟨M,0,Å⟩)] 33)).alloc (Â #[À Å,Í Å 0 0] 38)).alloc (Â #[Á s] 9)=w3 at S E z3⊢
 have R:Hid (w.heap.size<=B.heap.size):=O;have L:Hid (w.heap.size<=M/\w.heap.size<=d):=⟨hM,hd⟩;have Q:Hid (s.size<=3000):=hs;clear O hM hd z1 z2 hs
 refine JP j h1 (gf:=22) (lb:=#[À (É ⟨B.heap.size+1+1,0,Å⟩)]) rfl (hF 22) (enters_of func22 (by kernel_rfl) rfl) (enc:=ke) (T:=o8 s) (N:=ny s)
  E (λ_=>rfl) (λJ W=>∃ans σ,jw w B.heap.size M d J ans σ W) ⟨_,_,S⟩ ?stable
  (λx=>{tmps:=#[Á s,Ò,Á ⟨#[]⟩,À (É ⟨B,0,Å⟩),À (É ⟨B.heap.size+1,0,Å⟩),Á x.1,Á s,Ó .i64 s.size,Ñ false,À (É ⟨M,0,Å⟩),Á s,.func (.func 22) #[] #[À (É ⟨B.heap.size+1+1,0,Å⟩)],Á x.1,Ò,Ò,Ò,Ò,Ò],defers:=[]}) ?assign ?body ?done
 case stable=>
  rintro J A A'⟨ans,σ,C⟩hx g
  have:=R.o
  refine⟨ans,σ,C.turn hx g λk hk=>?_⟩;rcases hk with rfl|rfl<;>omega
 case assign=>
  intro l x W K b
  gi_wp2
  exact b
 case body=>
  rintro l J x W⟨ans,σ,C⟩hN Ab I;obtain⟨l1,l2⟩:=hN.len;have Ae:=Q.o;have HA:Hid (Cp 11 #[À (É ⟨M,0,Å⟩),Á x.1] W λe b=>∃a τ,e=Æ (Á (ab a))/\ck σ (cG (ae x.1)) a τ/\bG b M d τ/\(ſ a)<=100000000/\τ.tx.length<=σ.tx.length+x.1.size/\Ex (ek M d) W b):=MW HC.o x.1 (by omega) w.heap.size M d L.o.1 L.o.2 W C.se (by have:=C.tx;omega) (HT.o.to C.bl);have HI:Hid (jw w B.heap.size M d J ans σ W):=C;have c0:=gI C.sb
  have Ad:ſ ans<=300000000000:=by
   have:=C.al
   have h9:=Nat.mul_le_mul_right 100000000 (show (ſ J)<=3000 by omega);omega
  have HB:Hid (B.heap.size+1<W.heap.size):=C.u.lt;have HK:Hid (∀k,l6 w3.heap.size k->jW W k/\k<W.heap.size):=λk hk=>⟨I k hk,by rcases hk with rfl|rfl<;>omega⟩
  have h2:1<=n-1-1:=by omega
  clear C hN Ab I l1 l2 S E
  gi_wp2_with (first
   | (gi_at_call 11;rw[G.o];refine(CallsIn.inRound l (Ç.2 HA.o)).mono ?_;rintro e U⟨a,τ,rfl,q1,q2,q3,q4,q5⟩;have q:Hid (Ex (ek M d) W U):=q5;obtain⟨u5,k5,Z⟩:=HI.o.step L.o.1 L.o.2 R.o q1 q2 q3 q4 q5;have t:Hid (cT (B.heap.size+1) (B.heap.size+1) ans U):=u5;have V:=(show Hid (_)from Z);clear q1 q2 q4 q5 u5 k5 Z)
   | (gi_at_call 10;rw[G.o];refine(CallsIn.inRound l (Ç.2 (Je (ab a) t.o (by rw[cg];omega) (by have:=q.o.size;have:=HB.o;omega)))).mono ?_;rintro e w6⟨rfl,u6,x6⟩))
  obtain⟨z,k6⟩:=V.o w6 u6 x6;refine⟨λk hk=>?_,_,_,z⟩;have i:l6 w3.heap.size k:=by rw[z3];exact hk
  exact k6 k (HK.o k i).1 (HK.o k i).2
 case done=>
  rintro D ys W hD Ac⟨ans,σ,C⟩b;have X:Hid (eJ ys=rl (ae s)):=Ac;apply hK0
  gi_wp2_with (gi_at_call 12;rw[G.o];refine(Ç.2 (BC C.u)).mono ?_;rintro e U⟨rfl,m⟩)
  have c:U.heap[D]?=É (.deferred (É [])):=(m.block D (Ã.1 b).1 λg=>C.u.notBare (k:=D) (by intro o ho;rw[b]at ho;cases ho;exact .inr ⟨_,rfl⟩) g).trans b;refine⟨by simp,.inl ⟨_,_,rfl,run_takeDeferred c,?_⟩⟩;have O:=R.o;have Aa:Below w w U:=C.bl.trans (m.W (λk hk=>by have:=C.u.ge Zl k hk;omega) C.bl.size);refine⟨_,results_tmp rfl _ _ _,ans,rfl,⟨λh=>absurd h (by have:=Q.o;omega),λ_=>⟨σ,?_⟩⟩,?_,Aa.trans (belowK_b (w:=w) Zl U D _ _ (by omega) c rfl rfl)⟩
  .rw[<-X.o];exact C.r
  .have h8:=C.al
   have h7:ſ ys<=3001:=by
    have h6:=wS (ae s);rw[<-X.o,aw]at h6
    have h5:∀A:List (List UInt8),ſ A<=(cB A).length:=by
     intro A
     induction A with
     | nil=>exact Nat.le_refl _
     | cons l A ih=>rw[kK,Ä,Ê,Ê];omega
    have h4:=h5 (eJ ys);rw[eJ,List.length_map]at h4
    have:=Q.o
    unfold eJ at h6;omega
   have h9:=Nat.mul_le_mul_right 100000000 h7;omega
theorem Vi(A:md):wn:=by
 intro s w C;by_cases E:3000<s.size
 .have D:(3000:Int)<(s.size:Int):=by omega
  have B:Hid (jY s qe):=⟨λ_=>rfl,λh=>absurd h (by omega)⟩;go_in;go_wp2;go_ret;exact⟨qe,rfl,B.o,by decide,Below.refl _ _⟩
 .exact Ç.1 (LA A 6 Zl s (by omega) w C)
end Go.Proofs.YtelcnplcpboonaaGreatDoor
namespace Go.Proofs.YtelcnplcpboonaaGreatDoor
open Go Go.RowKit
theorem Vj:wn:=Vi (PA Kx)
set_option maxRecDepth 100000
set_option maxHeartbeats 4000000
inductive lQ (ps:List (List Td)) (wd:Nat):Ending->Prop where
 | ok (h:bu ps=0) (hf:∀t∈ps,pb t):lQ ps wd (Æ (Î #[Á (ab (aJ wd ps)),Ó .i64 0,Ñ true]))
 | full (h:bu ps≠0):lQ ps wd (Æ (Î #[Á ⟨#[]⟩,Ó .i64 (bu ps),Ñ true]))
 | many (hm:¬∀t∈ps,pb t):lQ ps wd (Æ (Î #[Á ⟨#[]⟩,Ó .i64 0,Ñ false]))
theorem DL{t}(h:bS t≠0):bS t=3:=by grind [bS]
structure tY(ps:List (List Td))(wd:Nat)(w:Ð)(i:Nat)(wr:Ð):Prop where
 le:i<=ſ ps
 z:bu (ps.drop i)=bu ps
 b:Below w w wr
 ln:(aJ wd (ps.take i)).length<=i*2000001
 fw:∀t∈ps.take i,pb t
theorem Kq{ps:List (List Td)}{i}(h:i<ſ ps):ps.drop i=ps[i]::ps.drop (i+1):=List.drop_eq_getElem_cons h
theorem Ky{ps:List (List Td)}{i}(A)(h:i<ſ ps):aJ A (ps.take (i+1))=aJ A (ps.take i)++ce A ps[i]:=by
 rw[aJ,È h,List.flatMap_append];simp[aJ]
theorem Pz{ps}(N:∀t∈ps,ag t=0)(P:ſ ps<=20)(wd:Nat)(k:10<=wd)(l:wd<=100)(a cap)(w:Ð)(hP:bP w a ps):
  Calls prog 29 #[Í a (ſ ps) cap,(wd:Int)] w λe a=>lQ ps wd e/\Below w w a:=by
 have HP:=aa hP;have r:=aa N;generalize hn:ſ ps=n at P⊢;have y:=aa hn;have U:Hid (tY ps wd w 0 w):=⟨Nat.zero_le _,rfl,Below.refl _ _,by simp[aJ],λt h=>by simp at h⟩;go_in;go_wp2_with fail
 go_loopw [7,8] (λs x wr=>∃i:Nat,x=(i:Int)/\s=Á (ab (aJ wd (ps.take i)))/\tY ps wd w i wr) (λ_ x _=>n-(intOf x).toNat)
 case atStart=>exact⟨0,rfl,rfl,U.o⟩
 case round=>
  obtain⟨i,rfl,rfl,C⟩:=hrel;have Ac:=y.o;have Ab:=C.le;by_cases Ad:i<n
  .have d:(i:Int)<(n:Int):=by omega
   have B:i<ſ ps:=by omega
   obtain⟨b0,o0,p,c0,rfl,Aa,o,Z,Y⟩:=(HP.o.W C.b) i B;have Q:=r.o ps[i] (Ï _);have G:=aa (NY Q wd k l p c0 wr Y);have m:=aa C;have c:=Kq B;have R:=C.z;rw[c]at R;have X:=(show Hid (_=_)from R);have E:=(show Hid (_=_)from Ky (ps:=ps) wd B);have L:=aa Q;have hq:=C.ln;have J:Hid (∀t,t∈ps.take (i+1)↔t∈ps.take i\/t=ps[i]):=λt=>by rw[È B,List.mem_append,List.mem_singleton]
   have K:=aa (Ï B);generalize Ae:ps[i]=t at J K G X E L o Z;generalize (ſ t)=tn at G o;go_wp2_with fail;refine G.o.mono ?_;rintro e w1⟨hR,b1⟩;have D:=aa (aH m.o.b Zl b1);cases hR with
   | ok hz hfw=>
    have f:=r8 L.o hz wd
    have HX:Hid (tY ps wd w (i+1) w1):=by
     refine⟨by omega,?_,D.o,?_,λu hu=>?_⟩
     .have:=X.o
      rw[lK hz]at this;exact this
     .rw[E.o,Ä];omega
     .rcases(J.o u).1 hu with q|rfl
      .exact m.o.fw u q
      .exact hfw
    have V:Hid (ab (aJ wd (ps.take (i+1)))=ab (aJ wd (ps.take i))++ab (ce wd t)):=by
     show _=_;rw[E.o,bn]
    have g:(ab (aJ wd (ps.take i))).size<=50000000:=by rw[j8];omega
    have j:(ab (ce wd t)).size<=2000001:=by rw[j8];exact f
    generalize ab (aJ wd (ps.take i))=S at V g⊢;generalize ab (ce wd t)=T at V j⊢;go_wp2;refine⟨⟨i+1,by go_num,?_,HX.o⟩,?_⟩
    .rw[V.o]
    .simp[intOf];omega
   | full hz=>
    have H:Hid (lQ ps wd (Æ (Î #[Á ⟨#[]⟩,Ó .i64 3,Ñ true]))):=by
     have I:=X.o;rw[qN hz,DL hz]at I;have M:=lQ.full (ps:=ps) (wd:=wd) (by rw[<-I];decide);rw[<-I]at M;exact M
    rw[DL hz];go_wp2;go_ret3;exact⟨H.o,D.o⟩
   | many s hm=>
    have H:Hid (lQ ps wd (Æ (Î #[Á ⟨#[]⟩,Ó .i64 0,Ñ false]))):=.many λh=>hm (h t K.o)
    go_wp2;go_ret3;exact⟨H.o,D.o⟩
  .have d:¬(i:Int)<(n:Int):=by omega
   have O:ps.take i=ps:=List.take_of_length_le (by omega);have A:ps.drop i=[]:=List.drop_eq_nil_of_le (by omega);rw[O]
   have H:Hid (lQ ps wd (Æ (Î #[Á (ab (aJ wd ps)),Ó .i64 0,Ñ true]))):=by
    have I:=C.z;have M:=C.fw;rw[A]at I;rw[O]at M;exact .ok I.symm M
   have v:Hid (Below w w wr):=C.b;generalize ab (aJ wd ps)=S at H⊢;go_wp2;go_ret3;exact⟨H.o,v.o⟩
theorem KP:jr:=by
 intro K J a C W A B D E G;refine(Pz A B J D E a C W G).mono ?_;rintro e L⟨H,I⟩;refine⟨?_,I⟩;cases H with
 | ok h _=>exact⟨_,_,_,rfl,.ok h⟩
 | full h=>exact⟨_,_,_,rfl,.full h⟩
 | many _=>exact⟨_,_,_,rfl,.many⟩
theorem Lq:lY:=λs W=>(MU s W).mono λ_ _⟨ps,k,f,A,c,B,C,D,_,_,E⟩=>⟨ps,k,f,A,c,B,C,D,E⟩
theorem Vg:sN:=SM KP Lq (λa C A B c D W K J E G H I=>RN a C A B c D W K J E G H I) (λa b L M W=>Lv a b L M W) SD
