import Derived.Test.YtelcnplcpboonaaGreatDoorPe06
import Derived.Test.YtelcnplcpboonaaGreatDoorPe05
import Derived.Deep.QuietTactic
import Derived.Test.YtelcnplcpboonaaGreatDoorPe10
import Derived.Test.YtelcnplcpboonaaGreatDoorPe02
open Go.Proofs.Tryz
open List renaming length->ſ
open Go.Lib renaming cellsOf->À,toList_data->Ä,cellsOf_set->Æ,indexByte->Ë,cellsOf_next->Ì,cellsOf_nil->Î
open Go.Value renaming string->Á,slice->Ã,bool->Í,pointer->Ï
open Option renaming some->Â,none->Ò
open ByteArray renaming empty->Å,size_extract->Ê
open Go.Ending renaming returned->Ç
open Bool renaming false_eq_true->È,false->Ð
open Nat renaming zero_le->É,le_refl->Ñ
namespace Go.Proofs.YtelcnplcpboonaaGreatDoor
open Go Go.RowKit
set_option maxRecDepth 100000
set_option maxHeartbeats 1000000
structure Rd(w:World)(b:Nat)(A:Option Addr)(c:Nat)(ws:List Wd)(at_:Nat)(bad:Bool):Prop where
 c0:w.cell? ⟨b,0,Ò⟩=Â (Ã A (ſ ws) c)
 c1:w.cell? ⟨b,1,Ò⟩=Â (.int .i64 (at_:Int))
 c2:w.cell? ⟨b,2,Ò⟩=Â (Í bad)
 row:fV w b 3
 wd:bN w A (ws.map ab)
 lt:∀ba oa,A=Â ⟨ba,oa,Ò⟩->ba<b
theorem Hf{w A H}(h:bN w A H){b k v}(lt:∀E G,A=Â ⟨E,G,Ò⟩->E<b):bN (w.setCell ⟨b,k,Ò⟩ v) A H:=by
 intro i D;obtain⟨E,G,e,B,C⟩:=h i D;exact⟨E,G,e,by rw[World.size_setCell];exact B,by rw[af (.inl (by have:=lt E G e;omega))];exact C⟩
theorem Rd.keepB{w M b B A c ws C D}(h:Rd w b A c ws C D)(K:Below B w M)(L:b<B):Rd M b A c ws C D:=by
 refine⟨(K.cell (p:=b) L).trans h.c0,(K.cell (p:=(b,1)) L).trans h.c1,(K.cell (p:=(b,2)) L).trans h.c2,h.row.kept (K.block b L),?_,h.lt⟩;intro i J;obtain⟨E,H,e,G,I⟩:=h.wd i J
 have:=h.lt E H e
 exact⟨E,H,e,Nat.lt_of_lt_of_le G K.size,(K.cell (p:=⟨E,_,Ò⟩) (by show E<B;omega)).trans I⟩
theorem Rd.keep{w:World}{C b A c ws B bad}(h:Rd w b A c ws B bad)(D:Below w w C):Rd C b A c ws B bad:=h.keepB D h.row.lt
theorem Rd.setAt{w b A c ws B bad}(h:Rd w b A c ws B bad)(n:Nat):Rd (w.setCell (b,1) (n:Int)) b A c ws n bad:=
 ⟨(af (.inr (by omega))).trans h.c0,cF h.c1,(af (.inr (by omega))).trans h.c2,h.row.set,Hf h.wd h.lt,h.lt⟩
theorem Rd.setBad{w b A c ws B bad}(h:Rd w b A c ws B bad)(n):Rd (w.setCell (b,2) (Í n)) b A c ws B n:=
 ⟨(af (.inr (by omega))).trans h.c0,(af (.inr (by omega))).trans h.c1,cF h.c2,h.row.set,Hf h.wd h.lt,h.lt⟩
theorem Hd(a b):((ab a).toList==(ab b).toList)=(a==b):=by
 rw[Ä,Ä];rfl
theorem oW{w b A c ws B D}(h:Rd w b A c ws B D)(s):
  Calls prog 32 #[Ï b,Á (ab s)] w λe P=>e=Ç (Í (!D&&(ws[B]?==Â s)))/\∃q,P=w.drewN q:=by
 obtain⟨L,M,N,_,J,_⟩:=h;cases D with
 | true=>
  generalize ab s=S;go_in;go_wp2_with fail
  go_quiet (fail)
  go_wp2;go_ret;exact⟨rfl,_,rfl⟩
 | false=>
  by_cases E:B<ſ ws
  .obtain⟨K,O,rfl,I,H⟩:=J B (by rw[List.length_map];exact E);rw[List.getElem_map]at H;have G:(B:Int)<(ſ ws:Int):=by omega
   have C:Hid (((ab ws[B]).toList==(ab s).toList)=(!Ð&&(ws[B]?==Â s))):=by
    show _=_;rw[Hd,List.getElem?_eq_getElem E];rfl
   generalize(!Ð&&(ws[B]?==Â s))=R at C⊢
   generalize ab s=S at C⊢;generalize ab ws[B]=X at C H;go_in;go_wp2_with fail
   go_quiet (fail)
   go_wp2;go_ret;exact⟨by rw[<-C.o];rfl,_,rfl⟩
  .have G:¬(B:Int)<(ſ ws:Int):=by omega
   have C:Hid ((!Ð&&(ws[B]?==Â s))=Ð):=by
    show _=_;rw[List.getElem?_eq_none (by omega)];rfl
   generalize(!Ð&&(ws[B]?==Â s))=R at C⊢
   generalize ab s=S;go_in;go_wp2_with fail
   go_quiet (fail)
   go_wp2;go_ret;exact⟨by rw[C.o];rfl,_,rfl⟩
def dy(ws:List Wd)(at_:Nat)(bad:Bool)(s:Wd):Nat:=if(!bad&&(ws[at_]?==Â s))=true then at_+1 else at_
def dx(ws:List Wd)(at_:Nat)(bad:Bool)(s:Wd):Bool:=!(!bad&&(ws[at_]?==Â s))
theorem p6{w:World}{b A c ws B D}(h:Rd w b A c ws B D)(V:ſ ws<=60000)(U:B<=ſ ws)(s):
  Calls prog 34 #[Ï b,Á (ab s)] w λe R=>(∃v,e=Ç v)/\Rd R b A c ws (dy ws B D s) (dx ws B D s)/\ak w b w R:=by
 have E:Hid (Cp 32 #[Ï b,Á (ab s)] w λe R=>e=Ç (Í (!D&&(ws[B]?==Â s)))/\∃q,R=w.drewN q):=oW h s;unfold dy dx;cases G:(!D&&(ws[B]?==Â s))with
 | true=>
  have J:D=false:=by
   cases D with
   | false=>rfl
   | true=>simp at G
  subst J;rw[G]at E;simp only[if_true,Bool.not_true];have H:=aa h;obtain⟨I,L,M,C,_,_⟩:=h;have O:w.frozen? (b,1)=false:=C.frozen;generalize ab s=S at E⊢;clear C G I;go_in;go_wp2_with fail;refine E.o.mono ?_;rintro e N⟨rfl,q,rfl⟩;go_wp2
  go_end0
  refine⟨⟨_,rfl⟩,?_,?_⟩
  .have K:=(H.o.keep (aP (Below.refl _ w) q)).setAt (B+1);rw[show((B+1:Nat):Int)=(B:Int)+1 by omega]at K;exact K
  .exact(ak.of (aP (Below.refl _ w) q)).setCell (p:=(b,1)) (.inl rfl) _
 | false=>
  rw[G]at E;simp only[È,if_false,Bool.not_false];have H:=aa h;obtain⟨I,L,M,C,_,_⟩:=h;have P:w.frozen? (b,2)=false:=C.frozen;generalize ab s=S at E⊢;clear C G I;go_in;go_wp2_with fail;refine E.o.mono ?_;rintro e N⟨rfl,q,rfl⟩;go_wp2
  go_end0
  exact⟨⟨_,rfl⟩,(H.o.keep (aP (Below.refl _ w) q)).setBad true,(ak.of (aP (Below.refl _ w) q)).setCell (p:=(b,2)) (.inl rfl) _⟩
set_option maxHeartbeats 8000000
theorem zP(M:Int)(V:M=7\/M=8)(J H I s o n L i:Nat)(S:Int)(R:Bool)(w:World)(U:n<=400)(hi:(i:Int)<n)(A:(i:Int)+1<n)(a:J≠H)(b:J≠I)(c:H≠I)(d:s≠H)(f:s≠I)
  (c0:w.cell? J=Â (Ã (Â ↑(s,o)) n L)) (c1:w.cell? (J,1)=Â (Ã H n n)) (c2:w.cell? (J,2)=Â (Ã I n n))
  (N:w.cell? (s,o+i*3)=Â ↑M)
  (O:w.cell? (H,i+1)=Â ↑S)
  (P:w.cell? (I,i+1)=Â (Í R))
  (W X:Value) (Y:w.cell? (H,i)=Â W) (Z:w.cell? (I,i)=Â X) (g:w.frozen? (H,i)=Ð) (h:w.frozen? (I,i)=Ð):
  Calls prog 278 #[Ï J,i] w λe K=>e=Ç (.tuple #[])/\eL H I i S (Í R) w K:=by
 have G:nE M:=.mk;rcases V with rfl|rfl
 all_goals
  have E:=nX U hi;have C:(0:Int)<=(i:Int)+1:=by omega
  have B:(0:Int)<=(i:Int):=by omega
  have D:((i:Int)+1).toNat=i+1:=by omega
  go_in;go_wp2_with fail
  go_region_held3 (λK=>K.cell? J=Â (Ã (Â ↑(s,o)) n L)/\K.cell? (J,1)=Â (Ã H n n)/\K.cell? (J,2)=Â (Ã I n n)/\K.cell? (s,o+i*3)=Â (.int .i64 ↑G)/\K.cell? (H,i+1)=Â ↑S/\K.cell? (I,i+1)=Â (Í R))
   (first|exact⟨c0,c1,c2,N,O,P⟩|exact⟨(af (by omega)).trans c0,(af (by omega)).trans c1,(af (by omega)).trans c2,(af (by omega)).trans N,(af (by omega)).trans O,(af (by omega)).trans P⟩|exact⟨(af (by omega)).trans ((af (by omega)).trans c0),(af (by omega)).trans ((af (by omega)).trans c1),(af (by omega)).trans ((af (by omega)).trans c2),(af (by omega)).trans ((af (by omega)).trans N),(af (by omega)).trans ((af (by omega)).trans O),(af (by omega)).trans ((af (by omega)).trans P)⟩) (fail)
  all_goals
   go_wp2
   go_end0
   exact⟨rfl,rfl,rfl,rfl,rfl⟩
theorem Jh(s w):Cw 219 #[Á s] w (Í (dY s)):=by
 unfold Cw;by_cases L:(s.size:Int)<1
 .have e:dY s=false:=by simp[dY];omega
  rw[e];go_in;go_wp2;go_ret;exact⟨rfl,rfl⟩
 by_cases M:20<(s.size:Int)
 .have e:dY s=false:=by simp[dY];omega
  rw[e];go_in;go_wp2;go_ret;exact⟨rfl,rfl⟩
 go_in;go_wp2
 go_loopw [14] (λi wr=>wr=w/\∃k:Nat,k<=s.size/\i=k/\∀j(h:j<s.size),j<k->gE s[j]=true) (λi _=>s.size-(intOf i).toNat)
 case atStart=>exact⟨rfl,0,É _,rfl,λj _ K=>by omega⟩
 case round=>
  obtain⟨rfl,k,N,rfl,A⟩:=hrel;have H:=aa A;by_cases G:k<s.size
  .cases C:gE s[k]with
   | false=>
    have B:=aa (GN G C);have D:=Jf C;rcases D with D|⟨D,J⟩
    .go_wp2;go_ret;exact⟨by rw[B.o];rfl,rfl⟩
    .go_wp2;go_ret;exact⟨by rw[B.o];rfl,rfl⟩
   | true=>
    have I:=aa C;obtain⟨D,J⟩:=BP C;go_wp2
    go_roundw
    case rel=>
     refine⟨by trivial,k+1,by omega,by go_num,?_⟩;intro j h K;by_cases E:j=k
     .subst E;exact I.o
     .exact H.o j h (by omega)
    case measure=>simp[intOf];omega
  .have B:=aa (AF (by omega) (by omega) λj h=>H.o j h (by omega));go_wp2;go_ret;exact⟨by rw[B.o];rfl,rfl⟩
theorem pU(ws a R w)(S:bN w a ws):
  Cw 189 #[Ã a (ſ ws) R] w (aF (dF ws)):=by
 unfold Cw;have K:=aa S;by_cases O:60<(ſ ws:Int)
 .have B:Hid (dF ws=3):=sw (by omega);go_in;go_wp2;go_ret;exact⟨by rw[B.o];rfl,rfl⟩
 go_in;go_wp2
 go_loopw [11] (λi wr=>wr=w/\∃k:Nat,k<=ſ ws/\i=k/\∀j(h:j<ſ ws),j<k->dY ws[j]=true) (λi _=>ſ ws-(intOf i).toNat)
 case atStart=>exact⟨rfl,0,É _,rfl,λj _ U=>by omega⟩
 case round=>
  obtain⟨rfl,k,P,rfl,C⟩:=hrel;have I:=aa C;by_cases D:k<ſ ws
  .obtain⟨N,Q,L,M,J⟩:=K.o k D;subst L;cases E:dY ws[k]with
   | false=>
    have B:=aa (BR (by omega) D E);have A:=aa E;generalize ws[k]=x at J A;go_wp2_with fail;refine an (Jh _ _) ?_;rw[A.o];go_wp2;go_ret;exact⟨by rw[B.o];rfl,rfl⟩
   | true=>
    have A:=aa E
    have G:Hid (∀j(h:j<ſ ws),j<k+1->dY ws[j]=true):=λj h U=>by
     by_cases H:j=k
     .subst H;exact E
     .exact I.o j h (by omega)
    generalize ws[k]=x at J A;go_wp2_with fail;refine an (Jh _ _) ?_;rw[A.o];go_wp2
    go_roundw
    case rel=>exact⟨by trivial,k+1,by omega,by go_num,G.o⟩
    case measure=>simp[intOf];omega
  .have B:=aa (BQ (by omega) λj h=>I.o j h (by omega));go_wp2;go_ret;exact⟨by rw[B.o];rfl,rfl⟩
theorem Tw(ws a J)(I:Int)(w)(K:bN w a ws):
  Cw 196 #[Ã a (ſ ws) J,I] w (aF (gD ws I)):=by
 unfold Cw;have C:=aa K;by_cases D:dF ws=0
 .have B:=aa D;by_cases G:I<1
  .have A:Hid (gD ws I=1):=by
    show gD ws I=1;rw[gD,if_neg (by rw[B.o];simp),if_pos (.inl G)]
   go_in;go_wp2_with fail;refine an (pU ws a J _ C.o) ?_;rw[B.o,cS];go_wp2;go_ret;exact⟨by rw[A.o];rfl,rfl⟩
  by_cases H:100<I
  .have A:Hid (gD ws I=1):=by
    show gD ws I=1;rw[gD,if_neg (by rw[B.o];simp),if_pos (.inr H)]
   go_in;go_wp2_with fail;refine an (pU ws a J _ C.o) ?_;rw[B.o,cS];go_wp2;go_ret;exact⟨by rw[A.o];rfl,rfl⟩
  .have A:Hid (gD ws I=0):=by
    show gD ws I=0;rw[gD,if_neg (by rw[B.o];simp),if_neg (by omega)]
   go_in;go_wp2_with fail;refine an (pU ws a J _ C.o) ?_;rw[B.o,cS];go_wp2;go_ret;exact⟨by rw[A.o];rfl,rfl⟩
 .have A:Hid (gD ws I=dF ws):=by
   show gD ws I=dF ws;rw[gD,if_pos D]
  have E:=aa (cN D);go_in;go_wp2_with fail;refine an (pU ws a J _ C.o) ?_;rw[E.o];go_wp2;go_ret;exact⟨by rw[A.o,E.o];rfl,rfl⟩
theorem Tv(ws a S w)(V:ws≠[])(U:dC ws)(W:bN w a ws):
  Cw 223 #[Ã a (ſ ws) S] w (ln ws):=by
 unfold Cw;have H:Hid (bN w a ws):=W;have Q:0<ſ ws:=List.length_pos_iff.2 V;have P:=U.1
 have E:Hid ((ln ws:Int)=(ſ ws:Int)-1+tot ws):=by
  show(ln ws:Int)=_
  simp only[ln];omega
 have D:=aa U;clear W U V;go_in;go_wp2
 go_loopw [3,11] (λs i wr=>wr=w/\∃k:Nat,k<=ſ ws/\i=↑k/\s=↑((ſ ws:Int)-1+tot (ws.take k))) (λ_ i _=>ſ ws-(intOf i).toNat)
 case atStart=>exact⟨rfl,0,É _,rfl,by simp[tot]⟩
 case round=>
  obtain⟨rfl,k,O,rfl,rfl⟩:=hrel;by_cases A:k<ſ ws
  .obtain⟨N,R,J,K,I⟩:=H.o k A;subst J;have B:=aa (VO A);have L:=(D.o.take k).tot;have M:=D.o.2 _ (List.getElem_mem A);generalize ws[k]=x at I B M;generalize tot (ws.take k)=t0 at B L;go_wp2
   go_roundw
   case rel=>exact⟨by trivial,k+1,by omega,by go_num,by rw[B.o];go_num⟩
   case measure=>simp[intOf];omega
  .have C:k=ſ ws:=by omega
   subst C;have G:Hid (tot (ws.take (ſ ws))=tot ws):=by show _=_;rw[List.take_length]
   go_wp2;go_ret;exact⟨by rw[E.o,<-G.o];rfl,rfl⟩
theorem EW{n A last}(h:A<n):(bd n A last:Int)=1000*((n:Int)-A):=by
 rw[bd,if_pos h];omega
theorem EU{n A}(h:¬A<n):bd n A true=0:=by rw[bd,if_neg h];rfl
theorem zh{n A}(h:¬A<n):(bd n A Ð:Int)=((A:Int)-n)*((A:Int)-n):=by
 rw[bd,if_neg h];simp only[È,if_false];rw[Int.natCast_mul]
 congr 1<;>omega
theorem VW(n H:Nat)(last w)(I:n<=1260)(J:H<=100):
  Cw 222 #[n,H,Í last] w (bd n H last):=by
 unfold Cw;by_cases h:H<n
 .have A:Hid ((bd n H last:Int)=1000*((n:Int)-H)):=EW h;have B:(H:Int)-n<0:=by omega
  go_in;go_wp2;go_ret;exact⟨by rw[A.o];go_num,rfl⟩
 .cases last with
  | true=>
   have A:=aa (EU h);have B:¬(H:Int)-n<0:=by omega
   go_in;go_wp2;go_ret;exact⟨by rw[A.o];rfl,rfl⟩
  | false=>
   have A:=aa (zh h);have B:¬(H:Int)-n<0:=by omega
   obtain⟨m,G⟩:∃m:Int,m=(H:Int)-n:=⟨_,rfl⟩
   have E:IntKind.i64.wrap (((H:Int)-n)*((H:Int)-n))=((H:Int)-n)*((H:Int)-n):=by
    have C:0<=((H:Int)-n)*((H:Int)-n):=Int.mul_nonneg (by omega) (by omega);have D:((H:Int)-n)*((H:Int)-n)<=100*100:=Int.mul_le_mul (by omega) (by omega) (by omega) (by omega);rw[IntKind.wrap_i64];omega
   go_in;go_wp2;go_ret;exact⟨by rw[A.o];rfl,rfl⟩
theorem Oh(s w):
  Cw 56 #[Á s,Á ⟨#[32]⟩] w (Ë s.data.toList 32):=by
 unfold Cw;go_in;go_wp2_with(go_at_call 74;refine(vZ _ _ _).mono ?_;rintro e A⟨rfl,rfl⟩)
 .have h:([32]==s.toList)=true:=by assumption
  go_ret;refine⟨?_,rfl⟩;have e:s.data.toList=[32]:=by rw[<-Ä];exact(beq_iff_eq.1 h).symm
  rw[e];simp[Ë]
 .go_ret;exact⟨rfl,rfl⟩
theorem tp(s w):
  Cw 269 #[Á s,Á ⟨#[32]⟩] w (Ë s.data.toList 32):=by
 unfold Cw;go_in;go_wp2_with fail;refine an (Oh _ _) ?_;go_wp2;go_ret;exact⟨rfl,rfl⟩
theorem NE(s N w)(l:s.size<=140737488351232)(j:N=min 61 (s.size+1)):
  Calls prog 243 #[Á s,Á ⟨#[32]⟩,.int .i64 0,.int .i64 61] w λe k=>
   e=Ç (Ã w.heap.size (cE (N-1) s).length N)/\k=w.alloc (.cells (À (cE (N-1) s) N) 9):=by
 have S:min (61:Int) ((s.size:Int)+1)=(N:Int):=by omega
 have d:N<=61:=by omega
 clear j;by_cases c:(s.size:Int)+1<61
 .have Q:((N:Nat):Int)=(s.size:Int)+1:=by omega
  have I:=run_make_row' (P:=prog) 72 9 (Á Å) 16 Tryz.underlying72 j7 rfl .i64 .i64 N (by omega) (by omega);rw[Q]at I;go_in;go_wp2_with fail;clear I S
  go_loopw [0,10] (λg i wr=>∃(A:List ByteArray)(B:ByteArray),g=Á B/\i=(ſ A:Nat)/\(ſ A)<=N-1/\B.size<=s.size/\
    wr=w.alloc (.cells (À A N) 9)/\A++cE (N-1-ſ A) B=cE (N-1) s) (λ_ i _=>N-1-(intOf i).toNat)
  case atStart=>exact⟨[],s,rfl,rfl,É _,Ñ _,by rw[Î],rfl⟩
  case round=>
   obtain⟨A,B,rfl,rfl,f,W,rfl,J⟩:=hrel;have M:(À A N)[ſ A]?=Â (Á Å):=Ì (by omega);have R:Hid (A++cE (N-1-ſ A) B=cE (N-1) s):=J;clear J
   have C:cE (N-1-ſ A) B=[B]->(cE (N-1) s).length=ſ A+1/\(À A N).setIfInBounds (ſ A) (Á B)=À (cE (N-1) s) N:=λh=>by
    have e:=R.o;rw[h]at e;rw[<-e];exact⟨by simp,Æ (by omega) B⟩
   by_cases V:ſ A<N-1
   .have H:((ſ A:Nat):Int)<(s.size:Int):=by omega
    rcases p7 B with D|⟨i,D,O⟩
    .obtain⟨E,G⟩:=C (qE _ D);have K:Hid ((cE (N-1) s).length=ſ A+1):=E;have L:=(show Hid (_=_)from G);clear E G C;go_wp2_with fail;refine an (tp B _) ?_;rw[D];go_wp2;go_ret;rw[K.o,<-L.o];exact⟨by first|rfl|(congr 2<;>omega),rfl⟩
    .have X:¬((i:Int)<0):=by omega
     have Y:(0:Int)<=↑i:=by omega
     have Z:(↑i:Int)<=↑B.size:=by omega
     have a:(0:Int)<=↑i+1:=by omega
     have b:(↑i+1:Int)<=↑B.size:=by omega
     have U:Hid (A++[B.extract 0 i]++cE (N-1-(ſ A+1)) (B.extract (i+1) B.size)=cE (N-1) s):=by
      show _=_;rw[<-R.o,show N-1-ſ A=(N-1-(ſ A+1))+1 by omega,qV _ D];simp
     clear C;go_wp2_with fail;refine an (tp B _) ?_;rw[D];go_wp2
     go_roundw
     case rel=>exact⟨A++[B.extract 0 i],B.extract (i+1) B.size,rfl,by simp,by simp;omega,by rw[Ê];omega,by rw[<-Æ (by omega)],by rw[List.length_append];exact U.o⟩
     case measure=>simp[intOf];omega
   .have H:¬(((ſ A:Nat):Int)<(s.size:Int)):=by omega
    obtain⟨E,G⟩:=C (by rw[show N-1-ſ A=0 by omega];rfl);have K:Hid ((cE (N-1) s).length=ſ A+1):=E;have L:=(show Hid (_=_)from G);clear E G C;go_wp2;go_ret;rw[K.o,<-L.o];exact⟨by first|rfl|(congr 2<;>omega),rfl⟩
 .have Q:((N:Nat):Int)=61:=by omega
  have I:=run_make_row' (P:=prog) 72 9 (Á Å) 16 Tryz.underlying72 j7 rfl .i64 .i64 N (by omega) (by omega);rw[Q]at I;go_in;go_wp2_with fail;clear I S
  go_loopw [0,10] (λg i wr=>∃(A:List ByteArray)(B:ByteArray),g=Á B/\i=(ſ A:Nat)/\(ſ A)<=N-1/\B.size<=s.size/\
    wr=w.alloc (.cells (À A N) 9)/\A++cE (N-1-ſ A) B=cE (N-1) s) (λ_ i _=>N-1-(intOf i).toNat)
  case atStart=>exact⟨[],s,rfl,rfl,É _,Ñ _,by rw[Î],rfl⟩
  case round=>
   obtain⟨A,B,rfl,rfl,f,W,rfl,J⟩:=hrel;have M:(À A N)[ſ A]?=Â (Á Å):=Ì (by omega);have R:Hid (A++cE (N-1-ſ A) B=cE (N-1) s):=J;clear J
   have C:cE (N-1-ſ A) B=[B]->(cE (N-1) s).length=ſ A+1/\(À A N).setIfInBounds (ſ A) (Á B)=À (cE (N-1) s) N:=λh=>by
    have e:=R.o;rw[h]at e;rw[<-e];exact⟨by simp,Æ (by omega) B⟩
   by_cases V:ſ A<N-1
   .have H:((ſ A:Nat):Int)<60:=by omega
    rcases p7 B with D|⟨i,D,O⟩
    .obtain⟨E,G⟩:=C (qE _ D);have K:Hid ((cE (N-1) s).length=ſ A+1):=E;have L:=(show Hid (_=_)from G);clear E G C;go_wp2_with fail;refine an (tp B _) ?_;rw[D];go_wp2;go_ret;rw[K.o,<-L.o];exact⟨by first|rfl|(congr 2<;>omega),rfl⟩
    .have X:¬((i:Int)<0):=by omega
     have Y:(0:Int)<=↑i:=by omega
     have Z:(↑i:Int)<=↑B.size:=by omega
     have a:(0:Int)<=↑i+1:=by omega
     have b:(↑i+1:Int)<=↑B.size:=by omega
     have U:Hid (A++[B.extract 0 i]++cE (N-1-(ſ A+1)) (B.extract (i+1) B.size)=cE (N-1) s):=by
      show _=_;rw[<-R.o,show N-1-ſ A=(N-1-(ſ A+1))+1 by omega,qV _ D];simp
     clear C;go_wp2_with fail;refine an (tp B _) ?_;rw[D];go_wp2
     go_roundw
     case rel=>exact⟨A++[B.extract 0 i],B.extract (i+1) B.size,rfl,by simp,by simp;omega,by rw[Ê];omega,by rw[<-Æ (by omega)],by rw[List.length_append];exact U.o⟩
     case measure=>simp[intOf];omega
   .have H:¬(((ſ A:Nat):Int)<60):=by omega
    obtain⟨E,G⟩:=C (by rw[show N-1-ſ A=0 by omega];rfl);have K:Hid ((cE (N-1) s).length=ſ A+1):=E;have L:=(show Hid (_=_)from G);clear E G C;go_wp2;go_ret;rw[K.o,<-L.o];exact⟨by first|rfl|(congr 2<;>omega),rfl⟩
theorem Ot(s N w)(D:s.size<=140737488351232)(C:N=min 61 (s.size+1)):
  Calls prog 220 #[Á s,Á ⟨#[32]⟩,.int .i64 61] w λe E=>
   e=Ç (Ã w.heap.size (cE (N-1) s).length N)/\E=w.alloc (.cells (À (cE (N-1) s) N) 9):=by
 have A:Hid (N=min 61 (s.size+1)):=C;clear C;go_in;go_wp2_with fail;refine(NE s N _ D A.o).mono ?_;rintro e B⟨rfl,rfl⟩;go_wp2;go_ret;exact⟨rfl,rfl⟩
theorem TZ{ws N i}(h:i<ſ ws):(À ws N)[i]?=Â (Á ws[i]):=by
 unfold À;rw[List.getElem?_toArray,List.getElem?_append_left (by rw[List.length_map];exact h),List.getElem?_map,List.getElem?_eq_getElem h];rfl
theorem Ru(w:World)(ws N):bN (w.alloc (.cells (À ws N) 9)) w.heap.size ws:=by
 intro i A;refine⟨w.heap.size,0,rfl,by rw[World.size_alloc];omega,?_⟩
 have h:(w.alloc (.cells (À ws N) 9)).heap[w.heap.size]?=Â (.cells (À ws N) 9):=by
  show(w.heap.push _)[w.heap.size]?=_
  simp
 simp only[World.cell?,Option.isSome_none,È,if_false,h,Nat.zero_add];exact TZ A
theorem oM{t:ByteArray}(A:0<(t.size:Int)):(t.toList==[])=false:=by
 rw[Ä]
 have:=(show (ſ t.data.toList)=t.size from aw t)
 cases h:t.data.toList with
 | nil=>rw[h]at this;simp at this;omega
 | cons a b=>rfl
theorem oy{t:ByteArray}(B:¬0<(t.size:Int)):t=⟨#[]⟩:=by
 obtain⟨d⟩:=t
 have A:d.size=0:=by
  have:(d.size:Int)=((⟨d⟩:ByteArray).size:Int):=rfl
  omega
 rw[Array.eq_empty_of_size_eq_zero A]
theorem Ow(s)(w:World)(I:s.size<=140737488351232):Calls prog 190 #[Á s] w λe H=>∃(A:Option Addr)(ws:List ByteArray)(c:Nat),e=Ç (Ã A (ſ ws) c)/\bN H A ws/\dF ws=cX s/\Below w w H:=by
 by_cases B:0<(s.size:Int)
 .have E:=oM B;have C:Hid (dF (cE (min 61 (s.size+1)-1) s)=cX s):=UX (by omega) _ (by omega);go_in;go_wp2_with fail;refine(Ot s _ _ I rfl).mono ?_;rintro e G⟨rfl,rfl⟩;generalize cE (min 61 (s.size+1)-1) s=ws at C⊢;generalize min 61 (s.size+1)=N;go_wp2;go_ret;exact⟨_,ws,N,rfl,Ru w ws N,C.o,Zb.alloc Zl _⟩
 .have D:Hid (cX s=0):=Sl (by omega);have e:=oy B;subst e;clear B;go_in;go_wp2;go_ret;exact⟨Ò,[],0,rfl,λi hi=>by simp at hi,by rw[D.o];rfl,Below.refl _ _⟩
