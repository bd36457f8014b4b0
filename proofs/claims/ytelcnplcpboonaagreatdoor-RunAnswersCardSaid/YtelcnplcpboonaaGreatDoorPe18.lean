import Derived.Test.YtelcnplcpboonaaGreatDoorPe15
import Derived.Laws.Strings2
import Derived.Test.YtelcnplcpboonaaGreatDoorPe09
open Go.Proofs.Tryz
open List renaming length->ſ
open Go.World renaming block_lt_of_cell?->À
open Option renaming some->Á,none->Ð
open Go.Value renaming string->Â,pointer->Ä,slice->Å,int->Æ,agg->É,tuple->Ì,bool->Í
open Go.Ending renaming returned->Ã
open Go.Lib renaming toList_data->Ç,hasPrefix->Ï
open Go.IntKind renaming i64->È
open Go renaming bodyPost_ret->Ê,Calls->Ë,World->Î,results->Ñ
namespace Go.Proofs.YtelcnplcpboonaaGreatDoor
open Go Go.RowKit
set_option maxRecDepth 100000
set_option maxHeartbeats 2000000
structure ew where
 gw:Nat
 cw:Nat
 ga:Nat
 ca:Nat
structure Ry(K:ew)(ws:List Wd)(pl:Nat->Nat)(b q:Nat)(w:Î):Prop where
 le:q<=ſ ws
 c0:w.cell? ⟨b,0,Ð⟩=Á (Å (Á ⟨K.gw,q,Ð⟩) (ſ ws+1-q) (K.cw-q))
 c1:w.cell? ⟨b,1,Ð⟩=Á (Å (Á ⟨K.ga,q,Ð⟩) (ſ ws+1-q) (K.ca-q))
 row:fV w b 2
 wd:∀i,i<=ſ ws->w.cell? ⟨K.gw,i,Ð⟩=Á (Â (ab (ws.getD i [])))
 pt:∀i,i<=ſ ws->w.cell? ⟨K.ga,i,Ð⟩=Á (Æ È (pl i:Int))
 nw:K.gw≠b
 na:K.ga≠b
 lw:ſ ws<K.cw
 la:ſ ws<K.ca
 few:ſ ws<=60000
section
variable {K:ew} {ws:List Wd} {pl:Nat→Nat} {b q:Nat} {w w':Î}
theorem Ry.gwlt(h:Ry K ws pl b q w):K.gw<w.heap.size:=À _ _ (h.wd 0 (Nat.zero_le _))
theorem Ry.galt(h:Ry K ws pl b q w):K.ga<w.heap.size:=À _ _ (h.pt 0 (Nat.zero_le _))
theorem Ry.keepB{B}(h:Ry K ws pl b q w)(A:Below B w w')(C:b<B)(D:K.gw<B)(E:K.ga<B):Ry K ws pl b q w':=
 ⟨h.le,(A.cell (p:=b) C).trans h.c0,(A.cell (p:=(b,1)) C).trans h.c1,h.row.kept (A.block b C),λi a=>(A.cell (p:=(K.gw,i)) D).trans (h.wd i a),λi a=>(A.cell (p:=(K.ga,i)) E).trans (h.pt i a),h.nw,h.na,h.lw,h.la,h.few⟩
theorem Ry.keep(h:Ry K ws pl b q w)(A:Below w w w'):Ry K ws pl b q w':=h.keepB A h.row.lt h.gwlt h.galt
theorem Ry.step(h:Ry K ws pl b q w)(D:q<ſ ws){C}(A:C=(w.setCell b (Å (Á ↑(K.gw,q+1)) (ſ ws-q) (K.cw-q-1))).setCell (b,1) (Å (Á ↑(K.ga,q+1)) (ſ ws-q) (K.ca-q-1))):Ry K ws pl b (q+1) C:=by
 subst A;have B:ſ ws+1-(q+1)=ſ ws-q:=by omega
 refine⟨D,?_,?_,h.row.set.set,λi hi=>?_,λi hi=>?_,h.nw,h.na,h.lw,h.la,h.few⟩
 .rw[B,Nat.sub_add_eq];exact(af (.inr (by omega))).trans (cF h.c0)
 .rw[B,Nat.sub_add_eq];exact cF ((af (.inr (by omega))).trans h.c1)
 .exact(af (.inl h.nw.symm)).trans ((af (.inl h.nw.symm)).trans (h.wd i hi))
 .exact(af (.inl h.na.symm)).trans ((af (.inl h.na.symm)).trans (h.pt i hi))
end
theorem iY{ws:List Wd}{q}(h:q<ſ ws):ws.getD q []=ws[q]:=by simp[h]
theorem mN{ws:List Wd}{q}(h:ſ ws<=q):ws.getD q []=[]:=by simp[h]
theorem oB{K ws}{pl:Nat->Nat}{b q w}(h:Ry K ws pl b q w):
  Ë prog 117 #[Ä b] w λe D=>e=Ã (Â (ab (ws.getD q [])))/\D=w:=by
 have A:=h.c0;have B:=h.wd q h.le;generalize ab (ws.getD q [])=S at B⊢;have C:0<ſ ws+1-q:=by have:=h.le;omega
 generalize (ſ ws)+1-q=n at A C;generalize K.cw-q=c at A;go_in;go_wp2;go_ret;exact⟨rfl,rfl⟩
theorem Vx(b o n c:Nat)(E:1<=n)(D:1<c)(W):
  (Instr.slice 72 (Å (Á ↑(b,o)) n c) (Á (Æ È 1)) Ð Ð).run prog W=.ok (Å (Á ↑(b,o+1)) (n-1) (c-1)) W:=by
 rw[run_slice_l W 72 _ n c Tryz.underlying72 È 1 (by omega) (by omega)];have C:(sizeOf (prog.elem 72)).run prog W=.ok 1 W:=by kernel_rfl
 rw[C];have B:((b,o):Addr).add 1=(b,o+1):=rfl;have A:¬c=1:=by omega
 simp[Result.andThen,sliced,B,A]
theorem Uw(b o n c:Nat)(E:1<=n)(D:1<c)(W):
  (Instr.slice 73 (Å (Á ↑(b,o)) n c) (Á (Æ È 1)) Ð Ð).run prog W=.ok (Å (Á ↑(b,o+1)) (n-1) (c-1)) W:=by
 rw[run_slice_l W 73 _ n c Tryz.underlying73 È 1 (by omega) (by omega)];have C:(sizeOf (prog.elem 73)).run prog W=.ok 1 W:=by kernel_rfl
 rw[C];have B:((b,o):Addr).add 1=(b,o+1):=rfl;have A:¬c=1:=by omega
 simp[Result.andThen,sliced,B,A]
theorem qa{K ws}{pl:Nat->Nat}{b q}{w:Î}(h:Ry K ws pl b q w)(U:q<ſ ws):
  Ë prog 183 #[Ä b] w λe R=>e=Ã (Â (ab ws[q]))/\Ry K ws pl b (q+1) R/\ak w b w R:=by
 have G:=h.c0;have I:=h.c1;have J:=h.wd q h.le;rw[iY U]at J;have P:w.frozen? b=false:=h.row.frozen;have Q:w.frozen? (b,1)=false:=h.row.frozen;have H:=aa h;have O:=h.lw;have N:=h.la;generalize ab ws[q]=S at J⊢;have D:Hid (ſ ws+1-q-1=ſ ws-q):=(show _=_ by omega);have E:1<=ſ ws+1-q:=by omega
 have B:=Vx K.gw q (ſ ws+1-q) (K.cw-q) E (by omega);have C:=Uw K.ga q (ſ ws+1-q) (K.ca-q) E (by omega);rw[D.o]at B C;generalize (ſ ws)+1-q=n at G I B C E
 have A:Hid (∀R,R=(w.setCell b (Å (Á ↑(K.gw,q+1)) (ſ ws-q) (K.cw-q-1))).setCell (b,1) (Å (Á ↑(K.ga,q+1)) (ſ ws-q) (K.ca-q-1))->Ry K ws pl b (q+1) R/\ak w b w R):=λR V=>⟨H.o.step U V,by
  subst V
  exact((ak.refl _ _ _).setCell (p:=b) (.inl rfl) _).setCell (p:=(b,1)) (.inl rfl) _⟩
 generalize (ſ ws)-q=m at B C A;generalize K.cw-q=cw at G B A;generalize K.ca-q=ca at I C A;clear h O N U;go_in;go_wp2_with fail
 go_region
 go_wp2;go_ret;obtain⟨L,M⟩:=A.o _ rfl;exact⟨rfl,L.keep (Below.drew Zb),M.drew⟩
abbrev cD(k:Nat):PanicEntry:={v:=.iface 178 (É #[Æ È (k:Int)]),recovered:=false}
theorem ED{K ws}{pl:Nat->Nat}{b q w}(h:Ry K ws pl b q w):
  Ë prog 185 #[Ä b] w λe D=>e=.panicked [cD (pl q)]/\D=w:=by
 have A:=h.c1;have C:=h.pt q h.le;have B:0<ſ ws+1-q:=by have:=h.le;omega
 generalize (ſ ws)+1-q=n at A B;generalize K.ca-q=c at A;go_in;go_wp2;exact⟨rfl,rfl,rfl⟩
theorem Jj(s)(lo hi:Nat)(w)(V:1<=lo):
  Ë prog 216 #[Â (ab s),Æ .u8 (lo:Int),Æ .u8 (hi:Int)] w λe O=>e=Ã (Í (decide (lo<=(s.headD 0).toNat)&&decide ((s.headD 0).toNat<=hi)))/\O=w:=by
 cases s with
 | nil=>
  have N:(decide (lo<=(([]:Wd).headD 0).toNat)&&decide ((([]:Wd).headD 0).toNat<=hi))=false:=by
   have:¬lo<=(([]:Wd).headD 0).toNat:=by show ¬lo<=0;omega
   simp only[decide_eq_false this,Bool.false_and]
  rw[N];have K:ab []=⟨#[]⟩:=rfl;rw[K];go_in;go_wp2;go_ret;exact⟨rfl,rfl⟩
 | cons c r=>
  have D:0<(ab (c::r)).size:=by rw[<-aw];show 0<(c::r).length;simp
  have B:∀h:0<(ab (c::r)).size,(ab (c::r))[0]=c:=λ_=>rfl
  have H:¬(ab (c::r)).toList=[]:=by rw[Ç];show ¬(c::r)=[];simp
  have C:((ab (c::r)).toList==[])=false:=by rw[Ç];rfl
  show Ë _ _ _ _ λe O=>e=Ã (Í (decide (lo<=c.toNat)&&decide (c.toNat<=hi)))/\O=w
  have E:Hid (∀(a b:Bool),a=decide ((lo:Int)<=(c.toNat:Int))->b=decide ((c.toNat:Int)<=(hi:Int))->(decide (lo<=c.toNat)&&decide (c.toNat<=hi))=(a&&b)):=λa b P U=>by
   subst P U;have L:decide ((lo:Int)<=(c.toNat:Int))=decide (lo<=c.toNat):=by congr 1;simp
   have M:decide ((c.toNat:Int)<=(hi:Int))=decide (c.toNat<=hi):=by congr 1;simp
   rw[L,M]
  generalize(decide (lo<=c.toNat)&&decide (c.toNat<=hi))=R at E⊢
  generalize ab (c::r)=S at D B H C⊢;have J:=B D;by_cases G:(lo:Int)<=(c.toNat:Int)
  .by_cases I:(c.toNat:Int)<=(hi:Int)
   .have A:=E.o true true (decide_eq_true G).symm (decide_eq_true I).symm;simp only[Bool.and_self]at A;subst A;go_in;go_wp2;go_ret;exact⟨rfl,rfl⟩
   .have A:=E.o true false (decide_eq_true G).symm (decide_eq_false I).symm;simp only[Bool.and_false]at A;subst A;go_in;go_wp2;go_ret;exact⟨rfl,rfl⟩
  .have A:=E.o false (decide ((c.toNat:Int)<=(hi:Int))) (decide_eq_false G).symm rfl;simp only[Bool.false_and]at A;subst A;go_in;go_wp2;go_ret;exact⟨rfl,rfl⟩
theorem OH(s w):Ë prog 240 #[Â (ab s)] w λe B=>e=Ã (Í (dN s))/\B=w:=by
 have A:Hid (∀W,Cp 216 #[Â (ab s),Æ .u8 48,Æ .u8 57] W λe B=>e=Ã (Í (dN s))/\B=W):=λW=>Jj s 48 57 W (by omega)
 generalize dN s=R at A⊢;go_in;go_wp2_with fail;refine gv (A.o _) ?_;go_wp2;go_ret;exact⟨rfl,rfl⟩
theorem ME:bb dH=false:=by decide
theorem M7(s)(hs:s=[]\/dR s)(w):Ë prog 184 #[Â (ab s)] w λe H=>e=Ã (Í (bb s))/\H=w:=by
 by_cases C:s=dH
 .subst C;rw[ME];have E:ab dH=⟨#[108,101,116]⟩:=rfl;rw[E];go_in;go_wp2;go_ret;exact⟨rfl,rfl⟩
 .have G:bb s=aI (s.headD 0):=by
   rcases hs with rfl|hs
   .decide
   .rw[VK hs];simp[C]
  rw[G];have B:Hid (∀W,Cp 216 #[Â (ab s),Æ .u8 97,Æ .u8 122] W λe H=>e=Ã (Í (aI (s.headD 0)))/\H=W):=λW=>Jj s 97 122 W (by omega)
  have A:((ab s).toList==[108,101,116])=false:=by
   rw[Ç]
   show(s==[108,101,116])=false
   simpa using C
  have D:¬(ab s).toList=[108,101,116]:=by
   intro e;rw[e]at A;cases A
  generalize aI (s.headD 0)=R at B⊢;generalize ab s=S at B D A⊢;go_in;go_wp2_with fail;refine gv (B.o _) ?_;go_wp2;go_ret;exact⟨rfl,rfl⟩
theorem Jl(s w):Ë prog 145 #[Â (ab s)] w λe C=>e=Ã (Í (decide (s.headD 0=35)))/\C=w:=by
 have A:Hid (∀W,Cp 181 #[Â (ab s),Â ⟨#[35]⟩] W λe C=>e=Ã (Í (decide (s.headD 0=35)))/\C=W):=λW=>by
  have h:=O8 (ab s) ⟨#[35]⟩ W
  have B:Ï (ab s).data.toList (⟨#[35]⟩:ByteArray).data.toList=decide (s.headD 0=35):=by
   show Ï s [35]=_;cases s with
   | nil=>decide
   | cons c r=>
    show([35]:Wd).isPrefixOf (c::r)=decide (c=35)
    simp only[List.isPrefixOf,Bool.and_true];rw[Bool.eq_iff_iff,beq_iff_eq,decide_eq_true_eq];exact⟨Eq.symm,Eq.symm⟩
  rw[B]at h;exact h
 generalize decide (s.headD 0=35)=R at A⊢;go_in;go_wp2_with fail;refine gv (A.o _) ?_;go_wp2;go_ret;exact⟨rfl,rfl⟩
section
variable {K:ew} {ws:List Wd} {pl:Nat→Nat} {b q:Nat} {w:Î}
theorem PX(a c):((ab a).toList==(ab c).toList)=(a==c):=by
 rw[Ç,Ç];rfl
theorem mU(h:Ry K ws pl b q w)(s)(N:ws[q]?=Á s):
  Ë prog 147 #[Ä b,Â (ab s)] w λe M=>e=Ã (Í true)/\Ry K ws pl b (q+1) M/\ak w b w M:=by
 obtain⟨E,D⟩:=List.getElem?_eq_some_iff.1 N
 have C:Hid (Cp 117 #[Ä b] w λe M=>e=Ã (Â (ab s))/\M=w):=by
  have A:=oB h;rw[iY E,D]at A;exact A
 have B:Hid (Cp 183 #[Ä b] w λe M=>e=Ã (Â (ab s))/\Ry K ws pl b (q+1) M/\ak w b w M):=by
  have A:=qa h E;rw[D]at A;exact A
 have J:((ab s).toList==(ab s).toList)=true:=by simp
 generalize ab s=S at C B J⊢;go_in;go_wp2_with fail;refine gv C.o ?_;go_wp2_with fail;refine B.o.mono ?_;rintro e L⟨rfl,I,H⟩;have G:=aa (And.intro I H);go_wp2;go_ret;exact⟨rfl,G.o⟩
theorem lO(h:Ry K ws pl b q w)(s)(G:s≠[])(E:ws[q]?≠Á s):
  Ë prog 147 #[Ä b,Â (ab s)] w λe H=>e=Ã (Í false)/\H=w:=by
 have C:=aa (oB h)
 have B:((ab (ws.getD q [])).toList==(ab s).toList)=false:=by
  rw[PX];by_cases D:q<ſ ws
  .rw[iY D];rw[List.getElem?_eq_getElem D]at E;simpa using E
  .rw[mN (by omega)];cases s with
   | nil=>exact absurd rfl G
   | cons=>rfl
 have A:¬(ab (ws.getD q [])).toList=(ab s).toList:=by
  intro e;rw[e]at B;simp at B
 generalize ab (ws.getD q [])=X at C B A;generalize ab s=S at B A⊢;go_in;go_wp2_with fail;refine gv C.o ?_;go_wp2;go_ret;exact⟨rfl,rfl⟩
theorem oz(h:Ry K ws pl b q w)(s)(G:ws[q]?=Á s):
  Ë prog 149 #[Ä b,Â (ab s)] w λe a=>e=Ã (Ì #[])/\Ry K ws pl b (q+1) a/\ak w b w a:=by
 have A:=aa (mU h s G);generalize ab s=S at A⊢;go_in;go_wp2_with fail;refine A.o.mono ?_;rintro e E⟨rfl,D,C⟩;have B:=aa (And.intro D C);go_wp2
 go_end0
 exact⟨rfl,B.o⟩
theorem mV(h:Ry K ws pl b q w)(s)(D:s≠[])(E:ws[q]?≠Á s):
  Ë prog 149 #[Ä b,Â (ab s)] w λe a=>e=.panicked [cD (pl q)]/\a=w:=by
 have A:=aa (lO h s D E);have B:=aa (ED h);generalize ab s=S at A⊢;go_in;go_wp2_with fail;refine A.o.mono ?_;rintro e C⟨rfl,rfl⟩;go_wp2_with fail;refine B.o.mono ?_;rintro e C⟨rfl,rfl⟩;go_wp2;exact⟨rfl,rfl,rfl⟩
end
set_option maxHeartbeats 8000000
theorem Nl(I g n i c:Nat)(tx)(S en:Int)(nx dp:Nat)(lg:Int)(U:Nat)(w:Î)(hi:(i:Int)<n)
  (c0:w.cell? I=Á (Å g n n))
  (K:w.cell? (g,i*7)=Á (Æ È 5)) (L:w.cell? (g,i*7+1)=Á (Â tx)) (M:w.cell? (g,i*7+2)=Á ↑S) (N:w.cell? (g,i*7+3)=Á ↑en) (O:w.cell? (g,i*7+4)=Á ↑nx) (P:w.cell? (g,i*7+5)=Á ↑dp) (R:w.cell? (g,i*7+6)=Á ↑lg):
  Cb 274 #[Ä I,É #[i,c],U] w (Ì #[É #[nx,c],É #[Æ È 0,Æ È 0]]):=by
 unfold Cb;have D:=À w I c0;have C:=À w (g,i*7) K;have A:∀G H,(((w.alloc (.cells #[i,c] 280)).alloc G).alloc H).cell? w.heap.size=Á ↑i:=λG H=>by simp[go_sem]
 have B:∀G H J,((((w.alloc (.cells #[i,c] 280)).alloc G).alloc H).alloc J).cell? w.heap.size=Á ↑i:=λG H J=>ka (A G H) J
 go_in;go_wp2_with fail
 go_region_held3 (λE=>E.cell? I=Á (Å g n n)/\E.cell? w.heap.size=Á ↑i/\E.cell? (g,i*7)=Á (Æ È 5)/\E.cell? (g,i*7+1)=Á (Â tx)/\E.cell? (g,i*7+2)=Á ↑S/\E.cell? (g,i*7+3)=Á ↑en/\E.cell? (g,i*7+4)=Á ↑nx/\E.cell? (g,i*7+5)=Á ↑dp/\E.cell? (g,i*7+6)=Á ↑lg)
  (first|exact⟨k3 c0 _ _ _,A _ _,k3 K _ _ _,k3 L _ _ _,k3 M _ _ _,k3 N _ _ _,k3 O _ _ _,k3 P _ _ _,k3 R _ _ _⟩|exact⟨k4 c0 _ _ _ _,B _ _ _,k4 K _ _ _ _,k4 L _ _ _ _,k4 M _ _ _ _,k4 N _ _ _ _,k4 O _ _ _ _,k4 P _ _ _ _,k4 R _ _ _ _⟩) (fail)
 all_goals
  go_wp2;exact Ê (v:=Ì #[É #[nx,c],É #[Æ È 0,Æ È 0]]) (by simp[Ñ,Tryz.results274,go_sem]) rfl ⟨rfl,(lS w _ _ _ _).drew⟩
theorem zi(L:Int)(Z:L=6\/L=7)(K g n i c:Nat)(tx)(W en:Int)(nx dp:Nat)(lg:Int)(X:Nat)(w:Î)(Y:n<=400)(hi:(i:Int)<n)
  (c0:w.cell? K=Á (Å g n n))
  (N:w.cell? (g,i*7)=Á ↑L) (O:w.cell? (g,i*7+1)=Á (Â tx)) (P:w.cell? (g,i*7+2)=Á ↑W) (R:w.cell? (g,i*7+3)=Á ↑en) (S:w.cell? (g,i*7+4)=Á ↑nx) (U:w.cell? (g,i*7+5)=Á ↑dp) (V:w.cell? (g,i*7+6)=Á ↑lg):
  Cb 274 #[Ä ↑K,É #[↑i,↑c],↑X] w (Ì #[É #[↑((i:Int)+1),↑c],É #[Æ È 0,Æ È 0]]):=by
 unfold Cb;have G:nE L:=.mk;rcases Z with rfl|rfl
 all_goals
  have E:=kh Y hi;have D:=À w K c0;have C:=À w (g,i*7) N;have A:∀I J,(((w.alloc (.cells #[i,c] 280)).alloc I).alloc J).cell? w.heap.size=Á ↑i:=λI J=>by simp[go_sem]
  have B:∀I J M,((((w.alloc (.cells #[i,c] 280)).alloc I).alloc J).alloc M).cell? w.heap.size=Á ↑i:=λI J M=>ka (A I J) M
  go_in;go_wp2_with fail
  go_region_held3 (λH=>H.cell? K=Á (Å g n n)/\H.cell? w.heap.size=Á ↑i/\H.cell? (g,i*7)=Á (Æ È ↑G)/\H.cell? (g,i*7+1)=Á (Â tx)/\H.cell? (g,i*7+2)=Á ↑W/\H.cell? (g,i*7+3)=Á ↑en/\H.cell? (g,i*7+4)=Á ↑nx/\H.cell? (g,i*7+5)=Á ↑dp/\H.cell? (g,i*7+6)=Á ↑lg)
   (first|exact⟨k3 c0 _ _ _,A _ _,k3 N _ _ _,k3 O _ _ _,k3 P _ _ _,k3 R _ _ _,k3 S _ _ _,k3 U _ _ _,k3 V _ _ _⟩|exact⟨k4 c0 _ _ _ _,B _ _ _,k4 N _ _ _ _,k4 O _ _ _ _,k4 P _ _ _ _,k4 R _ _ _ _,k4 S _ _ _ _,k4 U _ _ _ _,k4 V _ _ _ _⟩) (fail)
  all_goals
   go_wp2;exact Ê (v:=Ì #[É #[↑((i:Int)+1),↑c],É #[Æ È 0,Æ È 0]]) (by simp[Ñ,Tryz.results274,go_sem]) rfl ⟨rfl,(lS w _ _ _ _).drew⟩
theorem IY(J g n i c:Nat)(tx)(U en:Int)(nx dp:Nat)(lg:Int)(w:Î)(V:n<=400)(hi:(i:Int)<n)
  (c0:w.cell? J=Á (Å g n n))
  (L:w.cell? (g,i*7)=Á (Æ È 8)) (M:w.cell? (g,i*7+1)=Á (Â tx)) (N:w.cell? (g,i*7+2)=Á ↑U) (O:w.cell? (g,i*7+3)=Á ↑en) (P:w.cell? (g,i*7+4)=Á ↑nx) (R:w.cell? (g,i*7+5)=Á ↑dp) (S:w.cell? (g,i*7+6)=Á ↑lg):
  Cb 274 #[Ä ↑J,É #[↑i,↑c],Æ È 1] w (Ì #[É #[↑((i:Int)+1),↑c],É #[Æ È 0,Æ È 0]]):=by
 unfold Cb;have E:=kh V hi;have D:=À w J c0;have C:=À w (g,i*7) L;have A:∀H I,(((w.alloc (.cells #[i,c] 280)).alloc H).alloc I).cell? w.heap.size=Á ↑i:=λH I=>by simp[go_sem]
 have B:∀H I K,((((w.alloc (.cells #[i,c] 280)).alloc H).alloc I).alloc K).cell? w.heap.size=Á ↑i:=λH I K=>ka (A H I) K
 go_in;go_wp2_with fail
 go_region_held3 (λG=>G.cell? J=Á (Å g n n)/\G.cell? w.heap.size=Á ↑i/\G.cell? (g,i*7)=Á (Æ È 8)/\G.cell? (g,i*7+1)=Á (Â tx)/\G.cell? (g,i*7+2)=Á ↑U/\G.cell? (g,i*7+3)=Á ↑en/\G.cell? (g,i*7+4)=Á ↑nx/\G.cell? (g,i*7+5)=Á ↑dp/\G.cell? (g,i*7+6)=Á ↑lg)
  (first|exact⟨k3 c0 _ _ _,A _ _,k3 L _ _ _,k3 M _ _ _,k3 N _ _ _,k3 O _ _ _,k3 P _ _ _,k3 R _ _ _,k3 S _ _ _⟩|exact⟨k4 c0 _ _ _ _,B _ _ _,k4 L _ _ _ _,k4 M _ _ _ _,k4 N _ _ _ _,k4 O _ _ _ _,k4 P _ _ _ _,k4 R _ _ _ _,k4 S _ _ _ _⟩) (fail)
 all_goals
  go_wp2;exact Ê (v:=Ì #[É #[↑((i:Int)+1),↑c],É #[Æ È 0,Æ È 0]]) (by simp[Ñ,Tryz.results274,go_sem]) rfl ⟨rfl,(lS w _ _ _ _).drew⟩
theorem Nj(J g n i c:Nat)(tx)(U en:Int)(nx dp:Nat)(lg:Int)(w:Î)(V:n<=400)(hi:(i:Int)<n)
  (c0:w.cell? J=Á (Å g n n))
  (L:w.cell? (g,i*7)=Á (Æ È 9)) (M:w.cell? (g,i*7+1)=Á (Â tx)) (N:w.cell? (g,i*7+2)=Á ↑U) (O:w.cell? (g,i*7+3)=Á ↑en) (P:w.cell? (g,i*7+4)=Á ↑nx) (R:w.cell? (g,i*7+5)=Á ↑dp) (S:w.cell? (g,i*7+6)=Á ↑lg):
  Cb 274 #[Ä ↑J,É #[↑i,↑c],Æ È 0] w (Ì #[É #[↑((i:Int)+1),↑c],É #[Æ È 0,Æ È 0]]):=by
 unfold Cb;have E:=kh V hi;have D:=À w J c0;have C:=À w (g,i*7) L;have A:∀H I,(((w.alloc (.cells #[i,c] 280)).alloc H).alloc I).cell? w.heap.size=Á ↑i:=λH I=>by simp[go_sem]
 have B:∀H I K,((((w.alloc (.cells #[i,c] 280)).alloc H).alloc I).alloc K).cell? w.heap.size=Á ↑i:=λH I K=>ka (A H I) K
 go_in;go_wp2_with fail
 go_region_held3 (λG=>G.cell? J=Á (Å g n n)/\G.cell? w.heap.size=Á ↑i/\G.cell? (g,i*7)=Á (Æ È 9)/\G.cell? (g,i*7+1)=Á (Â tx)/\G.cell? (g,i*7+2)=Á ↑U/\G.cell? (g,i*7+3)=Á ↑en/\G.cell? (g,i*7+4)=Á ↑nx/\G.cell? (g,i*7+5)=Á ↑dp/\G.cell? (g,i*7+6)=Á ↑lg)
  (first|exact⟨k3 c0 _ _ _,A _ _,k3 L _ _ _,k3 M _ _ _,k3 N _ _ _,k3 O _ _ _,k3 P _ _ _,k3 R _ _ _,k3 S _ _ _⟩|exact⟨k4 c0 _ _ _ _,B _ _ _,k4 L _ _ _ _,k4 M _ _ _ _,k4 N _ _ _ _,k4 O _ _ _ _,k4 P _ _ _ _,k4 R _ _ _ _,k4 S _ _ _ _⟩) (fail)
 all_goals
  go_wp2;exact Ê (v:=Ì #[É #[↑((i:Int)+1),↑c],É #[Æ È 0,Æ È 0]]) (by simp[Ñ,Tryz.results274,go_sem]) rfl ⟨rfl,(lS w _ _ _ _).drew⟩
