import Derived.Test.YtelcnplcpboonaaGreatDoorPe28
open Go.Proofs.Tryz
open List renaming length->ſ
open List renaming replicate->À,length_cons->Æ,length_nil->É,length_append->Ë,length_drop->Ì,length->Î
open Option renaming some->Á
open Go.Ending renaming returned->Â
open Go.Value renaming slice->Ã,pointer->Ä,string->Ê,int->Ï
open Go.RowKit.Below renaming refl->Å,drew->Ç
open Go renaming Calls->È,World->Í
namespace Go.Proofs.YtelcnplcpboonaaGreatDoor
open Go Go.RowKit
set_option maxRecDepth 100000
set_option maxHeartbeats 4000000
theorem cO.part{s o i w L A r}(h:cO s w (Á ↑(s,o)) L)(M:L.drop i=A++r):cO s w (Á ↑(s,o+i*3)) A:=by
 intro j I;have J:=congrArg Î M;rw[Ì,Ë]at J;have B:i+j<ſ L:=by omega
 obtain⟨K,e,C,D,E⟩:=h (i+j) B;simp only[Option.some.injEq,Addr.mk.injEq,and_true,true_and]at e;subst e
 have H:L[i+j]=A[j]:=by
  have G:(L.drop i)[j]?=Á A[j]:=by rw[M,List.getElem?_append_left I];simp
  rw[List.getElem?_drop]at G;exact(List.getElem?_eq_some_iff.1 G).2
 rw[H]at C D E;refine⟨o+i*3,rfl,?_,?_,?_⟩
 .rw[show o+i*3+j*3=o+(i+j)*3 by omega];exact C
 .rw[show o+i*3+j*3+1=o+(i+j)*3+1 by omega];exact D
 .rw[show o+i*3+j*3+2=o+(i+j)*3+2 by omega];exact E
theorem VU(B b s H I G a E)(i:Nat)(t:Tr)(r l K w)(P:t.Wf)(J:G.drop i=t.N++r)(L:LC B s H I a G w)(M:WS B b (eM H I (ſ G) E a) l K w)(O:t.isFlat=false):
  È prog 293 #[Ä b,i] w λe R=>e=Â (aF 4)/\Below B w R:=by
 have D:=mY J;have C:=M.c2;have A:=(L.kn i t r (Nat.zero_le _) P J).2;rw[O]at A;rw[Mg];go_in;go_wp2;go_ret;exact⟨rfl,Å _ _⟩
theorem Tk(B b s be bf)(hb:s<B/\be<B/\bf<B)(hB:B<=b)(ds a cap)(S:ſ ds<=cap)(hl:ſ ds<=400)(i:Nat)(t:Tr)(r l cv w)(ht:t.Wf)(hd:ds.drop i=t.N++r)(hC:LC B s be bf a ds w)(hW:WS B b (eM be bf (ſ ds) cap a) l cv w)(hf:t.isFlat=true)(p:ſ l<=1000000000):
  È prog 293 #[Ä b,i] w λe c=>e=Â .nilIface/\WS B b (eM be bf (ſ ds) cap a) (l++t.line.data.toList) cv c/\Below B w c:=by
 have f:=mY hd;have P:=hW.c0;have Q:=hW.c1;have u:=hW.c2;obtain⟨O,q⟩:=hC.kn i t r (Nat.zero_le _) ht hd;rw[hf]at q;obtain⟨C,Z,_,_,_⟩:=hC.nd i f;subst Z;have E:=hW.lt;have M:B<=w.heap.size:=by omega
 have g:(i:Int)<(ſ ds:Int):=by omega
 have D:i+ſ t.N<=ſ ds:=by
  have:=congrArg Î hd
  rw[Ì,Ë]at this;omega
 have hp:=t.pos;have V:aS w (Á ↑(s,C+i*3)) t.N:=(hC.nd.part hd).nods (by omega);have m:t.line.size<=8000:=by have:=lN t ht;rw[p4];omega
 generalize y:i+ſ t.N=j at O D;have G:ſ t.N=j-i:=by omega
 have I:Hid (∀W:Í,Below w w W->Cb 273 #[Ã (Á ↑(s,C+i*3)) (j-i) (cap-i)] W (.tuple #[Ê t.line,.bool true,.nilIface])):=λW hW=>by
  have:=FR t.N t rfl ht (by omega) (Á ↑(s,C+i*3)) (cap-i) (by omega) W (V.W hW)
  rw[hf,G]at this;exact this
 have v:(i:Int)<=(j:Int):=by omega
 have L:be<w.heap.size:=by omega
 have n:(0:Int)<=(i:Int):=by omega
 have o:(0:Int)<=(j:Int):=by omega
 have h:(i:Int)<(cap:Int):=by omega
 have c:¬(cap-i=0):=by omega
 have d:¬(cap=i):=by omega
 have k:((j:Int)-(i:Int)).toNat=j-i:=by omega
 have U:((cap:Int)-(i:Int)).toNat=cap-i:=by omega
 have x:(j:Int)<=(cap:Int):=by omega
 have R:(j:Int)<=(ſ ds:Int):=by omega
 have Y:Hid (WS B b (eM be bf (ſ ds) cap (Á ↑(s,C))) l cv w):=hW;clear hC hW hd V G;go_in;go_wp2_with fail
 go_region_held3 (λa=>a.cell? b=Á (Ã (Á ↑(s,C)) (ſ ds) cap)/\a.cell? (b,1)=Á (Ã be (ſ ds) (ſ ds))/\a.cell? (be,i)=Á ↑(j:Int))
  (first|exact⟨P,Q,O⟩|exact⟨((a9 A).1 _ _ E).trans P,((a9 A).1 _ _ E).trans Q,((a9 A).1 _ _ L).trans O⟩)
  (first|(go_at_call 273;refine(I.o _ (Ç (Å _ w))).mono ?_;rintro e X⟨rfl,A⟩))
 all_goals
  have J:Hid (WS B b (eM be bf (ſ ds) cap (Á ↑(s,C))) l cv X):=WS.W (WS.drew Y.o) A;have H:Hid (Below B w X):=(Ç (Å B w)).trans (A.mono M);clear A;go_wp2_with fail;refine(qf J.o hB t.line (by omega)).mono ?_;rintro e w3⟨⟨z,rfl⟩,R,K⟩;go_wp2;go_ret;exact⟨rfl,R,H.o.trans K⟩
theorem P5(B b s be bf)(_hb:s<B/\be<B/\bf<B)(hB:B<=b)(ds a cap)(_hl:ſ ds<=400)(tx n):gY B b s be bf ds a cap (⟨2,tx,n⟩::[]) (λa b=>.ok (10::À a 32,b)):=by
 intro i r deep ws t wc l w X V o _ P E D N;obtain⟨p,j,k⟩:=iD (x:=⟨2,tx,n⟩) (A:=[]++r) X;obtain⟨o0,m,Q,R,S⟩:=V.nd i p;subst m;rw[j]at Q R S;dsimp only at Q R S;have y:=E.c0;have c1:=E.c1;have c2:=E.c2;have c5:=E.c5;have q:=E.lt;have L:B<=w.heap.size:=by omega
 have v:=aa X;have Z:=aa k;have u:=aa V;have c:=aa o;have h:=aa E;have Y:Hid (∀O:Obj,Below B w (w.alloc O)):=λO=>(Å _ w).alloc L O
 simp only[Æ,É]at D N;have M:(⟨(À deep 32).toArray⟩:ByteArray).size<=3300:=by rw[<-fu];simp;omega
 have C:∀W:Í,È prog 279 #[Ê ⟨#[32]⟩,deep] W λe a=>e=Â (Ê ⟨(À deep 32).toArray⟩)/\Below W W a:=λW=>ya deep (by omega) W
 generalize I:(⟨(À deep 32).toArray⟩:ByteArray)=rs at M C;have f:=aa I;have d:=aa C;have g:Hid (l++(⟨#[10]⟩++rs:ByteArray).data.toList=l++10::À deep 32):=(show _=_ by rw[<-I];simp);have J:Hid (ſ l+(⟨#[10]⟩++rs:ByteArray).size<=2000000000):=(show _<=_ by rw[<-fu];simp;omega);go_in;go_wp2_with fail
 go_region_with (first
  | (go_at_call 279;refine(d.o _).mono ?_;rintro e w2⟨rfl,H⟩)
  | (go_at_call 10;refine(qf (WS.W (WS.drew (h.o.alloc _)) H) hB _ J.o).mono ?_;rintro e w3⟨⟨z,rfl⟩,U,K⟩))
 all_goals
  go_wp2;go_ret;have G:=((Ç (Y.o _)).trans (H.mono (by simp;omega))).trans K;rw[g.o]at U;exact⟨⟨rfl,t,wc,U,c.o.W G,P⟩,G⟩
theorem P6(B b s be bf)(_hb:s<B/\be<B/\bf<B)(hB:B<=b)(ds a cap)(_hl:ſ ds<=400)(tx n):gY B b s be bf ds a cap (⟨3,tx,n⟩::[]) (λa b=>.ok (10::À a 32,b)):=by
 intro i r deep ws t wc l w X V o _ P E D N;obtain⟨p,j,k⟩:=iD (x:=⟨3,tx,n⟩) (A:=[]++r) X;obtain⟨o0,m,Q,R,S⟩:=V.nd i p;subst m;rw[j]at Q R S;dsimp only at Q R S;have y:=E.c0;have c1:=E.c1;have c2:=E.c2;have c5:=E.c5;have q:=E.lt;have L:B<=w.heap.size:=by omega
 have v:=aa X;have Z:=aa k;have u:=aa V;have c:=aa o;have h:=aa E;have Y:Hid (∀O:Obj,Below B w (w.alloc O)):=λO=>(Å _ w).alloc L O
 simp only[Æ,É]at D N;have M:(⟨(À deep 32).toArray⟩:ByteArray).size<=3300:=by rw[<-fu];simp;omega
 have C:∀W:Í,È prog 279 #[Ê ⟨#[32]⟩,deep] W λe a=>e=Â (Ê ⟨(À deep 32).toArray⟩)/\Below W W a:=λW=>ya deep (by omega) W
 generalize I:(⟨(À deep 32).toArray⟩:ByteArray)=rs at M C;have f:=aa I;have d:=aa C;have g:Hid (l++(⟨#[10]⟩++rs:ByteArray).data.toList=l++10::À deep 32):=(show _=_ by rw[<-I];simp);have J:Hid (ſ l+(⟨#[10]⟩++rs:ByteArray).size<=2000000000):=(show _<=_ by rw[<-fu];simp;omega);go_in;go_wp2_with fail
 go_region_with (first
  | (go_at_call 279;refine(d.o _).mono ?_;rintro e w2⟨rfl,H⟩)
  | (go_at_call 10;refine(qf (WS.W (WS.drew (h.o.alloc _)) H) hB _ J.o).mono ?_;rintro e w3⟨⟨z,rfl⟩,U,K⟩))
 all_goals
  go_wp2;go_ret;have G:=((Ç (Y.o _)).trans (H.mono (by simp;omega))).trans K;rw[g.o]at U;exact⟨⟨rfl,t,wc,U,c.o.W G,P⟩,G⟩
theorem P8(B b s be bf)(_hb:s<B/\be<B/\bf<B)(hB:B<=b)(ds a cap)(_hl:ſ ds<=400)(tx n):gY B b s be bf ds a cap (⟨4,tx,n⟩::[]) (λa b=>.ok (10::À a 32,b)):=by
 intro i r deep ws t wc l w X V o _ P E D N;obtain⟨p,j,k⟩:=iD (x:=⟨4,tx,n⟩) (A:=[]++r) X;obtain⟨o0,m,Q,R,S⟩:=V.nd i p;subst m;rw[j]at Q R S;dsimp only at Q R S;have y:=E.c0;have c1:=E.c1;have c2:=E.c2;have c5:=E.c5;have q:=E.lt;have L:B<=w.heap.size:=by omega
 have v:=aa X;have Z:=aa k;have u:=aa V;have c:=aa o;have h:=aa E;have Y:Hid (∀O:Obj,Below B w (w.alloc O)):=λO=>(Å _ w).alloc L O
 simp only[Æ,É]at D N;have M:(⟨(À deep 32).toArray⟩:ByteArray).size<=3300:=by rw[<-fu];simp;omega
 have C:∀W:Í,È prog 279 #[Ê ⟨#[32]⟩,deep] W λe a=>e=Â (Ê ⟨(À deep 32).toArray⟩)/\Below W W a:=λW=>ya deep (by omega) W
 generalize I:(⟨(À deep 32).toArray⟩:ByteArray)=rs at M C;have f:=aa I;have d:=aa C;have g:Hid (l++(⟨#[10]⟩++rs:ByteArray).data.toList=l++10::À deep 32):=(show _=_ by rw[<-I];simp);have J:Hid (ſ l+(⟨#[10]⟩++rs:ByteArray).size<=2000000000):=(show _<=_ by rw[<-fu];simp;omega);go_in;go_wp2_with fail
 go_region_with (first
  | (go_at_call 279;refine(d.o _).mono ?_;rintro e w2⟨rfl,H⟩)
  | (go_at_call 10;refine(qf (WS.W (WS.drew (h.o.alloc _)) H) hB _ J.o).mono ?_;rintro e w3⟨⟨z,rfl⟩,U,K⟩))
 all_goals
  go_wp2;go_ret;have G:=((Ç (Y.o _)).trans (H.mono (by simp;omega))).trans K;rw[g.o]at U;exact⟨⟨rfl,t,wc,U,c.o.W G,P⟩,G⟩
theorem BE{b:Nat}{B wc}(i A:Int)(w)(c5:w.cell? (b,5)=Á (Ã B 0 wc)):
  Cw 280 #[Ä b,i,A] w (aF 2):=by
 unfold Cw;rw[pF];go_in;go_wp2;go_ret;exact⟨rfl,rfl⟩
theorem PY{b s be M R N n O wc:Nat}(i A m:Nat)(w)(_hbb:M≠b)(J:s≠b)(E:be≠b)(_hn:n<=400)(G:(i:Int)<(n:Int))
  (c0:w.cell? b=Á (Ã (Á ↑(s,R)) n O)) (S:w.cell? (s,R+i*3)=Á (Ï .i64 8)) (_c1:w.cell? (b,1)=Á (Ã be n n))
  (c5:w.cell? (b,5)=Á (Ã (Á ↑(M,N)) (m+1) wc)) (f5:w.frozen? (b,5)=false) (K:m+1<=wc) (U:w.cell? (M,N)=Á (Ï .i64 0)) (Q:Value->Í->Prop)
  (H:È prog 293 #[Ä b,i] (w.setCell (b,5) (Ã (if wc=1 then Á ↑(M,N)else Á ↑(M,N+1)) m (wc-1))) λe P=>∃v,e=Â v/\Q v P):
  È prog 280 #[Ä b,i,A] w λe P=>∃v,e=Â v/\Q v P:=by
 have I:=beq_eq_false_iff_ne.2 (by omega);by_cases D:wc=1
 .rw[if_pos D]at H;obtain rfl:m=0:=by omega
  subst D;have B:=aa H;go_in;go_wp2_with fail;refine B.o.mono ?_;rintro e L⟨v,rfl,C⟩;go_wp2;go_ret;exact⟨_,rfl,C⟩
 .rw[if_neg D]at H;have B:=aa H;go_in;go_wp2_with fail;refine B.o.mono ?_;rintro e L⟨v,rfl,C⟩;go_wp2;go_ret;exact⟨_,rfl,C⟩
theorem PZ{b s be M R N n O wc:Nat}(i A m:Nat)(w)(_hbb:M≠b)(J:s≠b)(E:be≠b)(U:n<=400)(G:(i:Int)<(n:Int))
  (c0:w.cell? b=Á (Ã (Á ↑(s,R)) n O)) (S:w.cell? (s,R+i*3)=Á (Ï .i64 8)) (_c1:w.cell? (b,1)=Á (Ã be n n))
  (c5:w.cell? (b,5)=Á (Ã (Á ↑(M,N)) (m+1) wc)) (f5:w.frozen? (b,5)=false) (K:m+1<=wc) (V:w.cell? (M,N)=Á (Ï .i64 1)) (Q:Value->Í->Prop)
  (H:È prog 261 #[Ä ↑b,↑((i:Int)+1),↑A] (w.setCell ↑(b,5) (Ã (if wc=1 then Á ↑(M,N)else Á ↑(M,N+1)) m (wc-1))) λe P=>∃v,e=Â v/\Q v P):
  È prog 280 #[Ä ↑b,↑i,↑A] w λe P=>∃v,e=Â v/\Q v P:=by
 have I:=beq_eq_false_iff_ne.2 (by omega);by_cases D:wc=1
 .rw[if_pos D]at H;obtain rfl:m=0:=by omega
  subst D;have B:=aa H;clear H;go_in;go_wp2_with fail;refine B.o.mono ?_;rintro e L⟨v,rfl,C⟩;go_wp2;go_ret;exact⟨_,rfl,C⟩
 .rw[if_neg D]at H;have B:=aa H;go_in;go_wp2_with fail;refine B.o.mono ?_;rintro e L⟨v,rfl,C⟩;go_wp2;go_ret;exact⟨_,rfl,C⟩
theorem P0{b s be M R N n O wc:Nat}(i A m:Nat)(w)(_hbb:M≠b)(J:s≠b)(E:be≠b)(U:n<=400)(G:(i:Int)<(n:Int))
  (c0:w.cell? b=Á (Ã (Á ↑(s,R)) n O)) (S:w.cell? (s,R+i*3)=Á (Ï .i64 9)) (_c1:w.cell? (b,1)=Á (Ã be n n))
  (c5:w.cell? (b,5)=Á (Ã (Á ↑(M,N)) (m+1) wc)) (f5:w.frozen? (b,5)=false) (K:m+1<=wc) (V:w.cell? (M,N)=Á (Ï .i64 0)) (Q:Value->Í->Prop)
  (H:È prog 261 #[Ä ↑b,↑((i:Int)+1),↑A] (w.setCell ↑(b,5) (Ã (if wc=1 then Á ↑(M,N)else Á ↑(M,N+1)) m (wc-1))) λe P=>∃v,e=Â v/\Q v P):
  È prog 280 #[Ä ↑b,↑i,↑A] w λe P=>∃v,e=Â v/\Q v P:=by
 have I:=beq_eq_false_iff_ne.2 (by omega);by_cases D:wc=1
 .rw[if_pos D]at H;obtain rfl:m=0:=by omega
  subst D;have B:=aa H;clear H;go_in;go_wp2_with fail;refine B.o.mono ?_;rintro e L⟨v,rfl,C⟩;go_wp2;go_ret;exact⟨_,rfl,C⟩
 .rw[if_neg D]at H;have B:=aa H;go_in;go_wp2_with fail;refine B.o.mono ?_;rintro e L⟨v,rfl,C⟩;go_wp2;go_ret;exact⟨_,rfl,C⟩
theorem P3{b s be N S O n P wc:Nat}(i A m:Nat)(w)(_hbb:N≠b)(K:s≠b)(E:be≠b)(W:n<=400)(I:(i:Int)<(n:Int))(G:(i:Int)+1<(n:Int))(j:Nat)(V:w.cell? (be,i+1)=Á ↑(j:Int))
  (c0:w.cell? b=Á (Ã (Á ↑(s,S)) n P)) (U:w.cell? (s,S+i*3)=Á (Ï .i64 9)) (c1:w.cell? (b,1)=Á (Ã be n n))
  (c5:w.cell? (b,5)=Á (Ã (Á ↑(N,O)) (m+1) wc)) (f5:w.frozen? (b,5)=false) (L:m+1<=wc) (X:w.cell? (N,O)=Á (Ï .i64 1)) (Q:Value->Í->Prop)
  (H:È prog 261 #[Ä b,(j:Int),A] (w.setCell (b,5) (Ã (if wc=1 then Á ↑(N,O)else Á ↑(N,O+1)) m (wc-1))) λe R=>∃v,e=Â v/\Q v R):
  È prog 280 #[Ä b,i,A] w λe R=>∃v,e=Â v/\Q v R:=by
 have J:=beq_eq_false_iff_ne.2 (by omega);by_cases D:wc=1
 .rw[if_pos D]at H;obtain rfl:m=0:=by omega
  subst D;have B:=aa H;go_in;go_wp2_with fail;refine B.o.mono ?_;rintro e M⟨v,rfl,C⟩;go_wp2;go_ret;exact⟨_,rfl,C⟩
 .rw[if_neg D]at H;have B:=aa H;go_in;go_wp2_with fail;refine B.o.mono ?_;rintro e M⟨v,rfl,C⟩;go_wp2;go_ret;exact⟨_,rfl,C⟩
