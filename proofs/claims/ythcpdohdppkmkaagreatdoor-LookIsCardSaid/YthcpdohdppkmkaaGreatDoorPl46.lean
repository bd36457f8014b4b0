import Derived.Test.YthcpdohdppkmkaaGreatDoorPl44
import Derived.Test.YthcpdohdppkmkaaGreatDoorPl45
import Derived.Test.YthcpdohdppkmkaaGreatDoorRows
import Derived.ChangeSame
import Derived.ChangeVars
import Derived.RowKit
import Derived.LaidLaws
import Derived.LaidHandle
import Derived.Stop.Joined
import Derived.Lay
import Derived.LaidMore
import Derived.LaidSub
import Derived.LaidOnce
import Derived.Deep.Slices
import Derived.Carry
import Derived.SizedLaws
open Go.Proofs.Tryz
namespace Go.Proofs.YthcpdohdppkmkaaGreatDoor
open Go Go.RowKit
set_option maxRecDepth 100000
set_option maxHeartbeats 8000000
theorem j9i{a b:ByteArray}{ps:List (List Td)}{k f:Int}(hp:q4l a ps k f)(hf:f≠0){r:Bool}{g:Int}(h:v7m a b r g):r=false/\g=f:=by
 cases h with
 | badA hp' _=>exact⟨rfl,(q1e hp' hp).2.2⟩
 | badB hp'=>exact absurd (q1e hp hp').2.2 hf
 | ok hp'=>exact absurd (q1e hp hp').2.2 hf
theorem j9j{a b:ByteArray}{ps qs:List (List Td)}{k k' f:Int}(hp:q4l a ps k 0)(hq:q4l b qs k' f)(hf:f≠0){r:Bool}{g:Int}(h:v7m a b r g):r=false/\g=f:=by
 cases h with
 | badA hp' h0=>exact absurd (q1e hp' hp).2.2 h0
 | badB _ hq'=>exact⟨rfl,(q1e hq' hq).2.2⟩
 | ok _ hq'=>exact absurd (q1e hq hq').2.2 hf
theorem j9h{a b:ByteArray}{ps qs:List (List Td)}{k k':Int}(hp:q4l a ps k 0)(hq:q4l b qs k' 0){r r':Bool}{g:Int}(hr:r'=true↔ps=qs)(h:v7m a b r g):r=r'/\g=0:=by
 cases h with
 | badA hp' h0=>exact absurd (q1e hp' hp).2.2 h0
 | badB _ hq' h0=>exact absurd (q1e hq' hq).2.2 h0
 | ok hp' hq' hr'=>
  refine⟨?_,rfl⟩;rw[(q1e hp' hp).1,(q1e hq' hq).1,<-hr]at hr';cases r<;>cases r'<;>simp_all
theorem k6x{s:ByteArray}{wd:Int}(h:wd<10\/100<wd){w:World}{e:Ending}{w':World}(hk:k0a s wd w e w'):e=.returned (.tuple #[.int .i64 0,.int .i64 0,q1r 1])/\Below w w w':=by
 obtain⟨T,k,f,rfl,A,B⟩:=hk;obtain⟨rfl,rfl,rfl⟩:=z2z A (.range h);exact⟨by rw[if_neg (by decide)],B⟩
theorem y5i{s:ByteArray}{wd:Int}(h:¬(wd<10\/100<wd)){ps:List (List Td)}{k f:Int}(hp:q4l s ps k f)(hf:f≠0){w:World}{e:Ending}{w':World}(hk:k0a s wd w e w'):e=.returned (.tuple #[.int .i64 0,.int .i64 k,q1r f])/\Below w w w':=by
 obtain⟨T,k,f,rfl,A,B⟩:=hk;obtain⟨rfl,rfl,rfl⟩:=z2z A (.bad h hp hf);exact⟨by rw[if_neg hf],B⟩
theorem y1s{s:ByteArray}{wd:Int}(h:¬(wd<10\/100<wd)){ps:List (List Td)}(hp:q4l s ps 0 0)(hf:fmE ps≠0){w:World}{e:Ending}{w':World}(hk:k0a s wd w e w'):e=.returned (.tuple #[.int .i64 0,.int .i64 0,q1r (fmE ps)])/\Below w w w':=by
 obtain⟨T,k,f,rfl,A,B⟩:=hk;obtain⟨rfl,rfl,rfl⟩:=z2z A (.full h hp hf);exact⟨by rw[if_neg hf],B⟩
theorem y8x{s:ByteArray}{wd:Int}(h:¬(wd<10\/100<wd)){ps:List (List Td)}(hp:q4l s ps 0 0)(hf:fmE ps=0){w:World}{e:Ending}{w':World}(hk:k0a s wd w e w'):e=.returned (.tuple #[.int .i64 (fdL (btL s) (btL (wbS (q7t wd.toNat ps))) 0),.int .i64 0,q1r 0])/\Below w w w':=by
 obtain⟨T,k,f,rfl,A,B⟩:=hk;obtain⟨rfl,rfl,rfl⟩:=z2z A (.ok h hp hf);exact⟨by rw[if_pos rfl],B⟩
theorem k9t(hF:y8a)(Aq:PaC)(s:ByteArray)(wd:Int)(t:ByteArray)(w:World)(hg:Hnd w)(ht:z2t w):
  Calls prog 3 #[.string s,.int .i64 wd,.string t] w fun e w'=>e=.returned (.bool true)/\Below w w w':=by
 have Y:Hid (∀(W:World),Below w w W->Calls prog 13 #[.string s,.int .i64 wd] W fun e w'=>k0a s wd W e w'):=fun W h=>k4b hF s wd W (ht.W h)
 have Ag:Hid (∀(W:World),Below w w W->Calls prog 16 #[.string s,.string t] W fun e w'=>∃r f,e=.returned (.tuple #[.bool r,q1r f])/\v7m s t r f/\Below W W w'):=fun W h=>k9s s t W (ht.W h)
 have M:Hid (∀(n:Int)(W:World),Below w w W->Calls prog 14 #[q1r n,.int .i64 n] W fun e w'=>e=.returned (.bool true)/\Below W W w'):=fun n W h=>by
  have u:=v5v n n W (hg.W h);rw[beq_self_eq_true]at u;exact u
 have Ac:Hid PaC:=Aq;clear ht hF hg Aq;go_in;go_wp2_with fail;refine(Ac.o s w).mono ?_;rintro e B⟨I,k,f,A,c,rfl,hR,hQ,b1⟩;have a:Hid (q4l s I k f):=hR;have HQ:Hid (Prg B A I):=hQ;have O:Hid (Below w w B):=b1;clear hR hQ b1;by_cases hf:f=0
 ·subst hf;obtain⟨rfl,_,y,x⟩:=z0i a.o;have z:=(k7s a.o).2;have HL:Hid (I.length<=20):=y;have Ab:Hid (∀t∈I,t.length<=4611686018427387904):=fun t ht=>by have:=z t ht;omega
  have As:Hid (∀t∈I,q0c t=0):=x
  have HZ:Hid (s.size<=60000):=by
   show s.size<=60000;have h0:=(q7v (z6r a.o).1).1;rw[q0b]at h0;exact h0
  clear y z x;generalize Ar:I.length=np;have Al:Hid (I.length=np):=Ar;clear Ar;have Aa:∀(W:World),Below w w W->Below B B W->Calls prog 9 #[.string t] W fun e w'=>∃J k f A c,e=.returned (.tuple #[.slice A J.length c,.int .i64 k,.int .i64 f])/\q4l t J k f/\Prg w' A J/\Below w w w'/\Below B B w':=fun W h1 h2=>(Ac.o t W).mono fun e w'⟨J,k,f,A,c,h,hr,hq,hb⟩=>⟨J,k,f,A,c,h,hr,hq,q0e h1 Zl hb,h2.trans (hb.mono h2.size)⟩
  have Ad:Hid (∀(W:World),Below w w W->Below B B W->Calls prog 9 #[.string t] W fun e w'=>∃J k f A c,e=.returned (.tuple #[.slice A J.length c,.int .i64 k,.int .i64 f])/\q4l t J k f/\Prg w' A J/\Below w w w'/\Below B B w'):=Aa;clear Aa;rcases Classical.em (wd<10\/100<wd)with S|S
  case' inl=>
   have b:Hid (Calls prog 10 #[.int .i64 wd] B fun e w'=>e=.returned (.bool false)/\B=w'):=k7u S B;have E:Hid (wd<10\/100<wd):=S;clear S;go_wp2_with fail;refine b.o.mono ?_;rintro e w2⟨rfl,rfl⟩;go_wp2_with fail;refine(Y.o _ O.o).mono ?_;rintro e U o;obtain⟨rfl,N⟩:=k6x E.o o;have C:Hid (Below w w U):=q0e O.o Zl N;have G:Hid (Below B B U):=N;clear o N;go_wp2_with fail;refine(M.o 1 _ C.o).mono ?_;rintro e i⟨rfl,P⟩;have D:Hid (Below w w i):=q0e C.o Zl P;have H:Hid (Below B B i):=G.o.trans (P.mono G.o.size);clear P C G b E;go_wp2_with fail;refine(Ad.o _ D.o H.o).mono ?_;clear D H
  case' inr=>
   obtain⟨Q,rfl⟩:∃n:Nat,wd=(n:Int):=⟨wd.toNat,by omega⟩;have Ah:10<=Q:=by omega
   have Ai:Q<=100:=by omega
   have E:Hid (¬((Q:Int)<10\/100<(Q:Int))):=S;clear S;have b:Hid (Calls prog 10 #[.int .i64 (Q:Int)] B fun e w'=>e=.returned (.bool true)/\B=w'):=k2j Ah Ai B
   have Ak:Hid (Calls prog 11 #[.slice A np c,.int .i64 (Q:Int)] B fun e w'=>v1u I Q e/\Below B B w'):=by
    have u:=k4a As.o HL.o Q Ah Ai A c B HQ.o;rw[Al.o]at u;exact u
   clear Ah Ai;go_wp2_with fail;refine b.o.mono ?_;rintro e w2⟨rfl,rfl⟩;go_wp2_with fail;refine Ak.o.mono ?_;rintro e w2⟨h2,b2⟩;have V:Hid (Below w w w2):=q0e O.o Zl b2;have R:Hid (Below B B w2):=b2;clear b2 b Ak;rcases h2 with⟨hE,_⟩|hE|_
  case many=>
   go_wp2;go_ret;exact⟨rfl,V.o⟩
  case' full=>
   have HE:Hid (fmE I≠0):=hE;have Av:(fmE I==0)=false:=by simpa using hE
   have Z:Hid (∀{W:World}{e:Ending}{w':World},k0a s (Q:Int) W e w'->e=.returned (.tuple #[.int .i64 0,.int .i64 0,q1r (fmE I)])/\Below W W w'):=fun h=>y1s E.o a.o HE.o h
   generalize fmE I=g at *;go_wp2_with fail;refine(j9e _ _ (by have:=HZ.o;omega) (by decide) _).mono ?_;rintro e U⟨rfl,N⟩;have C:Hid (Below w w U):=q0e V.o Zl N;have G:Hid (Below B B U):=R.o.trans (N.mono R.o.size);clear N V R;go_wp2_with fail;refine(Y.o _ C.o).mono ?_;rintro e i h4;obtain⟨rfl,P⟩:=Z.o h4;have D:Hid (Below w w i):=q0e C.o Zl P;have H:Hid (Below B B i):=G.o.trans (P.mono G.o.size);clear h4 P C G Z;go_wp2_with fail;refine(M.o g _ D.o).mono ?_;rintro e w5⟨rfl,d⟩;have K:Hid (Below w w w5):=q0e D.o Zl d;have X:Hid (Below B B w5):=H.o.trans (d.mono H.o.size);clear d D H;go_wp2_with fail;refine(Ad.o _ K.o X.o).mono ?_;clear K X hE Av HE E
  case' ok=>
   have Z:Hid (∀{W:World}{e:Ending}{w':World},k0a s (Q:Int) W e w'->e=.returned (.tuple #[.int .i64 (fdL (btL s) (btL (wbS (q7t Q I))) 0),.int .i64 0,q1r 0])/\Below W W w'):=fun h=>y8x E.o a.o hE h
   have Ao:Hid ((wbS (q7t Q I)).size<=100000000):=(j4m (.ok E.o a.o hE)).2.1;clear hE;generalize wbS (q7t Q I)=T at *;go_wp2_with fail;refine(j9e _ _ (by have:=HZ.o;omega) Ao.o _).mono ?_;rintro e U⟨rfl,N⟩;have C:Hid (Below w w U):=q0e V.o Zl N;have G:Hid (Below B B U):=R.o.trans (N.mono R.o.size);clear N V R;generalize fdL (btL s) (btL T) 0=v at *;go_wp2_with fail;refine(Y.o _ C.o).mono ?_;rintro e i h4;obtain⟨rfl,P⟩:=Z.o h4;have D:Hid (Below w w i):=q0e C.o Zl P;have H:Hid (Below B B i):=G.o.trans (P.mono G.o.size);clear h4 P C G Z;go_wp2_with fail;refine(M.o 0 _ D.o).mono ?_;rintro e w5⟨rfl,d⟩;have K:Hid (Below w w w5):=q0e D.o Zl d;have X:Hid (Below B B w5):=H.o.trans (d.mono H.o.size);clear d D H;go_wp2_with fail;refine(Ad.o _ K.o X.o).mono ?_;clear K X Ao E
  all_goals
   rintro e w6⟨J,k6,f6,A6,c6,rfl,h6,q6,b6,Ap⟩;have j:Hid (Below w w w6):=b6;have Am:Hid (q4l t J k6 f6):=h6;have Af:Hid (Prg w6 A6 J):=q6;have Ae:Hid (Prg w6 A I):=HQ.o.W Ap;clear h6 q6 b6 Ap;by_cases l:f6=0
   ·subst l
    obtain⟨r,hr⟩:∃r:Bool,r=true↔I=J:=by
     by_cases h:I=J
     ·exact⟨true,by simp[h]⟩
     ·exact⟨false,by simp[h]⟩
    have Au:Hid (r=true↔I=J):=hr
    have An:Hid (Calls prog 15 #[.slice A np c,.slice A6 J.length c6] w6 fun e w'=>e=.returned (.bool r)/\∃q,w'=w6.drewN q):=by
     have u:=j0v I J A A6 c c6 (by have:=HL.o;omega) Ab.o r hr w6 Ae.o Af.o;rw[Al.o]at u;exact u
    clear hr Ab HL HQ Ae Af;generalize J.length=nq at An⊢;have Az:(r==r)=true:=by simp
    go_wp2_with fail;refine An.o.mono ?_;rintro e w7⟨rfl,q,rfl⟩;go_wp2_with fail;refine(Ag.o _ (q0d j.o q)).mono ?_;rintro e w8⟨r8,f8,rfl,p,m⟩;obtain⟨rfl,rfl⟩:=j9h a.o Am.o Au.o p;have L:Hid (Below w w w8):=q0e (q0d j.o q) Zl m;clear m p;go_wp2_with fail;refine(M.o 0 _ L.o).mono ?_;rintro e w9⟨rfl,b9⟩;go_wp2;go_ret;exact⟨by simp,q0e L.o Zl b9⟩
   ·have At:Hid (f6≠0):=l;have Aw:(f6==0)=false:=by simpa using l
    clear l Ab HL HQ Ae Af;generalize J.length=nq;go_wp2_with fail;refine(Ag.o _ j.o).mono ?_;rintro e w8⟨r8,f8,rfl,p,m⟩;obtain⟨rfl,rfl⟩:=j9j a.o Am.o At.o p;have L:Hid (Below w w w8):=q0e j.o Zl m;clear m p;go_wp2_with fail;refine(M.o f8 _ L.o).mono ?_;rintro e w9⟨rfl,b9⟩;go_wp2;go_ret;exact⟨by simp,q0e L.o Zl b9⟩
 ·have Aj:Hid (f≠0):=hf;have Ax:(f==0)=false:=by simpa using hf
  clear hf HQ;generalize I.length=np;rcases Classical.em (wd<10\/100<wd)with S|S
  case' inl=>
   have b:Hid (Calls prog 10 #[.int .i64 wd] B fun e w'=>e=.returned (.bool false)/\B=w'):=k7u S B;have E:Hid (wd<10\/100<wd):=S;clear S;go_wp2_with fail;refine b.o.mono ?_;rintro e w2⟨rfl,rfl⟩;go_wp2_with fail;refine(Y.o _ O.o).mono ?_;rintro e U o;obtain⟨rfl,N⟩:=k6x E.o o;have C:Hid (Below w w U):=q0e O.o Zl N;clear o N;go_wp2_with fail;refine(M.o 1 _ C.o).mono ?_
  case' inr=>
   have b:Hid (Calls prog 10 #[.int .i64 wd] B fun e w'=>e=.returned (.bool true)/\B=w'):=by
    obtain⟨Q,rfl⟩:∃n:Nat,wd=(n:Int):=⟨wd.toNat,by omega⟩;exact k2j (by omega) (by omega) B
   have E:Hid (¬(wd<10\/100<wd)):=S;clear S;have Ay:(k==k)=true:=by simp
   go_wp2_with fail;refine b.o.mono ?_;rintro e w2⟨rfl,rfl⟩;go_wp2_with fail;refine(Y.o _ O.o).mono ?_;rintro e U o;obtain⟨rfl,N⟩:=y5i E.o a.o Aj.o o;have C:Hid (Below w w U):=q0e O.o Zl N;clear o N;go_wp2_with fail;refine(M.o f _ C.o).mono ?_
  all_goals
   rintro e i⟨rfl,P⟩;have D:Hid (Below w w i):=q0e C.o Zl P;clear P C b E;go_wp2_with fail;refine(Ac.o t _).mono ?_;rintro e w5⟨J,k5,f5,A5,c5,rfl,h5,q5,d⟩;have K:Hid (Below w w w5):=q0e D.o Zl d;clear h5 q5 d D;generalize J.length=nq;go_wp2_with fail;refine(Ag.o _ K.o).mono ?_;rintro e w8⟨r8,f8,rfl,p,m⟩;obtain⟨rfl,rfl⟩:=j9i a.o Aj.o p;have L:Hid (Below w w w8):=q0e K.o Zl m;clear m p;go_wp2_with fail;refine(M.o f8 _ L.o).mono ?_;rintro e w9⟨rfl,b9⟩;go_wp2;go_ret;exact⟨by simp,q0e L.o Zl b9⟩
end Go.Proofs.YthcpdohdppkmkaaGreatDoor
namespace Go.Proofs.YthcpdohdppkmkaaGreatDoor
open Go.ChangeShapes Go.WideShapes Go.RowKit
theorem Tryz.own:ownKnob prog.godebug=none:=by kernel_rfl
theorem Tryz.et : prog.globalNamed "errors.errorType" = some 0 := by kernel_rfl
theorem Tryz.rt : (prog.cutTypes.find? (·.1 == "internal/reflectlite.rtype")).map (·.2) = some 268 := by kernel_rfl
theorem Tryz.oneRow:((List.range 403).filter fun t=>prog.rowNamed t [101,114,114,111,114])=[31]:=by kernel_rfl
theorem Tryz.size:prog.types.size=403:=by kernel_rfl
abbrev y1l : List (String × DataW Unit) := [("errors.errorType", Rows.laid_errors_errorType)]
theorem z5m{W:World}(h:laidMetH prog y1l W):Hnd W:=by
 have J:laidMet prog [] W/\handlesMet prog y1l W:=h;obtain⟨A,u,L,D,E,G,H,B⟩:=J.2 _ (List.mem_singleton.2 rfl);have I:A=[101,114,114,111,114]:=(Option.some.inj D).symm;subst I;obtain rfl:=Option.some.inj (Tryz.rt.symm.trans E);have C:L∈(List.range 403).filter fun t=>prog.rowNamed t [101,114,114,111,114]:=List.mem_filter.2 ⟨List.mem_range.2 (by rw[<-Tryz.size];exact G),H⟩
 rw[Tryz.oneRow]at C;obtain rfl:=List.mem_singleton.1 C;have K:typeHandle prog 31=.pointer (some ⟨12,31,none⟩):=by kernel_rfl
 rw[K]at B
 have:=World.var?_cell Tryz.et B 0
 simpa[Hnd]using this
def k0y(P:Program)(os:Os):World:=
 let w0:=World.holding P os ⟨#[],#[],[]⟩
 {w0 with heap:=w0.heap.modify 0 fun
   | .cells _ t frozen=>.cells #[.iface 268 (.agg #[.pointer (some ⟨12,31,none⟩)])] t frozen
   | o=>o}
set_option maxRecDepth 100000
def v6g : List (String × DataW Unit) := [("math/bits.deBruijn32tab", Rows.laid_math_bits_deBruijn32tab), ("math/bits.deBruijn64tab", Rows.laid_math_bits_deBruijn64tab), ("internal/strconv.uint64pow10", Rows.laid_internal_strconv_uint64pow10), ("unicode/utf8.acceptRanges", Rows.laid_unicode_utf8_acceptRanges), ("strconv.ErrRange", Rows.laid_strconv_ErrRange), ("strconv.ErrSyntax", Rows.laid_strconv_ErrSyntax), ("unicode.White_Space", Rows.laid_unicode_White_Space), ("strings.asciiSpace", Rows.laid_strings_asciiSpace), ("unicode/utf8.first", Rows.laid_unicode_utf8_first)]
abbrev y3z : List (String × DataW Unit) := [("math/bits.deBruijn32tab", Rows.laid_math_bits_deBruijn32tab), ("math/bits.deBruijn64tab", Rows.laid_math_bits_deBruijn64tab), ("internal/strconv.uint64pow10", Rows.laid_internal_strconv_uint64pow10), ("unicode/utf8.acceptRanges", Rows.laid_unicode_utf8_acceptRanges), ("errors.errorType", Rows.laid_errors_errorType), ("strconv.ErrRange", Rows.laid_strconv_ErrRange), ("strconv.ErrSyntax", Rows.laid_strconv_ErrSyntax), ("unicode.White_Space", Rows.laid_unicode_White_Space), ("strings.asciiSpace", Rows.laid_strings_asciiSpace), ("unicode/utf8.first", Rows.laid_unicode_utf8_first)]
def z0r(P:Program)(os:Os):World:=(k0y P os).layVars P v6g
theorem v6h(os:Os)(args:Array Value):laidMet prog v6g ((z0r prog os).forCall (fun _ _=>0) ⟨#[],args,[]⟩).memory:=by
 have A:(v6g.filter fun x=>(v6g.map (·.1)).contains x.1)=v6g:=List.filter_eq_self.2 fun x hx=>List.contains_iff_mem.2 (List.mem_map.2 ⟨x,hx,rfl⟩)
 have B:(v6g.filter fun x=>!(v6g.map (·.1)).contains x.1)=[]:=List.filter_eq_nil_iff.2 fun x hx=>by rw[List.contains_iff_mem.2 (List.mem_map.2 ⟨x,hx,rfl⟩)];simp
 have h:laidMet prog v6g (z0r prog os):=laidMet_layVars (w0:=k0y prog os) (v6g.map (·.1)) [] (by rw[A];rfl) (by rw[A];kernel_rfl) (by rw[A];kernel_rfl) (by rw[B];exact LaidIn.none);exact h.of_heap (by simp[World.memory,World.forCall,Input.heap])
theorem j9v(os:Os)(args:Array Value):((z0r prog os).forCall (fun _ _=>0) ⟨#[],args,[]⟩).Shaped prog:=World.shaped_of_ZipB (by kernel_rfl) (by kernel_rfl)
theorem y2v(os:Os)(args:Array Value):laidMetH prog y3z ((z0r prog os).forCall (fun _ _=>0) ⟨#[],args,[]⟩).memory:=
 laidMetH_of_parts (v6h os args) (by kernel_rfl)
theorem j0w{W:World}(h:laidMetH prog y3z W):Hnd W:=by
 have h1 := h.filter (fun x => x.1 == "errors.errorType")
 have e : (y3z.filter fun x => x.1 == "errors.errorType") = y1l := by rfl
 rw[e]at h1;exact z5m h1
theorem v6i{W:World}(h:laidMetH prog y3z W):z2t W:=by
 have h0:=(laidMetH_iff.1 h).1;refine⟨?_,?_⟩
 ·have h1 := h0.filter (fun x => x.1 == "internal/strconv.uint64pow10")
  have e : ((y3z.filter fun x => x.2.handleName?.isNone).filter fun x => x.1 == "internal/strconv.uint64pow10") = [("internal/strconv.uint64pow10", Lib.tabData .u64 Lib.pow10Tab)] := by kernel_rfl
  rw[e]at h1;exact Lib.tabIs_of_head (g:=6) (t:=354) (e:=303) (n:=20) (by kernel_rfl) (by kernel_rfl) (by kernel_rfl) (by kernel_rfl) (by kernel_rfl) (by kernel_rfl) h1
 ·have h1 := h0.filter (fun x => x.1 == "strings.asciiSpace")
  have e : ((y3z.filter fun x => x.2.handleName?.isNone).filter fun x => x.1 == "strings.asciiSpace") = [("strings.asciiSpace", Lib.tabData .u8 Lib.asciiSpaceTab)] := by kernel_rfl
  rw[e]at h1;exact Lib.tabIs_of_head (g:=1) (t:=287) (e:=5) (n:=256) (by kernel_rfl) (by kernel_rfl) (by kernel_rfl) (by kernel_rfl) (by kernel_rfl) (by kernel_rfl) h1
end Go.Proofs.YthcpdohdppkmkaaGreatDoor
namespace Go.Proofs.YthcpdohdppkmkaaGreatDoor
open Go Go.RowKit
theorem j2m{t:List Td}(h:q8z t=0)(n:Nat)(hn:n<=100)(A:Option Addr)(c:Nat)(w:World)(hc:(q8l t).length<=c)(hN:q1u w A (q8l t)):
  Calls prog 24 #[.slice A (q8l t).length c,.int .i64 (n:Int)] w fun e w'=>(∃s wa wl wc,∃q1 q2:Int,e=.returned (.tuple #[.string (wbS s),.slice wa wl wc,.agg #[.int .i64 q1,.int .i64 q2],.nilIface])/\dcL n t=s++[10]/\s.length<=2000000)/\Below w w w':=by
 obtain⟨I,J,E,L⟩:=j5g h;obtain⟨D,G⟩:=j2d (wd:=n) (z5z I J).w E (by rw[E];exact L) hn;have K:(q0s t).best n=some (bs n 0 [(0,q0s t)]):=by rw[q9t,q3l]
 obtain⟨_,C,_⟩:=q6b K
 have H:bT (q8l t) (n:Int)=wbS ((q0s t).txt (bs n 0 [(0,q0s t)]).2):=by
  rw[bT,if_pos D,G,v4d h,C];rfl
 refine(j2f (q8l t) (n:Int) A c hc w hN).mono ?_;rintro e w'⟨⟨wa,wc,rfl,_⟩,B⟩;refine⟨⟨_,wa,_,wc,_,_,by rw[H,D,q0z],rfl,?_⟩,B⟩;exact j5f h C
theorem j4a{tx:ByteArray}(h:q2x tx=0)(n:Nat)(h1:10<=n)(h2:n<=100)(A:Option Addr)(c:Nat)(w:World)(hc:(q0f (btL tx)).length<=c)(hW:Wds w A ((q0f (btL tx)).map wbS)):
  Calls prog 102 #[.slice A (q0f (btL tx)).length c,.int .i64 ((n:Int)-2)] w fun e w'=>(∃L c,e=.returned (.tuple #[.slice L (q1t (n-2) ((q0f (btL tx)).map wbS)).length c,.nilIface])/\q1x w (.slice L (q1t (n-2) ((q0f (btL tx)).map wbS)).length c) (q1t (n-2) ((q0f (btL tx)).map wbS)) w')/\Below w w w':=by
 have e:((n:Int)-2)=((n-2:Nat):Int):=by omega
 have C:q6r ((q0f (btL tx)).map wbS) ((n-2:Nat):Int)=0:=by
  have D:q1c ((q0f (btL tx)).map wbS)=0:=h;rw[q6r,if_neg (by simp[D]),if_neg (by omega)]
 have B:=v7d ((q0f (btL tx)).map wbS) A c (n-2) w (by rw[List.length_map];exact hc) hW C;rw[List.length_map]at B;rw[e];exact B
theorem j8e:∀(ls:List ByteArray),ls≠[]->[35,32]++Lib.join (ls.map fun x=>x.data.toList) [10,35,32]++[10]=ls.flatMap ntF
 | [],h=>absurd rfl h
 | [l],_=>by simp[Lib.join_one,ntF,btL]
 | l::u::r,_=>by
  have ih:=j8e (u::r) (by simp);rw[List.flatMap_cons,<-ih];simp[Lib.join_cons,Lib.joinTail,ntF,btL]
theorem k7h{tx:ByteArray}(n:Nat)(h0:q0f (btL tx)≠[]):ntL n tx=[35,32]++Lib.join ((q1t (n-2) ((q0f (btL tx)).map wbS)).map fun x=>x.data.toList) [10,35,32]++[10]:=by
 have A:q1t (n-2) ((q0f (btL tx)).map wbS)≠[]:=by
  rw[q3v _ (by simpa using h0)];simp
 rw[j8e _ A,ntL,if_neg h0];rfl
theorem v6u{x:Td}(h:q0q x=0):x.tx.size<=1300:=by
 unfold q0q at h
 split at h
 ·cases h
 ·split at h
  ·cases h
  ·split at h
   ·cases h
   ·rename_i h3
    split at h
    ·exact v4v h
    ·rename_i h4
     split at h
     ·cases h
     ·rename_i h5;cases B:q2u x.op with
      | false=>
       have:¬0<x.tx.size:=fun h6=>h3 (.inr ⟨B,h6⟩)
       omega
      | true=>
       cases A:q0p x.tx with
       | false=>exact absurd ⟨B,A⟩ h5
       | true=>
        have:=q5p A
        rw[q0b]at this;omega
theorem j9b{ps:List (List Td)}(h:(q0r ps).2=0):∀t∈ps,∀x∈t,x.tx.size<=1300:=by
 intro t B x C;have A:=z8x ps 0 (z9c h).2 t B;exact v6u ((q4b A).2.1 x C)
end Go.Proofs.YthcpdohdppkmkaaGreatDoor
