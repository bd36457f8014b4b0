import Derived.Test.YtfdppahhbpfnoaaGreatDoorPb21
import Derived.Lay
import Derived.LaidMore
import Derived.LaidSub
import Derived.LaidOnce
import Derived.Laws.Cover3
import Derived.Test.YtfdppahhbpfnoaaGreatDoorPb23
open Go.Proofs.Tryz
namespace Go.Proofs.YtfdppahhbpfnoaaGreatDoor
open Go Go.RowKit
set_option maxRecDepth 100000
set_option maxHeartbeats 4000000
def q2y(wd:Nat)(ws:List ByteArray):List ByteArray:=k2f ws (z1f wd ws)
theorem q5m(wd:Nat){ws:List ByteArray}(h:ws≠[]):q2y wd ws=jnS (ws.take (agF wd ws))::q2y wd (ws.drop (agF wd ws)):=by
 rw[q2y,q5k wd h];rfl
theorem q5n(wd:Nat):q2y wd []=[]:=by rw[q2y,q6a];rfl
theorem q9t(wd:Nat):∀(n:Nat)(ws:List ByteArray),ws.length<=n->(q2y wd ws).length<=ws.length
 | 0,ws,h=>by
  have:ws=[]:=List.eq_nil_of_length_eq_zero (by omega)
  subst this;rw[q5n];simp
 | n+1,ws,h=>by
  by_cases h0:ws=[]
  ·subst h0;rw[q5n];simp
  ·have hp:=q8u wd h0;have ih:=q9t wd n (ws.drop (agF wd ws)) (by simp only[List.length_drop];omega);rw[q5m wd h0,List.length_cons];simp only[List.length_drop]at ih;omega
theorem j1n(s:ByteArray)(w:World)(h:s.size<=281474976710656):
  Calls prog 78 #[.string s] w fun e w'=>e=.returned (.string s)/\Below w w w':=by
 go_in;go_wp2_with fail;refine(clone_sh s _ h).mono ?_;rintro e B⟨rfl,A⟩;go_wp2;go_ret;exact⟨rfl,A⟩
theorem v6t(n:Nat)(ws:List ByteArray)(hn:ws.length=n)(b o c:Nat)(w:World)(hc:n<=c)(hb:b<w.heap.size)(hF:Few ws)(hW:Wds w (some ⟨b,o,none⟩) ws):
  Calls prog 106 #[.slice (some ⟨b,o,none⟩) n c] w fun e w'=>e=.returned (.string (jnS ws))/\Below w w w':=by
 subst hn
 have C:Hid (∀W:World,Below w w W->Calls prog 70 #[.slice (some ⟨b,o,none⟩) ws.length c,.string ⟨#[32]⟩] W fun e w'=>e=.returned (.string (jnS ws))/\Below W W w'):=fun W hB=>by
  have K:=hF.ln;have H:=hF.1;refine join_sh b o c ws ⟨#[32]⟩ W ?_ (Nat.lt_of_lt_of_le hb hB.size) (by omega) hc ?_
  ·intro j x I;obtain⟨G,rfl⟩:=List.getElem?_eq_some_iff.1 I;obtain⟨J,L,e,_,E⟩:=Wds.W hW hB j G;simp only[Option.some.injEq,Addr.mk.injEq,and_true]at e;obtain⟨rfl,rfl⟩:=e;exact E
  ·have:=k5s ws
   show(jnL ws).length<=_
   omega
 have D:(jnS ws).size<=281474976710656:=by
  rw[k8a]
  have:=hF.ln
  omega
 clear hW hF;generalize jnS ws=s at C D;go_in;go_wp2_with fail;refine(C.o _ Zb).mono ?_;rintro e M⟨rfl,A⟩;go_wp2_with fail;refine(j1n s _ D).mono ?_;rintro e N⟨rfl,B⟩;go_wp2;go_ret;exact⟨rfl,q0d A Zl B⟩
structure j2g(wd:Nat)(ws:List ByteArray)(ks:List Nat)(w w1:World)(k:Nat)(vs done:List ByteArray)(A L:Option Addr)(c lc:Nat)(wr:World):Prop where
 b:Below w1 w1 wr
 le:k<=ks.length
 vc:vs.length<=c
 wo:Wds w A vs
 fe:Few vs
 cu:ks.drop k=z1f wd vs
 ro:q2r w1 (.slice L done.length lc) done wr
 li:q2y wd ws=done++q2y wd vs
 dl:done.length+vs.length<=60
theorem j2g.step{wd:Nat}{ws:List ByteArray}{ks:List Nat}{w w1:World}{k:Nat}{vs A:List ByteArray}{b o:Nat}{L:Option Addr}{c lc:Nat}{wr:World}(h:j2g wd ws ks w w1 k vs A (some ⟨b,o,none⟩) L c lc wr)(hk:k<ks.length):
  ∃q,ks[k]=q/\1<=q/\q<=vs.length/\∃A',(∀W:World,(Instr.slice 58 (.slice (some ⟨b,o,none⟩) vs.length c) (some (.int .i64 (q:Int))) none none).run prog W=.ok (.slice A' (vs.drop q).length (c-q)) W)/\
   ∀g cap2 w2,Below w1 w1 w2->q2r w1 (.slice (some ⟨g,0,none⟩) (A++[jnS (vs.take q)]).length cap2) (A++[jnS (vs.take q)]) w2->j2g wd ws ks w w1 (k+1) (vs.drop q) (A++[jnS (vs.take q)]) A' (some ⟨g,0,none⟩) (c-q) cap2 w2:=by
 have B:vs≠[]:=fun e=>by
  have C:=h.cu;rw[e,q6a]at C
  have:=congrArg List.length C
  rw[List.length_drop,List.length_nil]at this;omega
 have C:=h.cu;rw[List.drop_eq_getElem_cons hk,q5k wd B,List.cons.injEq]at C;obtain⟨H,D⟩:=q8u wd B;obtain⟨A',E,G⟩:=y3t h.wo D h.vc;refine⟨agF wd vs,C.1,H,D,A',E,fun g cap2 w2 hb hs=>?_⟩;exact{b:=hb,le:=hk,vc:=by have:=h.vc;rw[List.length_drop];omega,wo:=G,fe:=h.fe.drop _,cu:=C.2,ro:=hs,li:=by rw[h.li,q5m wd B,List.append_assoc];rfl,dl:=by have:=h.dl;rw[List.length_append,List.length_drop];simp;omega}
theorem v6s(ws:List ByteArray)(a:Option Addr)(cap wd:Nat)(w:World)(hc:ws.length<=cap)(hW:Wds w a ws)(h0:q6b ws wd=0):
  Calls prog 69 #[.slice a ws.length cap,.int .i64 wd] w fun e w'=>(∃L c,e=.returned (.tuple #[.slice L (q2y wd ws).length c,.nilIface])/\q2r w (.slice L (q2y wd ws).length c) (q2y wd ws) w')/\Below w w w':=by
 obtain⟨y,n,Ak,Au,Al⟩:=j0k h0;obtain rfl:wd=n:=by omega
 have H0:Hid (q6b ws wd=0):=h0;have HF:Hid (Few ws):=v7o y;have hl:=HF.o.1;have HW:Hid (Wds w a ws):=hW;clear h0 y Ak hW;go_in;go_wp2_with fail;refine(v1g ws a cap wd _ HW.o).mono ?_;rintro e V⟨rfl,rfl⟩;rw[H0.o,q0n];go_wp2_with fail;refine(k1y ws a cap wd _ hc HF.o Al HW.o).mono ?_;rintro e M⟨⟨K,kc,rfl,hO⟩,O⟩;generalize S:z1f wd ws=C at hO;have HK:Hid (z3d w.heap.size (.slice K C.length kc) C M):=hO;have Ad:Hid (z1f wd ws=C):=S;have d:Hid (Below w w M):=O
 have As:C.length<=60:=by
  have:=q9t wd _ ws Zl
  have e:∀(C:List Nat)(ws:List ByteArray),(k2f ws C).length=C.length:=by
   intro C
   induction C with
   | nil=>intro ws;rfl
   | cons k r ih=>intro ws;simp[k2f,ih]
  rw[q2y,e,S]at this;omega
 have U:=O.size;clear hO S O;go_wp2
 go_loopw [0,7,20] (fun l x i wr=>∃(k:Nat)(D B:List ByteArray)(A L:Option Addr)(c Z:Nat),l=.slice A D.length c/\x=.slice L B.length Z/\i=.int .i64 (k:Int)/\j2g wd ws C w M k D B A L c Z wr) (fun _ _ i _=>C.length-(intOf i).toNat)
 case atStart=>exact⟨0,ws,[],a,none,cap,0,rfl,rfl,rfl,{b:=Below.refl _ _,le:=Nat.zero_le _,vc:=hc,wo:=HW.o,fe:=HF.o,cu:=Ad.o.symm,ro:=World.ownsRow_nil _ _ _ _,li:=rfl,dl:=by simpa using hl}⟩
 case round=>
  obtain⟨k,D,B,A,L,c,Z,rfl,rfl,rfl,Y⟩:=hrel;have G:Hid (j2g wd ws C w M k D B A L c Z wr):=Y;have At:=Y.le;have Ay:=Y.vc;have Ar:=Y.dl;have Am:=Y.b.size;clear Y;by_cases z:k<C.length
  ·have Aj:(k:Int)<(C.length:Int):=by omega
   obtain⟨g,rfl,hg,c0⟩:=j1b HK.o k z;have c1:wr.cell? ⟨g,k,none⟩=some (.int .i64 ((C[k]:Nat):Int)):=(G.o.b.cell (p:=⟨g,k,none⟩) hg).trans c0;clear c0
   have An:0<D.length:=by
    rcases Nat.eq_zero_or_pos D.length with h|h
    ·have:D=[]:=List.eq_nil_of_length_eq_zero h
     have X:=G.o.cu;rw[this,q6a]at X
     have:=congrArg List.length X
     rw[List.length_drop,List.length_nil]at this;omega
    ·exact h
   obtain⟨b0,o0,ea,Af⟩:=G.o.wo.some An;subst ea;obtain⟨q,hq,Av,Aw,A',hs,I⟩:=G.o.step z;rw[hq]at c1;have f:=hid I;have Ag:=y3s (some ⟨b0,o0,none⟩) D.length c q (by omega);have Q:Below w w wr:=d.o.trans (G.o.b.mono U)
   have HL:Hid (Calls prog 106 #[.slice (some ⟨b0,o0,none⟩) q c] wr fun e w'=>e=.returned (.string (jnS (D.take q)))/\Below wr wr w'):=
    v6t q (D.take q) (by rw[List.length_take];omega) b0 o0 c wr (by omega) (Nat.lt_of_lt_of_le Af Q.size) (G.o.fe.take q) (Wds.W (G.o.wo.take q) Q)
   generalize Ai:jnS (D.take q)=s at HL f;generalize N:(D.drop q).length=dl at hs;have Ac:Hid ((D.drop q).length=dl):=N;clear hq I Ai N Q;go_wp2_with fail;refine HL.o.mono ?_;rintro e V⟨rfl,P⟩;have m:Hid (q2r M (.slice L B.length Z) B V):=q2s G.o.ro P;have R:Below M M V:=G.o.b.trans (P.mono Am);have Ab:Hid (Below M M V):=R;have Ax:=R.size;clear R P;obtain⟨i0,Ah,Ao,Ap,Aq⟩:=info_parts z4p;go_wp2_with(at_builtin;refine wpList_append_lies _ rfl _ _ 58 rfl M.heap.size 9 i0 _ 1 16 Tryz.underlying58 Ah Ao Ap Aq rfl (by decide) _ _ _ rfl (World.ownsRow.alloc m.o _) ⟨V,0,none⟩ 1 1 [.string s] rfl rfl (cell_one_new V _ _) (by intro u hu;simp at hu;subst hu;rfl) (by decide) (by unfold maxLen;omega) (by omega) (by simp;omega) (V.heap.size+1) (by simp) ?_);intro g2 H w3 J E t Aa;have v:=(Ab.o.alloc (by omega) (.cells #[.string s] 9)).grown E (by simp;omega) (fun j hj=>(World.ownsRow.lt m.o j hj).1)
   have o:q2r M (.slice (some ⟨g2,0,none⟩) (B++[s]).length H) (B++[s]) w3:=by
    show w3.ownsRow _ _ _ _ _ _;rw[q2h,List.length_append];exact J
   have Ae:=hid (f.o g2 H w3 v o);clear J E v o t Aa;go_wp2
   go_roundw
   case rel=>exact⟨k+1,D.drop q,B++[s],A',some ⟨g2,0,none⟩,c-q,H,by rw[Ac.o],by rw[List.length_append];rfl,by go_num,Ae.o⟩
   case measure=>simp[intOf];omega
  ·have Aj:¬(k:Int)<(C.length:Int):=by omega
   have HE:Hid (q2y wd ws=B):=by
    show q2y wd ws=B;have X:=G.o.cu;rw[List.drop_eq_nil_of_le (by omega)]at X
    have h2:D=[]:=by
     by_cases h:D=[]
     ·exact h
     ·rw[q5k wd h]at X;cases X
    rw[G.o.li,h2,q5n,List.append_nil]
   go_wp2;go_ret2;rw[HE.o];exact⟨⟨L,Z,rfl,Joins.ownsRow_le G.o.ro U⟩,d.o.trans (G.o.b.mono U)⟩
end Go.Proofs.YtfdppahhbpfnoaaGreatDoor
namespace Go.Proofs.YtfdppahhbpfnoaaGreatDoor
open Go.ChangeShapes Go.WideShapes Go.RowKit
set_option maxRecDepth 100000
def v5y : List (String × DataW Unit) := [("math/bits.deBruijn32tab", Rows.laid_math_bits_deBruijn32tab), ("math/bits.deBruijn64tab", Rows.laid_math_bits_deBruijn64tab), ("internal/strconv.uint64pow10", Rows.laid_internal_strconv_uint64pow10), ("unicode/utf8.acceptRanges", Rows.laid_unicode_utf8_acceptRanges), ("strconv.ErrRange", Rows.laid_strconv_ErrRange), ("strconv.ErrSyntax", Rows.laid_strconv_ErrSyntax), ("unicode.White_Space", Rows.laid_unicode_White_Space), ("strings.asciiSpace", Rows.laid_strings_asciiSpace), ("unicode/utf8.first", Rows.laid_unicode_utf8_first)]
abbrev g1r : List (String × DataW Unit) := [("math/bits.deBruijn32tab", Rows.laid_math_bits_deBruijn32tab), ("math/bits.deBruijn64tab", Rows.laid_math_bits_deBruijn64tab), ("internal/strconv.uint64pow10", Rows.laid_internal_strconv_uint64pow10), ("unicode/utf8.acceptRanges", Rows.laid_unicode_utf8_acceptRanges), ("errors.errorType", Rows.laid_errors_errorType), ("strconv.ErrRange", Rows.laid_strconv_ErrRange), ("strconv.ErrSyntax", Rows.laid_strconv_ErrSyntax), ("unicode.White_Space", Rows.laid_unicode_White_Space), ("strings.asciiSpace", Rows.laid_strings_asciiSpace), ("unicode/utf8.first", Rows.laid_unicode_utf8_first)]
def q3n(P:Program)(os:Os):World:=(k1w P os).layVars P v5y
theorem v5z(os:Os)(args:Array Value):laidMet prog v5y ((q3n prog os).forCall (fun _ _=>0) ⟨#[],args,[]⟩).memory:=by
 have A:(v5y.filter fun x=>(v5y.map (·.1)).contains x.1)=v5y:=List.filter_eq_self.2 fun x hx=>List.contains_iff_mem.2 (List.mem_map.2 ⟨x,hx,rfl⟩)
 have B:(v5y.filter fun x=>!(v5y.map (·.1)).contains x.1)=[]:=List.filter_eq_nil_iff.2 fun x hx=>by rw[List.contains_iff_mem.2 (List.mem_map.2 ⟨x,hx,rfl⟩)];simp
 have h:laidMet prog v5y (q3n prog os):=laidMet_layVars (w0:=k1w prog os) (v5y.map (·.1)) [] (by rw[A];rfl) (by rw[A];kernel_rfl) (by rw[A];kernel_rfl) (by rw[B];exact LaidIn.none);exact h.of_heap (by simp[World.memory,World.forCall,Input.heap])
theorem k3e(os:Os)(args:Array Value):((q3n prog os).forCall (fun _ _=>0) ⟨#[],args,[]⟩).Shaped prog:=World.shaped_of_ZipB (by kernel_rfl) (by kernel_rfl)
theorem y3v(os:Os)(args:Array Value):laidMetH prog g1r ((q3n prog os).forCall (fun _ _=>0) ⟨#[],args,[]⟩).memory:=
 laidMetH_of_parts (v5z os args) (by kernel_rfl)
end Go.Proofs.YtfdppahhbpfnoaaGreatDoor
namespace Go.Proofs.YtfdppahhbpfnoaaGreatDoor
open Go Go.RowKit
structure v7a(wd:Nat)(ws:List ByteArray)(bL k:Nat)(w:World):Prop where
 rl:k0j w bL (ws.length+1)
 cl:∀j,k<=j->j<=ws.length->w.cell? ⟨bL,j,none⟩=some (.int .i64 ((best wd (ws.drop j):Nat):Int))
theorem v7a.kept{wd:Nat}{ws:List ByteArray}{bL k:Nat}{w w':World}(h:v7a wd ws bL k w)(h1:w'.heap[bL]?=w.heap[bL]?):v7a wd ws bL k w' where
 rl:=h.rl.kept h1
 cl:=fun j a b=>(World.cell?_of_block (w:=w) (a:=⟨bL,j,none⟩) h1).trans (h.cl j a b)
theorem v7a.made(wd:Nat)(ws:List ByteArray)(w:World):v7a wd ws w.heap.size ws.length (w.alloc (.cells (madeCells #[.int .i64 0] (ws.length+1)) 3)):=by
 have A:(w.alloc (.cells (madeCells #[.int .i64 0] (ws.length+1)) 3)).heap[w.heap.size]?=some (.cells (madeCells #[.int .i64 0] (ws.length+1)) 3 (0,0)):=heap_alloc_new w _;refine⟨⟨_,_,A,size_madeCells _ _⟩,fun j a b=>?_⟩;obtain rfl:j=ws.length:=by omega
 have:best wd (ws.drop ws.length)=0:=by rw[List.drop_length];rfl
 rw[this];simp only[World.cell?,A];exact k2k _ (by omega)
def g0p(g:Nat->Nat)(m:Nat):Int:=if m=0 then -1 else(z4h g m:Int)
structure v9w(wd:Nat)(ws:List ByteArray)(bL i m:Nat)(w:World):Prop where
 l:v7a wd ws bL (i+1) w
 c:w.cell? ⟨bL,i,none⟩=some (.int .i64 (g0p (fOf wd (ws.drop i)) m))
theorem v9w.set{wd:Nat}{ws:List ByteArray}{bL i m:Nat}{w:World}{z:Int}(h:v7a wd ws bL (i+1) w)(hi:i<ws.length)(hz:z=g0p (fOf wd (ws.drop i)) m):v9w wd ws bL i m (w.setCell ⟨bL,i,none⟩ (.int .i64 z)):=by
 obtain⟨B,A⟩:=h.rl.cell (i:=i) (by omega);refine⟨⟨h.rl.set,fun j a b=>(cso (.inr (by omega))).trans (h.cl j a b)⟩,?_⟩;rw[hz];exact css A
theorem v9w.kept{wd:Nat}{ws:List ByteArray}{bL i m:Nat}{w w':World}(h:v9w wd ws bL i m w)(h1:w'.heap[bL]?=w.heap[bL]?):v9w wd ws bL i m w' where
 l:=h.l.kept h1
 c:=(World.cell?_of_block (w:=w) (a:=⟨bL,i,none⟩) h1).trans h.c
theorem v9w.done{wd:Nat}{ws:List ByteArray}{bL i m:Nat}{w:World}(h:v9w wd ws bL i m w)(hi:i<ws.length)(hm:m=ws.length-i):v7a wd ws bL i w:=by
 have A:ws.drop i≠[]:=fun e=>by
  have:=congrArg List.length e
  rw[List.length_drop,List.length_nil]at this;omega
 have B:=h.c;refine⟨h.l.rl,fun j a b=>?_⟩;by_cases e:j=i
 ·subst e;rw[k4f wd A,List.length_drop,<-hm];rw[g0p,if_neg (by omega)]at B;exact B
 ·exact h.l.cl j (by omega) b
theorem q8h{w:World}{B e A n k:Nat}{v:Value}{xs:List Value}(h:w.ownsRow B e A v n xs)(hk:v.ownBlock=some k):k<w.heap.size/\∃cur,w.heap[k]?=some (.cells cur e (0,0)):=by
 rcases h.2 with⟨rfl,_⟩|⟨g,c,cur,rfl,_,C,_⟩
 ·simp[Value.ownBlock]at hk
 ·simp only[Value.ownBlock,Option.some.injEq]at hk;subst hk;exact⟨(Array.getElem?_eq_some_iff.1 C).1,cur,C⟩
theorem z9r{w w':World}{B e A n:Nat}{v:Value}{xs:List Value}(h:w.ownsRow B e A v n xs)(hk:∀k,v.ownBlock=some k->w'.heap[k]?=w.heap[k]?):w'.ownsRow B e A v n xs:=by
 refine⟨h.1,?_⟩;rcases h.2 with E|⟨g,c,D,rfl,G,H,C⟩
 ·exact .inl E
 ·exact .inr ⟨g,c,D,rfl,G,(hk g rfl).trans H,C⟩
theorem k8u{w:World}{B B' e A n:Nat}{v:Value}{xs:List Value}(h:w.ownsRow B e A v n xs)(hB:B'<=B):w.ownsRow B' e A v n xs:=by
 refine⟨h.1,?_⟩;rcases h.2 with E|⟨g,c,D,rfl,G,C⟩
 ·exact .inl E
 ·exact .inr ⟨g,c,D,rfl,Nat.le_trans hB G,C⟩
theorem j8n{w:World}{B B' e e' C A n n' k k':Nat}{v v':Value}{xs E:List Value}(h:w.ownsRow B e C v n xs)(h':w.ownsRow B' e' A v' n' E)(he:e≠e')(hk:v.ownBlock=some k)(D:v'.ownBlock=some k'):k≠k':=by
 intro H;subst H;obtain⟨_,c,I⟩:=q8h h hk;obtain⟨_,J,G⟩:=q8h h' D;rw[I]at G;cases G;exact he rfl
def z7k(B:Nat)(v:Value)(ls:List (List Int))(g:Option Nat)(w:World):Prop:=
 ∃xs:List Value,w.ownsRow B 45 1 v ls.length xs/\∀i(h:i<ls.length),∃a c,xs[i]?=some (.slice a ls[i].length c)/\w.ownsRow B 3 1 (.slice a ls[i].length c) ls[i].length (q0q ls[i])/\(∀k,(Value.slice a ls[i].length c).ownBlock=some k->g≠some k)
theorem z7k.nil(B:Nat)(g:Option Nat)(w:World):z7k B (.slice none 0 0) [] g w:=⟨[],World.ownsRow_nil _ _ _ _,fun i h=>by simp at h⟩
theorem z7k.kept{B:Nat}{v:Value}{ls:List (List Int)}{g g':Option Nat}{w w':World}(h:z7k B v ls g w)(hb:∀k,k<w.heap.size->(∃cur,w.heap[k]?=some (.cells cur 45 (0,0)))->w'.heap[k]?=w.heap[k]?)(hc:∀k,k<w.heap.size->(∃cur,w.heap[k]?=some (.cells cur 3 (0,0)))->g≠some k->w'.heap[k]?=w.heap[k]?/\g'≠some k):z7k B v ls g' w':=by
 obtain⟨J,G,I⟩:=h;refine⟨J,z9r G fun k hk=>?_,fun i hi=>?_⟩
 ·obtain⟨A,C⟩:=q8h G hk;exact hb k A C
 ·obtain⟨a,c,H,D,E⟩:=I i hi;refine⟨a,c,H,z9r D fun k hk=>?_,fun k hk=>?_⟩
  ·obtain⟨A,C⟩:=q8h D hk;exact(hc k A C (E k hk)).1
  ·obtain⟨A,C⟩:=q8h D hk;exact(hc k A C (E k hk)).2
theorem z7k.W{B:Nat}{v:Value}{ls:List (List Int)}{g:Option Nat}{w w':World}(h:z7k B v ls g w)(hb:Below w w w'):z7k B v ls g w':=
 h.kept (fun k h1 _=>hb.block k h1) (fun k h1 _ h3=>⟨hb.block k h1,h3⟩)
theorem z7k.push{B:Nat}{v v':Value}{ls:List (List Int)}{l:List Int}{g:Option Nat}{w w':World}{xs:List Value}{a':Option Addr}{c':Nat}(h1:w.ownsRow B 45 1 v ls.length xs)
  (h2:∀i(h:i<ls.length),∃a c,xs[i]?=some (.slice a ls[i].length c)/\w.ownsRow B 3 1 (.slice a ls[i].length c) ls[i].length (q0q ls[i])/\(∀k,(Value.slice a ls[i].length c).ownBlock=some k->g≠some k))
  (hl:w.ownsRow B 3 1 (.slice a' l.length c') l.length (q0q l)) (G:∀k,(Value.slice a' l.length c').ownBlock=some k->g≠some k) (hg:w.grownBy w' v.ownBlock) (D:w'.ownsRow B 45 1 v' (ls.length+1) (xs++[.slice a' l.length c'])):z7k B v' (ls++[l]) g w':=by
 have L:xs.length=ls.length:=by have:=h1.1;omega
 have A:∀{a c}{l:List Int},w.ownsRow B 3 1 (.slice a l.length c) l.length (q0q l)->w'.ownsRow B 3 1 (.slice a l.length c) l.length (q0q l):=fun{a c l}h=>
  z9r h fun k hk=>hg.block k (q8h h hk).1 fun e=>j8n h h1 (by decide) hk e.symm rfl
 refine⟨xs++[.slice a' l.length c'],by rw[List.length_append];exact D,fun i hi=>?_⟩;by_cases C:i<ls.length
 ·obtain⟨a,c,I,J,K⟩:=h2 i C;have E:(ls++[l])[i]=ls[i]:=List.getElem_append_left C;rw[E];exact⟨a,c,by rw[List.getElem?_append_left (by omega)];exact I,A J,K⟩
 ·have H:i=ls.length:=by simp at hi;omega
  subst H;have E:(ls++[l])[ls.length]=l:=by simp
  rw[E];exact⟨a',c',by rw[List.getElem?_append_right (by omega),L];simp,A hl,G⟩
theorem z7k.any{B B':Nat}{v:Value}{ls:List (List Int)}{g:Option Nat}{w:World}(h:z7k B v ls g w)(hB:B'<=B):z7k B' v ls none w:=by
 obtain⟨G,D,E⟩:=h;refine⟨G,k8u D hB,fun i hi=>?_⟩;obtain⟨a,c,A,C,_⟩:=E i hi;exact⟨a,c,A,k8u C hB,fun k _=>by simp⟩
def k0p(w:World)(a:Option Addr)(ls:List (List Int)):Prop:=
 ∀i(h:i<ls.length),∃b o a' c',a=some ⟨b,o,none⟩/\b<w.heap.size/\w.cell? ⟨b,o+i,none⟩=some (.slice a' ls[i].length c')/\ls[i].length<=c'/\q7w w a' ls[i]
theorem k0p.W{w w':World}{a:Option Addr}{ls:List (List Int)}(h:k0p w a ls)(hb:Below w w w'):k0p w' a ls:=by
 intro i H;obtain⟨b,o,B,C,e,A,D,E,G⟩:=h i H;exact⟨b,o,B,C,e,Nat.lt_of_lt_of_le A hb.size,((q1o hb).1 _ _ A).trans D,E,G.W hb⟩
theorem z7k.ways{B:Nat}{a:Option Addr}{n c:Nat}{ls:List (List Int)}{g:Option Nat}{w:World}(h:z7k B (.slice a n c) ls g w):n=ls.length/\k0p w a ls:=by
 obtain⟨S,E,N⟩:=h;have V:S.length=ls.length:=by have:=E.1;omega
 rcases E.2 with⟨C,M⟩|⟨L,U,J,C,_,G,O,_,P,A⟩
 ·simp only[Value.slice.injEq]at C;obtain⟨rfl,rfl,rfl⟩:=C;exact⟨M.symm,fun i hi=>by omega⟩
 ·simp only[Value.slice.injEq]at C;obtain⟨rfl,rfl,rfl⟩:=C;refine⟨rfl,fun i hi=>?_⟩;obtain⟨H,I,D,K,_⟩:=N i hi;obtain⟨_,_,Q,R,_⟩:=z9q K;refine⟨L,0,H,I,rfl,(Array.getElem?_eq_some_iff.1 G).1,?_,Q,R⟩;rw[<-A,List.getElem?_take_of_lt (by omega)]at D;rw[Nat.zero_add];simp only[World.cell?,G];simpa using D
def v9v(g:Option Nat)(w:World)(a:Option Addr)(ws:List Int):Prop:=
 ∀i(h:i<ws.length),∃b o,a=some ⟨b,o,none⟩/\b<w.heap.size/\some b≠g/\w.cell? ⟨b,o+i,none⟩=some (.int .i64 ws[i])
theorem v9v.ints{g:Option Nat}{w:World}{a:Option Addr}{ws:List Int}(h:v9v g w a ws):q7w w a ws:=by
 intro i B;obtain⟨b,o,e,A,_,c⟩:=h i B;exact⟨b,o,e,A,c⟩
def q5y(g:Option Nat)(w:World)(a:Option Addr)(ls:List (List Int)):Prop:=
 ∀i(h:i<ls.length),∃b o a' c',a=some ⟨b,o,none⟩/\b<w.heap.size/\some b≠g/\w.cell? ⟨b,o+i,none⟩=some (.slice a' ls[i].length c')/\ls[i].length<=c'/\v9v g w a' ls[i]/\(a'=none->ls[i]=[]/\c'=0)
theorem q5y.kept{g:Option Nat}{w w':World}{a:Option Addr}{ls:List (List Int)}(h:q5y g w a ls)(hs:w.heap.size<=w'.heap.size)(hk:∀k,k<w.heap.size->some k≠g->w'.heap[k]?=w.heap[k]?):q5y g w' a ls:=by
 intro i O;obtain⟨b,o,E,G,e,K,C,c,L,M,N⟩:=h i O;refine⟨b,o,E,G,e,by omega,C,(World.cell?_of_block (w:=w) (a:=⟨b,o+i,none⟩) (hk b K C)).trans c,L,fun j hj=>?_,N⟩;obtain⟨A,D,I,J,B,H⟩:=M j hj;exact⟨A,D,I,by omega,B,(World.cell?_of_block (w:=w) (a:=⟨A,D+j,none⟩) (hk A J B)).trans H⟩
theorem q5y.W{g:Option Nat}{w w':World}{a:Option Addr}{ls:List (List Int)}(h:q5y g w a ls)(hb:Below w w w'):q5y g w' a ls:=h.kept hb.size fun k hk _=>hb.block k hk
theorem q5y.new{g g':Option Nat}{w:World}{a:Option Addr}{ls:List (List Int)}(h:q5y g w a ls)(hg:∀k,g'=some k->w.heap.size<=k):q5y g' w a ls:=by
 intro i L;obtain⟨b,o,B,C,e,H,O,c,I,J,K⟩:=h i L;refine⟨b,o,B,C,e,H,fun q=>by have:=hg b q.symm;omega,c,I,fun j hj=>?_,K⟩;obtain⟨A,M,E,G,N,D⟩:=J j hj;exact⟨A,M,E,G,fun q=>by have:=hg A q.symm;omega,D⟩
theorem q5y.ways{g:Option Nat}{w:World}{a:Option Addr}{ls:List (List Int)}(h:q5y g w a ls):k0p w a ls:=by
 intro i G;obtain⟨b,o,A,B,e,C,_,c,D,E,_⟩:=h i G;exact⟨b,o,A,B,e,C,c,D,E.ints⟩
theorem z7k.waysN{B:Nat}{a:Option Addr}{n c:Nat}{ls:List (List Int)}{g g':Option Nat}{w:World}(h:z7k B (.slice a n c) ls g' w)(hg:∀k,g=some k->k<B):n=ls.length/\q5y g w a ls:=by
 obtain⟨Z,J,R⟩:=h;have f:Z.length=ls.length:=by have:=J.1;omega
 rcases J.2 with⟨D,Q⟩|⟨I,b,N,D,e,C,S,_,U,A⟩
 ·simp only[Value.slice.injEq]at D;obtain⟨rfl,rfl,rfl⟩:=D;exact⟨Q.symm,fun i hi=>by omega⟩
 ·simp only[Value.slice.injEq]at D;obtain⟨rfl,rfl,rfl⟩:=D;refine⟨rfl,fun i hi=>?_⟩;obtain⟨K,L,G,H,_⟩:=R i hi;obtain⟨_,_,W,X,Y⟩:=z9q H;refine⟨I,0,K,L,rfl,(Array.getElem?_eq_some_iff.1 C).1,fun q=>by have:=hg I q.symm;omega,?_,W,fun j hj=>?_,Y⟩
  ·rw[<-A,List.getElem?_take_of_lt (by omega)]at G;rw[Nat.zero_add];simp only[World.cell?,C];simpa using G
  ·obtain⟨E,V,O,P,M⟩:=X j hj;subst O;refine⟨E,V,rfl,P,fun q=>?_,M⟩;have d:=(H.lt E rfl).1
   have:=hg E q.symm
   omega
end Go.Proofs.YtfdppahhbpfnoaaGreatDoor
