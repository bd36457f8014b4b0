import Derived.Test.YtelcnplcpboonaaGreatDoorPe30
import Derived.Lay
import Derived.LaidMore
import Derived.LaidSub
import Derived.LaidOnce
import Derived.Laws.Cover3
import Derived.Test.YtelcnplcpboonaaGreatDoorPe24
open Go.Proofs.Tryz
open List renaming length->ſ
open Go.Value renaming int->À,slice->Ã,ownBlock->Æ,pointer->Ï,string->Û,agg->ç
open Go.IntKind renaming i64->Á
open Option renaming some->Â,none->Ä
open Go.Obj renaming cells->Å
open Option.some renaming injEq->Ç
open Array renaming getElem?_eq_some_iff->È
open Go renaming World->É,heap_alloc_new->Ò,Value->ê,laidMetH->ë,maxLen->ì
open List renaming mem_map->Ê,flatMap_map->Í,map_flatMap->Î,take_append_of_le_length->Ð,length_append->Ó,append_assoc->Õ,flatMap_cons->Ø,length_take->Ù,map_map->Ü,contains_iff_mem->Ý,mem_of_mem_take->ß,flatMap_append->à,take_append->á,length_cons->â,append_nil->ä,mem_append->å,take_take->æ,map_take->è
open Go.RowKit.Below renaming refl->Ë,heap_alloc->Ì
open Go.RowKit renaming Below->Ñ
open Go.World renaming cell?->Ô,cell?_of_block->Þ
open Nat renaming le_refl->Ö,zero_le->ã
open Bool renaming true->Ú,false->é
namespace Go.Proofs.YtelcnplcpboonaaGreatDoor
open Go Go.RowKit
set_option maxRecDepth 100000
set_option maxHeartbeats 4000000
theorem IH{R L M i nx dp wd c ks t}(sb g mb)(Aj:Sp R L M i t nx dp ks)(As:((q2 (aD R i)).lg==-1)=é)(Ao:eu (q2 (aD R i)).op=Ú)(Af:kb sb g mb wd R i c 0)(Ag:kb sb g mb wd R i c 1)(Ah:(ax R wd i c 0).o<=1000000/\(ax R wd i c 0).l<=1000000)(Ai:(ax R wd i c 1).o<=1000000/\(ax R wd i c 1).l<=1000000)(k)(hk:k=0/\decide (dG ((ax R wd i c 1).o,(ax R wd i c 1).l) ((ax R wd i c 0).o,(ax R wd i c 0).l))=é\/k=1/\decide (dG ((ax R wd i c 1).o,(ax R wd i c 1).l) ((ax R wd i c 0).o,(ax R wd i c 0).l))=Ú)(w)(S:Nat->Nat->Bool)(h:aU sb g mb wd R w S):
  Calls prog 231 #[Ï (Â ⟨sb,0,Ä⟩),ç #[À Á i,À Á c]] w λe a=>e=.returned (dQ (ax R wd i c k))/\Left sb g mb wd R S (i+1) (ax R wd i c k).np (ax R wd i c k).nc w a:=by
 have H:Hid (aU sb g mb wd R w S):=h;have J:=h.lt;have hi:i<ſ R:=Aj.lt;have Ar:(i:Int)<(ſ R:Int):=by omega
 have At:(0:Int)<=(i:Int):=by omega
 have HQ:Hid (∀W,fN W sb g wd R->jH W g i (q2 (aD R i))):=λW hW=>hW.pr.get i hi
 have Am:Hid (kb sb g mb wd R i c 0):=Af;have An:Hid (kb sb g mb wd R i c 1):=Ag;clear Af Ag;rw[dQ];clear h Aj;generalize q2 (aD R i)=q at *;go_in;go_wp2_with fail;have s:iv sb g mb wd i c R S w ((w.alloc (Å #[À Á i,À Á c] 280)).alloc (Å #[À Á 0,À Á 0,À Á 0,À Á 0,À Á 0] 282)):=nY (nq:=0) H.o
 generalize(w.alloc (Å #[À Á i,À Á c] 280)).alloc (Å #[À Á 0,À Á 0,À Á 0,À Á 0,À Á 0] 282)=w1 at *
 have Z:Hid (iv sb g mb wd i c R S w w1):=s;have Ap:=s.sz
 have r:∀W:É,W=w1.drew\/(∃O,W=(w1.alloc O).drew)->W.cell? ⟨sb,0,Ä⟩=Â (Ã (Â ⟨g,0,Ä⟩) (ſ R) (ſ R))/\W.cell? ⟨w,0,Ä⟩=Â (À Á i)/\W.cell? ⟨g,i*7,Ä⟩=Â (À Á q.op)/\W.cell? ⟨g,i*7+1,Ä⟩=Â (Û q.tx)/\W.cell? ⟨g,i*7+2,Ä⟩=Â (À Á q.n)/\W.cell? ⟨g,i*7+3,Ä⟩=Â (À Á q.en)/\W.cell? ⟨g,i*7+4,Ä⟩=Â (À Á q.nx)/\W.cell? ⟨g,i*7+5,Ä⟩=Â (À Á q.dp)/\W.cell? ⟨g,i*7+6,Ä⟩=Â (À Á q.lg):=by
  intro W hW
  have m:fN W sb g wd R/\W.cell? ⟨w,0,Ä⟩=Â (À Á i):=by
   rcases hW with rfl|⟨O,rfl⟩
   .exact⟨Z.o.inv.pl.kept rfl rfl,Z.o.a0⟩
   .exact⟨(Z.o.inv.pl.alloc O).kept rfl rfl,ka Z.o.a0 O⟩
  obtain⟨d0,d1,d2,d3,d4,d5,d6⟩:=HQ.o W m.1;exact⟨m.1.c0,m.2,d0,d1,d2,d3,d4,d5,d6⟩
 have Ad:=r w1.drew (.inl rfl);have Ae:=λO=>r (w1.alloc O).drew (.inr ⟨O,rfl⟩)
 have Y:Hid (i3 w (w1.alloc (fy q)).drew i c q):=wA Z.o q;have Ak:Hid (aU sb g mb wd R (w1.alloc (fy q)).drew S):=(Z.o.inv.alloc _).kept λ_ _=>rfl
 have x:Hid (am w mb w (w1.alloc (fy q)).drew):=(am.of (Z.o.bw.alloc Z.o.bw.size _)).drew;clear s r
 go_region_held3 (λa=>a.cell? ⟨sb,0,Ä⟩=Â (Ã (Â ⟨g,0,Ä⟩) (ſ R) (ſ R))/\a.cell? ⟨w,0,Ä⟩=Â (À Á i)/\a.cell? ⟨g,i*7,Ä⟩=Â (À Á q.op)/\a.cell? ⟨g,i*7+1,Ä⟩=Â (Û q.tx)/\a.cell? ⟨g,i*7+2,Ä⟩=Â (À Á q.n)/\a.cell? ⟨g,i*7+3,Ä⟩=Â (À Á q.en)/\a.cell? ⟨g,i*7+4,Ä⟩=Â (À Á q.nx)/\a.cell? ⟨g,i*7+5,Ä⟩=Â (À Á q.dp)/\a.cell? ⟨g,i*7+6,Ä⟩=Â (À Á q.lg))
  (first|with_reducible exact Ad|with_reducible exact Ae _) (fail)
 all_goals
  generalize(w1.alloc (Å #[À Á q.op,Û q.tx,À Á q.n,À Á q.en,À Á q.nx,À Á q.dp,À Á q.lg] 306)).drew=w2 at *
  have a0:=Y.o.a0;have a1:=Y.o.a1;have q6:=Y.o.q6;clear Ad Ae Ap;go_wp2_with fail;refine(Am.o w2 S Ak.o).mono ?_;rintro e B⟨rfl,C,d,hI,U,Q,P⟩;rw[dQ];have E:=Y.o.kept C J.2.2;have X:Hid (am w mb w B):=x.o.trans (C.mono x.o.size);have u:Hid (aU sb g mb wd R B d/\(∀a b,S a b=Ú->d a b=Ú)/\(∀a b,d a b=Ú->S a b=Ú\/i+1<=a)/\((ax R wd i c 0).np<ſ R->d (ax R wd i c 0).np (ax R wd i c 0).nc=Ú)):=⟨hI,U,Q,P⟩;have u0:=λO=>ka E.q0 O
  have u1:=λO=>ka E.q1 O
  have u2:=λO=>ka E.q2 O
  have u3:=λO=>ka E.q3 O
  have u4:=λO=>ka E.q4 O
  have u5:=λO=>ka E.q5 O
  have u6:=λO=>ka E.q6 O
  have Aa:Hid (i3 w B i c q):=E;clear C hI U Q P E a0 a1 q6;go_wp2_with fail;refine ai (tj q.op q.tx q.n q.en q.nx q.dp q.lg _) λw4 hb4=>?_
  rw[Ao];have K:B.heap.size<w4.heap.size:=by have:=hb4.size;simp at this;omega
  have N:Hid (i3 w w4 i c q):=(Aa.o.kept (mb:=mb) (am.of ((Ë _ B).alloc Zl _)) J.2.2).kept (am.of hb4) J.2.2;have Al:Hid (aU sb g mb wd R w4 d):=(u.o.1.alloc _).W hb4;have y:Hid (am w mb w w4):=(X.o.alloc (by have:=X.o.size;omega) _).trans (am.of (hb4.mono (by have:=X.o.size;simp;omega)));have s0:w4.cell? ⟨B,0,Ä⟩=Â (À Á (ax R wd i c 0).o):=(hb4.cell (p:=⟨B,0,Ä⟩) (by simp)).trans (by simp[go_sem]);have s1:w4.cell? ⟨B,1,Ä⟩=Â (À Á (ax R wd i c 0).l):=(hb4.cell (p:=⟨B,1,Ä⟩) (by simp)).trans (by simp[go_sem]);have s2:w4.cell? ⟨B,2,Ä⟩=Â (À Á (ax R wd i c 0).ch):=(hb4.cell (p:=⟨B,2,Ä⟩) (by simp)).trans (by simp[go_sem]);have s3:w4.cell? ⟨B,3,Ä⟩=Â (À Á (ax R wd i c 0).np):=(hb4.cell (p:=⟨B,3,Ä⟩) (by simp)).trans (by simp[go_sem]);have s4:w4.cell? ⟨B,4,Ä⟩=Â (À Á (ax R wd i c 0).nc):=(hb4.cell (p:=⟨B,4,Ä⟩) (by simp)).trans (by simp[go_sem]);have a0:=N.o.a0;have a1:=N.o.a1;clear u0 u1 u2 u3 u4 u5 u6 hb4;go_wp2_with fail;refine(An.o w4 d Al.o).mono ?_;rintro e D⟨rfl,C,j,hI,U,Q,P⟩;rw[dQ];have Ab:Hid (i3 w D i c q):=N.o.kept C J.2.2;have f:Hid (am w mb w D):=y.o.trans (C.mono y.o.size);have V:B.heap.size≠mb:=by have:=X.o.size;omega
  have z0:D.cell? ⟨B,0,Ä⟩=Â (À Á (ax R wd i c 0).o):=(C.cell (p:=⟨B,0,Ä⟩) K V).trans s0;have z1:D.cell? ⟨B,1,Ä⟩=Â (À Á (ax R wd i c 0).l):=(C.cell (p:=⟨B,1,Ä⟩) K V).trans s1;have z2:D.cell? ⟨B,2,Ä⟩=Â (À Á (ax R wd i c 0).ch):=(C.cell (p:=⟨B,2,Ä⟩) K V).trans s2;have z3:D.cell? ⟨B,3,Ä⟩=Â (À Á (ax R wd i c 0).np):=(C.cell (p:=⟨B,3,Ä⟩) K V).trans s3;have z4:D.cell? ⟨B,4,Ä⟩=Â (À Á (ax R wd i c 0).nc):=(C.cell (p:=⟨B,4,Ä⟩) K V).trans s4;have v0:=λO=>ka z0 O
  have v1:=λO=>ka z1 O
  have G:Hid (aU sb g mb wd R D j/\(∀a b,d a b=Ú->j a b=Ú)/\(∀a b,j a b=Ú->d a b=Ú\/i+1<=a)/\((ax R wd i c 1).np<ſ R->j (ax R wd i c 1).np (ax R wd i c 1).nc=Ú)):=⟨hI,U,Q,P⟩;have Aq:B.heap.size<D.heap.size:=Nat.lt_of_lt_of_le K C.size;clear C hI U Q P a0 a1;go_wp2_with fail;refine ai (Rk (ax R wd i c 1).o (ax R wd i c 1).l (ax R wd i c 0).o (ax R wd i c 0).l Ai.1 Ai.2 Ah.1 Ah.2 _) λw6 hb6=>?_
  have A:=(Ab.o.kept (mb:=mb) (am.of ((Ë _ D).alloc Zl _)) J.2.2).kept (am.of hb6) J.2.2;have Ac:Hid (aU sb g mb wd R w6 j):=(G.o.1.alloc _).W hb6;have z:Hid (am w mb w w6):=(f.o.alloc (by have:=f.o.size;omega) _).trans (am.of (hb6.mono (by have:=f.o.size;simp;omega)));have r0:=A.r0;have r1:=A.r1;have r2:=A.r2;have r3:=A.r3;have r4:=A.r4;have y0:w6.frozen? ⟨w.heap.size+1,0,Ä⟩=false:=A.fr.frozen;have y1:w6.frozen? ⟨w.heap.size+1,1,Ä⟩=false:=A.fr.frozen;have y2:w6.frozen? ⟨w.heap.size+1,2,Ä⟩=false:=A.fr.frozen;have y3:w6.frozen? ⟨w.heap.size+1,3,Ä⟩=false:=A.fr.frozen;have y4:w6.frozen? ⟨w.heap.size+1,4,Ä⟩=false:=A.fr.frozen;rcases hk with⟨rfl,I⟩|⟨rfl,I⟩
  .rw[I];have x0:w6.cell? ⟨B,0,Ä⟩=Â (À Á (ax R wd i c 0).o):=(hb6.cell (p:=⟨B,0,Ä⟩) (by simp;omega)).trans (ka z0 _);have x1:w6.cell? ⟨B,1,Ä⟩=Â (À Á (ax R wd i c 0).l):=(hb6.cell (p:=⟨B,1,Ä⟩) (by simp;omega)).trans (ka z1 _);have x2:w6.cell? ⟨B,2,Ä⟩=Â (À Á (ax R wd i c 0).ch):=(hb6.cell (p:=⟨B,2,Ä⟩) (by simp;omega)).trans (ka z2 _);have x3:w6.cell? ⟨B,3,Ä⟩=Â (À Á (ax R wd i c 0).np):=(hb6.cell (p:=⟨B,3,Ä⟩) (by simp;omega)).trans (ka z3 _);have x4:w6.cell? ⟨B,4,Ä⟩=Â (À Á (ax R wd i c 0).nc):=(hb6.cell (p:=⟨B,4,Ä⟩) (by simp;omega)).trans (ka z4 _);clear z0 z1 z2 z3 z4 s0 s1 s2 s3 s4 v0 v1 hb6 A;go_wp2;refine bodyPost_ret (v:=ç #[À Á (ax R wd i c 0).o,À Á (ax R wd i c 0).l,À Á (ax R wd i c 0).ch,À Á (ax R wd i c 0).np,À Á (ax R wd i c 0).nc]) (by simp[results,Tryz.results231,go_sem,r0,r1,r2,r3,r4]) rfl ⟨rfl,mr z.o (by omega) _ _ _ _ _,j,Ac.o.set5 (by omega) (by omega) (by omega) _ _ _ _ _,λa b hab=>G.o.2.1 a b (u.o.2.1 a b hab),λa b hab=>?_,λh=>G.o.2.1 _ _ (u.o.2.2.2 h)⟩;rcases G.o.2.2.1 a b hab with h|h
   .exact u.o.2.2.1 a b h
   .exact .inr h
  .rw[I];have x0:w6.cell? ⟨D,0,Ä⟩=Â (À Á (ax R wd i c 1).o):=(hb6.cell (p:=⟨D,0,Ä⟩) (by simp)).trans (by simp[go_sem]);have x1:w6.cell? ⟨D,1,Ä⟩=Â (À Á (ax R wd i c 1).l):=(hb6.cell (p:=⟨D,1,Ä⟩) (by simp)).trans (by simp[go_sem]);have x2:w6.cell? ⟨D,2,Ä⟩=Â (À Á (ax R wd i c 1).ch):=(hb6.cell (p:=⟨D,2,Ä⟩) (by simp)).trans (by simp[go_sem]);have x3:w6.cell? ⟨D,3,Ä⟩=Â (À Á (ax R wd i c 1).np):=(hb6.cell (p:=⟨D,3,Ä⟩) (by simp)).trans (by simp[go_sem]);have x4:w6.cell? ⟨D,4,Ä⟩=Â (À Á (ax R wd i c 1).nc):=(hb6.cell (p:=⟨D,4,Ä⟩) (by simp)).trans (by simp[go_sem]);clear z0 z1 z2 z3 z4 s0 s1 s2 s3 s4 v0 v1 hb6 A;go_wp2;refine bodyPost_ret (v:=ç #[À Á (ax R wd i c 1).o,À Á (ax R wd i c 1).l,À Á (ax R wd i c 1).ch,À Á (ax R wd i c 1).np,À Á (ax R wd i c 1).nc]) (by simp[results,Tryz.results231,go_sem,r0,r1,r2,r3,r4]) rfl ⟨rfl,mr z.o (by omega) _ _ _ _ _,j,Ac.o.set5 (by omega) (by omega) (by omega) _ _ _ _ _,λa b hab=>G.o.2.1 a b (u.o.2.1 a b hab),λa b hab=>?_,λh=>G.o.2.2.2 h⟩;rcases G.o.2.2.1 a b hab with h|h
   .exact u.o.2.2.1 a b h
   .exact .inr h
theorem Vn{t wd}(sb g mb)(ht:t.Wf)(hn:t.sz<=400)(hw:wd<=100):∀m i c,(ah t).length-i<=m->i<=(ah t).length->c<=wd->nP sb g mb wd (ah t) i c:=by
 have X:=m7 t;have V:=Lg X hn;have Q:t.lf<=400:=by unfold Tr.sz at hn;omega
 have R:t.dsum<=3200:=by unfold Tr.sz at hn;omega
 have a:(ah t).length<=400:=by rw[jQ];exact hn
 intro m
 induction m with
 | zero=>intro i c f j s;exact AV sb g mb wd i c _ (by omega)
 | succ m ih=>
  intro i c f j P;by_cases d:i<(ah t).length
  .obtain⟨Y,z,r,y,A⟩:=qi ht d;refine Vo sb g mb wd i c _ d a hw P ?_;have L:=A.at
   have b:∀a,∃k:Cv,k=(if(bH (ah t) wd i c a).np<(ah t).length then az (ah t) wd (bH (ah t) wd i c a).np (bH (ah t) wd i c a).nc else gP)/\k.o=(vv (ah t) wd (bH (ah t) wd i c a).np (bH (ah t) wd i c a).nc).1.1/\k.l=(vv (ah t) wd (bH (ah t) wd i c a).np (bH (ah t) wd i c a).nc).1.2/\k.o<=400000/\k.l<=400000:=λch=>by
    have G:=qh (ch:=ch) A P hw Q R;refine⟨_,rfl,?_⟩;by_cases W:(bH (ah t) wd i c ch).np<(ah t).length
    .rw[if_pos W];obtain⟨t2,q,e,p,H⟩:=qi ht W;have n:=(wE H G.cl).1;have U:=QS (wd:=wd) (c:=(bH (ah t) wd i c ch).nc) H V;rw[n]at U⊢;exact⟨rfl,rfl,U⟩
    .rw[if_neg W,yA (by omega)];exact⟨rfl,rfl,by simp[gP],by simp[gP]⟩
   have K:∀a,(a=0\/a=1)->(Y.lg=-1->a=1)->kb sb g mb wd (ah t) i c a:=λch h01 hh=>by
    have G:=qh (ch:=ch) A P hw Q R
    have:=G.lo
    exact VI sb g mb a A P hw Q R h01 hh (ih _ _ (by omega) G.hi G.cl) (b ch)
   have D:∀a,(ax (ah t) wd i c a).o<=1000000/\(ax (ah t) wd i c a).l<=1000000:=λch=>by
    have G:=qh (ch:=ch) A P hw Q R;obtain⟨k,_,U,u,v,x⟩:=b ch
    have:=G.bo
    have:=G.bl
    simp only[ax,jF];omega
   have Z:(q2 (aD (ah t) i)).lg=Y.lg:=by rw[L];rfl
   intro w S h;by_cases C:Y.lg=-1
   .have I:az (ah t) wd i c=ax (ah t) wd i c 1:=by rw[az,if_pos (show(aD (ah t) i).lg=-1 by rw[L];exact C)]
    rw[I];exact Pn sb g mb A (by rw[Z];exact C) (K 1 (.inr rfl) λ_=>rfl) w S h
   .have N:((q2 (aD (ah t) i)).lg==-1)=false:=beq_eq_false_iff_ne.2 (by rw[Z];exact C);have J:=K 0 (.inl rfl) λh=>absurd h C
    have O:=K 1 (.inr rfl) λ_=>rfl
    have M:¬(aD (ah t) i).lg=-1:=by rw[L];exact C
    cases B:eu (aD (ah t) i).nd.op with
    | false=>
     have I:az (ah t) wd i c=ax (ah t) wd i c 0:=by rw[az,if_neg M,if_pos B]
     rw[I];exact O6 sb g mb A N B J w S h
    | true=>
     by_cases E:dG ((ax (ah t) wd i c 1).o,(ax (ah t) wd i c 1).l) ((ax (ah t) wd i c 0).o,(ax (ah t) wd i c 0).l)
     .have I:az (ah t) wd i c=ax (ah t) wd i c 1:=by rw[az,if_neg M,if_neg (by rw[B];simp),if_pos E]
      rw[I];exact IH sb g mb A N B J O (D 0) (D 1) 1 (.inr ⟨rfl,decide_eq_true E⟩) w S h
     .have I:az (ah t) wd i c=ax (ah t) wd i c 0:=by rw[az,if_neg M,if_neg (by rw[B];simp),if_neg E]
      rw[I];exact IH sb g mb A N B J O (D 0) (D 1) 0 (.inl ⟨rfl,decide_eq_false E⟩) w S h
  .exact AV sb g mb wd i c _ (by omega)
theorem qB{w:É}{B e A n k v G}(h:w.ownsRow B e A v n G)(E:v.ownBlock=Â k):k<w.heap.size/\∃D,w.heap[k]?=Â (Å D e (0,0)):=by
 rcases h.2 with⟨rfl,_⟩|⟨g,c,D,rfl,_,C,_⟩
 .simp[Æ]at E
 .simp only[Æ,Ç]at E;subst E;exact⟨(È.1 C).1,D,C⟩
theorem yk{w:É}{B e A n k v G}(h:w.ownsRow B e A v n G)(E:v.ownBlock=Â k):B<=k:=by
 rcases h.2 with⟨rfl,_⟩|⟨g,c,C,rfl,D,_⟩
 .simp[Æ]at E
 .simp only[Æ,Ç]at E;subst E;exact D
theorem qA{w w':É}{B e A n v I}(h:w.ownsRow B e A v n I)(J:∀k,v.ownBlock=Â k->w'.heap[k]?=w.heap[k]?):w'.ownsRow B e A v n I:=by
 refine⟨h.1,?_⟩;rcases h.2 with E|⟨g,c,D,rfl,G,H,C⟩
 .exact .inl E
 .exact .inr ⟨g,c,D,rfl,G,(J g rfl).trans H,C⟩
structure fZ(sb g mb wd:Nat)(R:List Pl)(S:Nat->Nat->Bool)(w wr:É)(v3:ê)(b4 p c:Nat)(us:List Int):Prop where
 own:wr.ownsRow w.heap.size 3 1 v3 (ſ us) (db us)
 box:wr.heap[b4]?=Â (Å #[À Á p,À Á c] 280 (0,0))
 lo:w.heap.size<=b4
 pl:p<=ſ R
 cl:c<=wd
 inS:p<ſ R->S p c=Ú
 way:us++(vv R wd p c).2=(vv R wd 0 0).2
 len:ſ us<=p
 inv:aU sb g mb wd R wr S
 bw:Ñ w w wr
section
variable {sb g mb wd b4 p c:Nat} {R:List Pl} {S:Nat→Nat→Bool} {w wr wx:É} {v3:ê} {us:List Int}
theorem fZ.c0(h:fZ sb g mb wd R S w wr v3 b4 p c us):wr.cell? b4=Â ↑p:=by simp[Ô,h.box]
theorem fZ.c1(h:fZ sb g mb wd R S w wr v3 b4 p c us):wr.cell? (b4,1)=Â ↑c:=by simp[Ô,h.box]
theorem fZ.lt(h:fZ sb g mb wd R S w wr v3 b4 p c us):b4<wr.heap.size:=World.block_lt_of_cell? wr b4 h.c0
theorem fZ.form(h:fZ sb g mb wd R S w wr v3 b4 p c us):∃a D,v3=Ã a (ſ us) D:=by
 rcases h.own.2 with⟨A,C⟩|⟨g,c,B,A,_⟩
 .exact⟨Ä,0,by rw[A,C]⟩
 .exact⟨_,c,A⟩
theorem fZ.apart(h:fZ sb g mb wd R S w wr v3 b4 p c us){k}(C:v3.ownBlock=Â k):k≠b4:=by
 intro e;subst e;obtain⟨_,B,A⟩:=qB h.own C;rw[h.box]at A;cases A
theorem fZ.W(h:fZ sb g mb wd R S w wr v3 b4 p c us)(A:Ñ wr wr wx):fZ sb g mb wd R S w wx v3 b4 p c us:=
 ⟨qA h.own λk B=>A.block k (qB h.own B).1,(A.block _ h.lt).trans h.box,h.lo,h.pl,h.cl,h.inS,h.way,h.len,h.inv.W A,h.bw.trans (A.mono h.bw.size)⟩
end
def l7(n:Nat)(v:ê)(wr:É):Nat:=match v with
 | Ï (Â a)=>(match wr.cell? a with|some (À _ p)=>n-p.toNat|_=>0)
 | _=>0
theorem rk{n b p:Nat}{wr}(h:wr.cell? b=Â ↑(p:Int)):l7 n (Ï b) wr=n-p:=by
 simp[l7,h]
theorem T0{Z g Y U p c L M nx dp R}{S:Nat->Nat->Bool}{w:É}{W v V A i t}(G:Sp R L M p t nx dp i)(X:c<=U)(h:U<=100)(a:L<=400)(b:M<=3200)(D:V++(vv R U p c).2=(vv R U 0 0).2)(O:ſ V<=p)(d:S p c=Ú)
  (H:A=V++(if eu t.root.op=Ú then [((az R U p c).ch:Int)]else [])) (C:W.ownsRow w.heap.size 3 1 v (ſ A) (db A)) (B:aU Z g Y U R W S) (E:Ñ w w W):
  fZ Z g Y U R S w (W.alloc (Å #[(az R U p c).np,(az R U p c).nc] 280)) v W.heap.size (az R U p c).np (az R U p c).nc A/\p<(az R U p c).np:=by
 obtain⟨Q,ch,_,N⟩:=wE G X;have K:=qh (ch:=ch) G X h a b;have I:(az R U p c).np=(bH R U p c ch).np:=by rw[N];rfl
 have P:(az R U p c).nc=(bH R U p c ch).nc:=by rw[N];rfl
 have J:=K.lo;refine⟨⟨qA C λk e=>Ì _ _ _ (qB C e).1,Ò W _,E.size,by rw[I];exact K.hi,by rw[P];exact K.cl,λf=>(B.cl p c d).2.2 f,?_,?_,B.alloc _,E.alloc E.size _⟩,by rw[I];exact J⟩
 .rw[Q]at D;rw[H,Õ];exact D
 .rw[H,I]
  split<;>simp<;>omega
theorem OZ{t wd}(sb g mb)(ht:t.Wf)(hn:t.sz<=400)(hw:wd<=100)(w:É)(S:Nat->Nat->Bool)(h:aU sb g mb wd (ah t) w S)(h0:S 0 0=Ú):
  Calls prog 204 #[Ï (Â ⟨sb,0,Ä⟩)] w λe b=>(∃a c,e=.returned (Ã a (vv (ah t) wd 0 0).2.length c)/\b.ownsRow w.heap.size 3 1 (Ã a (vv (ah t) wd 0 0).2.length c) (vv (ah t) wd 0 0).2.length (db (vv (ah t) wd 0 0).2))/\Ñ w w b:=by
 have HI:=aa h;have H0:=aa h0;have Ah:=h.lt;have hR:(ah t).length<=400:=by rw[jQ];exact hn
 have A4:Hid (∃R,R=ah t):=⟨_,rfl⟩
 have A0:Hid (∀W:É,W=w.alloc (Å #[À Á 0,À Á 0] 280)->fZ sb g mb wd (ah t) S w W (Ã Ä 0 0) w.heap.size 0 0 []):=λW hW=>by
  subst hW;exact⟨⟨rfl,.inl ⟨rfl,rfl⟩⟩,Ò w _,Ö _,ã _,ã _,λ_=>H0.o,rfl,Ö _,HI.o.alloc _,(Ë _ w).alloc Zl _⟩
 clear h h0;go_in;go_wp2_with fail
 go_loopw [3,4] (λa b wr=>∃G p c D,b=Ï (Â ⟨G,0,Ä⟩)/\fZ sb g mb wd (ah t) S w wr a G p c D) (λ_ a wr=>l7 (ah t).length a wr)
 case atStart=>exact⟨_,0,0,[],rfl,A0.o _ rfl⟩
 case round=>
  obtain⟨G,p,c,D,rfl,x⟩:=hrel;obtain⟨a3,E,rfl⟩:=x.form;have M:=aa x;have c0:=x.inv.pl.c0;have p0:=x.c0;by_cases hp:p<(ah t).length
  .have A2:(p:Int)<((ah t).length:Int):=by omega
   obtain⟨t',nx,dp,ks,Aj⟩:=qi ht hp;have Az:=aa Aj;have Ai:p<=400:=by omega
   have Ag:c<=100:=by have:=x.cl;omega
   have HQ:Hid (∀W,Ñ wr wr W->W.cell? ⟨sb,0,Ä⟩=Â (Ã (Â ⟨g,0,Ä⟩) (ah t).length (ah t).length)/\W.cell? ⟨G,0,Ä⟩=Â (À Á p)/\W.cell? ⟨g,p*7,Ä⟩=Â (À Á (q2 (aD (ah t) p)).op)/\W.cell? ⟨g,p*7+1,Ä⟩=Â (Û (q2 (aD (ah t) p)).tx)/\W.cell? ⟨g,p*7+2,Ä⟩=Â (À Á (q2 (aD (ah t) p)).n)/\W.cell? ⟨g,p*7+3,Ä⟩=Â (À Á (q2 (aD (ah t) p)).en)/\W.cell? ⟨g,p*7+4,Ä⟩=Â (À Á (q2 (aD (ah t) p)).nx)/\W.cell? ⟨g,p*7+5,Ä⟩=Â (À Á (q2 (aD (ah t) p)).dp)/\W.cell? ⟨g,p*7+6,Ä⟩=Â (À Á (q2 (aD (ah t) p)).lg)):=λW hW=>by
    have A:=M.o.W hW;obtain⟨d0,d1,d2,d3,d4,d5,d6⟩:=A.inv.pl.pr.get p hp;exact⟨A.inv.pl.c0,A.c0,d0,d1,d2,d3,d4,d5,d6⟩
   have r:(q2 (aD (ah t) p)).op=t'.root.op:=by rw[Aj.at];rfl
   have Ae:Hid (∀W,aU sb g mb wd (ah t) W S->(Instr.lookup 276 (.map (Â mb)) (ç #[À Á (p:Int),À Á (c:Int)]) é).run prog W=.ok (ç #[À Á (az (ah t) wd p c).o,À Á (az (ah t) wd p c).l,À Á (az (ah t) wd p c).ch,À Á (az (ah t) wd p c).np,À Á (az (ah t) wd p c).nc]) W):=λW hW=>by
    have:=hW.me.look (p:=p) (c:=c) Ai Ag
    rw[M.o.inS hp,if_pos rfl]at this;exact this
   have A6:=RH;have A5:=Pr;have A7:(0:Int)<=(p:Int):=by omega
   have i:Hid (∀(W:É)(v:ê)(us':List Int),us'=D++(if eu t'.root.op=Ú then [((az (ah t) wd p c).ch:Int)]else [])->W.ownsRow w.heap.size 3 1 v (ſ us') (db us')->aU sb g mb wd (ah t) W S->Ñ w w W->fZ sb g mb wd (ah t) S w (W.alloc (Å #[À Á (az (ah t) wd p c).np,À Á (az (ah t) wd p c).nc] 280)) v W.heap.size (az (ah t) wd p c).np (az (ah t) wd p c).nc us'/\p<(az (ah t) wd p c).np):=λW v us' e1 e2 e3 e4=>
    T0 Az.o M.o.cl hw (by have:=m7 t;unfold Tr.sz at hn;omega) (by have:=m7 t;unfold Tr.sz at hn;omega) M.o.way M.o.len (M.o.inS hp) e1 e2 e3 e4
   clear x Aj;generalize q2 (aD (ah t) p)=q at *;generalize az (ah t) wd p c=k at *;cases L:eu q.op with
   | false=>
    have Ad:Hid (∀W,Cb 232 #[ç #[À Á q.op,Û q.tx,À Á q.n,À Á q.en,À Á q.nx,À Á q.dp,À Á q.lg]] W (.bool é)):=λW=>by have:=tj q.op q.tx q.n q.en q.nx q.dp q.lg W;rw[L]at this;exact this
    have P:Hid (eu t'.root.op=é):=by rw[<-r];exact L
    clear L r;go_wp2_with fail
    go_quiet (fail)
    go_wp2_with fail;have J:Ñ wr wr (wr.drewN nq):=rh (Ë _ wr) nq;generalize wr.drewN nq=w1 at *;have U:=HQ.o w1.drew J.drew;have N:Hid (Ñ wr wr w1):=J;clear J
    go_region_held3 (λa=>a.cell? ⟨sb,0,Ä⟩=Â (Ã (Â ⟨g,0,Ä⟩) (ah t).length (ah t).length)/\a.cell? ⟨G,0,Ä⟩=Â (À Á p)/\a.cell? ⟨g,p*7,Ä⟩=Â (À Á q.op)/\a.cell? ⟨g,p*7+1,Ä⟩=Â (Û q.tx)/\a.cell? ⟨g,p*7+2,Ä⟩=Â (À Á q.n)/\a.cell? ⟨g,p*7+3,Ä⟩=Â (À Á q.en)/\a.cell? ⟨g,p*7+4,Ä⟩=Â (À Á q.nx)/\a.cell? ⟨g,p*7+5,Ä⟩=Â (À Á q.dp)/\a.cell? ⟨g,p*7+6,Ä⟩=Â (À Á q.lg))
     (first|with_reducible exact U|with_reducible exact V)
     ((go_at_call 232;refine(Ad.o w1.drew).mono ?_;rintro e B⟨rfl,X⟩;have I:Ñ wr wr B:=N.o.drew.trans (X.mono N.o.size);have V:=HQ.o B I))
    all_goals
     have A:=M.o.W I;have C:Hid (fZ sb g mb wd (ah t) S w B (Ã a3 (ſ D) E) G p c D):=A;have x0:=A.c0;have x1:=A.c1;have m2:=λO=>ka A.inv.c2 O
     have hL:=λO=>Ae.o (B.alloc O).drew ((A.inv.alloc O).kept λ_ _=>rfl)
     clear A X I V U c0 p0;go_wp2_with fail
     go_region
     all_goals
      go_wp2
      go_roundw
      case rel=>
       exact⟨_,_,_,D,rfl,((i.o B _ D (by rw[P.o];simp) C.o.own C.o.inv C.o.bw).1).W Zb.drew⟩
      case measure=>
       have h5:=(i.o B _ D (by rw[P.o];simp) C.o.own C.o.inv C.o.bw);have e5:l7 (ah t).length (Ï (Â ⟨G,0,Ä⟩)) wr=(ah t).length-p:=rk M.o.c0;have e6:l7 (ah t).length (Ï (Â ⟨B,0,Ä⟩)) (B.alloc (Å #[À Á k.np,À Á k.nc] 280)).drew=(ah t).length-k.np:=rk h5.1.c0;have h6:=h5.2;rw[e5,e6];omega
   | true=>
    have Ad:Hid (∀W,Cb 232 #[ç #[À Á q.op,Û q.tx,À Á q.n,À Á q.en,À Á q.nx,À Á q.dp,À Á q.lg]] W (.bool Ú)):=λW=>by have:=tj q.op q.tx q.n q.en q.nx q.dp q.lg W;rw[L]at this;exact this
    have P:Hid (eu t'.root.op=Ú):=by rw[<-r];exact L
    clear L r;go_wp2_with fail
    go_quiet (fail)
    go_wp2_with fail;have J:Ñ wr wr (wr.drewN nq):=rh (Ë _ wr) nq;generalize wr.drewN nq=w1 at *;have U:=HQ.o w1.drew J.drew;have N:Hid (Ñ wr wr w1):=J;clear J
    go_region_held3 (λa=>a.cell? ⟨sb,0,Ä⟩=Â (Ã (Â ⟨g,0,Ä⟩) (ah t).length (ah t).length)/\a.cell? ⟨G,0,Ä⟩=Â (À Á p)/\a.cell? ⟨g,p*7,Ä⟩=Â (À Á q.op)/\a.cell? ⟨g,p*7+1,Ä⟩=Â (Û q.tx)/\a.cell? ⟨g,p*7+2,Ä⟩=Â (À Á q.n)/\a.cell? ⟨g,p*7+3,Ä⟩=Â (À Á q.en)/\a.cell? ⟨g,p*7+4,Ä⟩=Â (À Á q.nx)/\a.cell? ⟨g,p*7+5,Ä⟩=Â (À Á q.dp)/\a.cell? ⟨g,p*7+6,Ä⟩=Â (À Á q.lg))
     (first|with_reducible exact U|with_reducible exact V)
     ((go_at_call 232;refine(Ad.o w1.drew).mono ?_;rintro e B⟨rfl,X⟩;have I:Ñ wr wr B:=N.o.drew.trans (X.mono N.o.size);have V:=HQ.o B I))
    all_goals
     have A:=M.o.W I;have C:Hid (fZ sb g mb wd (ah t) S w B (Ã a3 (ſ D) E) G p c D):=A;have x0:=A.c0;have x1:=A.c1;have Af:Hid (∀W,aU sb g mb wd (ah t) W S->W.heap[G]?=Â (Å #[À Á p,À Á c] 280 (0,0))->W.cell? ⟨sb,2,Ä⟩=Â (.map (Â mb))/\W.cell? ⟨G,0,Ä⟩=Â (À Á p)/\W.cell? ⟨G,1,Ä⟩=Â (À Á c)/\(Instr.lookup 276 (.map (Â mb)) (ç #[À Á (p:Int),À Á (c:Int)]) é).run prog W=.ok (ç #[À Á k.o,À Á k.l,À Á k.ch,À Á k.np,À Á k.nc]) W):=λW h1 h2=>⟨h1.c2,by simp[Ô,h2],by simp[Ô,h2],Ae.o W h1⟩
     have Y:∀O,(B.alloc O).drew.heap[G]?=Â (Å #[À Á p,À Á c] 280 (0,0)):=λO=>(Ì B O G A.lt).trans A.box
     have Ao:=Af.o B.drew (A.inv.kept λ_ _=>rfl) A.box;have Ap:=λO=>Af.o (B.alloc O).drew ((A.inv.alloc O).kept λ_ _=>rfl) (Y O)
     have Ay:Hid (∀H,(B.alloc (Å #[À Á k.ch] 3)).drew.grownBy H (Ã a3 (ſ D) E).ownBlock->aU sb g mb wd (ah t) H S/\H.heap[G]?=Â (Å #[À Á p,À Á c] 280 (0,0))/\Ñ w w H):=λH hg=>by
      have A8:B.heap.size<=(B.alloc (Å #[À Á k.ch] 3)).drew.heap.size:=by show _<=(B.alloc _).heap.size;simp
      have A1:=C.o.bw.size
      have m:∀b,b<w.heap.size->Â b≠(Ã a3 (ſ D) E).ownBlock:=λb hb e=>by
       have:=yk C.o.own e.symm
       omega
      have A3:=C.o.inv.lt;refine⟨((C.o.inv.alloc (Å #[À Á k.ch] 3)).kept (w':=(B.alloc (Å #[À Á k.ch] 3)).drew) λ_ _=>rfl).kept3 (hg.block _ (by omega) (m _ Ah.1)) (hg.block _ (by omega) (m _ Ah.2.1)) (hg.block _ (by omega) (m _ Ah.2.2)),(hg.block G (by have:=C.o.lt;omega) (λe=>C.o.apart e.symm rfl)).trans (Y _),?_⟩;exact((C.o.bw.alloc A1 (Å #[À Á k.ch] 3)).drew).trans ⟨hg.os,hg.tape,hg.output,hg.size,λb a=>hg.block b (by omega) (m b a)⟩
     obtain⟨i0,As,Av,Aw,Ax⟩:=info_parts vM;have f:(B.alloc (Å #[À Á k.ch] 3)).drew.ownsRow w.heap.size 3 1 (Ã a3 (ſ D) E) (ſ D) (db D):=qA A.own λb hb=>Ì B _ b (qB A.own hb).1
     have Z:∀j u,[À Á (k.ch:Int)][j]?=Â u->(B.alloc (Å #[À Á k.ch] 3)).drew.cell? ((⟨B,0,Ä⟩:Addr).add j)=Â u:=World.news_of_block (cs:=#[À Á k.ch]) (Ò B (Å #[À Á k.ch] 3));have Ac:∀u∈[À Á (k.ch:Int)],u.oneCell'=true:=by intro u hu;simp at hu;subst hu;rfl
     have Ab:ſ D+1<=ì:=by have:=A.len;unfold ì;omega
     have Aa:(ſ D+1)*8<=140737488355328:=by have:=A.len;omega
     have y:w.heap.size<=(B.alloc (Å #[À Á k.ch] 3)).drew.heap.size:=by show _<=(B.alloc _).heap.size;have:=A.bw.size;simp;omega
     have An:(B.alloc (Å #[À Á k.ch] 3)).drew.heap.size=B.heap.size+1:=by show(B.alloc _).heap.size=_;simp
     clear A X I V U c0 p0 Y x0 x1;go_wp2_with fail
     go_region_held3 (λa=>a.cell? ⟨sb,2,Ä⟩=Â (.map (Â mb))/\a.cell? ⟨G,0,Ä⟩=Â (À Á p)/\a.cell? ⟨G,1,Ä⟩=Â (À Á c)/\(Instr.lookup 276 (.map (Â mb)) (ç #[À Á (p:Int),À Á (c:Int)]) é).run prog a=.ok (ç #[À Á k.o,À Á k.l,À Á k.ch,À Á k.np,À Á k.nc]) a)
      (first|with_reducible exact Ao|with_reducible exact Ap _|with_reducible exact Aq)
      ((refine step_append_lies _ (by rfl) _ _ 73 (by rfl) w.heap.size 3 i0 _ 1 8 Tryz.underlying73 As Av Aw Ax rfl (by decide) (Ã a3 (ſ D) E) (ſ D) (db D) (by rfl) f ⟨B,0,Ä⟩ 1 1 [À Á k.ch] (by rfl) rfl Z Ac (by decide) Ab Aa y (B.heap.size+1) An ?_;intro g3 Am H d K Ar At;obtain⟨Q,Au,z⟩:=Ay.o H K;have Aq:=Af.o H Q Au))
     all_goals
      have Al:Hid (H.ownsRow w.heap.size 3 1 (Ã (Â ⟨g3,0,Ä⟩) (ſ D+1) Am) (D++[(k.ch:Int)]).length (db (D++[(k.ch:Int)]))):=by
       show H.ownsRow _ _ _ _ _ _;rw[IL,Ó];exact d
      have Ak:Hid (aU sb g mb wd (ah t) H S):=Q;have s:Hid (Ñ w w H):=z;obtain⟨_,x0,x1,_⟩:=Aq;have m2:=λO=>ka Q.c2 O
      have hL:=λO=>Ae.o (H.alloc O).drew ((Q.alloc O).kept λ_ _=>rfl)
      clear Ao Ap d K Ar At Q Au z f Z Ac Ab Aa y An As Av Aw Ax;go_wp2_with fail
      go_region
      all_goals
       go_wp2
       go_roundw
       case rel=>
        exact⟨_,_,_,_,rfl,((i.o H _ _ (by rw[P.o];rfl) Al.o Ak.o s.o).1).W Zb.drew⟩
       case measure=>
        have h5:=(i.o H _ _ (by rw[P.o];rfl) Al.o Ak.o s.o);have e5:l7 (ah t).length (Ï (Â ⟨G,0,Ä⟩)) wr=(ah t).length-p:=rk M.o.c0;have e6:l7 (ah t).length (Ï (Â ⟨H,0,Ä⟩)) (H.alloc (Å #[À Á k.np,À Á k.nc] 280)).drew=(ah t).length-k.np:=rk h5.1.c0;have h6:=h5.2;rw[e5,e6];omega
  .have A2:¬(p:Int)<((ah t).length:Int):=by omega
   have HE:Hid (D=(vv (ah t) wd 0 0).2):=by
    have:=x.way
    rw[yA (by omega),ä]at this;exact this
   clear x;go_wp2_with fail
   go_quiet (fail)
   go_wp2;go_ret;refine⟨⟨a3,E,?_,?_⟩,?_⟩
   .rw[<-HE.o];rfl
   .rw[<-HE.o];exact qA M.o.own λ_ _=>rfl
   .exact rh M.o.bw _
end Go.Proofs.YtelcnplcpboonaaGreatDoor
namespace Go.Proofs.YtelcnplcpboonaaGreatDoor
open Go.ChangeShapes Go.WideShapes Go.RowKit
set_option maxRecDepth 100000
def kS : List (String × DataW Unit) := [("math/bits.deBruijn32tab", Rows.laid_math_bits_deBruijn32tab), ("math/bits.deBruijn64tab", Rows.laid_math_bits_deBruijn64tab), ("internal/strconv.uint64pow10", Rows.laid_internal_strconv_uint64pow10), ("unicode/utf8.acceptRanges", Rows.laid_unicode_utf8_acceptRanges), ("strconv.ErrRange", Rows.laid_strconv_ErrRange), ("strconv.ErrSyntax", Rows.laid_strconv_ErrSyntax), ("unicode.White_Space", Rows.laid_unicode_White_Space), ("strings.asciiSpace", Rows.laid_strings_asciiSpace), ("unicode/utf8.first", Rows.laid_unicode_utf8_first)]
abbrev kT : List (String × DataW Unit) := [("math/bits.deBruijn32tab", Rows.laid_math_bits_deBruijn32tab), ("math/bits.deBruijn64tab", Rows.laid_math_bits_deBruijn64tab), ("internal/strconv.uint64pow10", Rows.laid_internal_strconv_uint64pow10), ("unicode/utf8.acceptRanges", Rows.laid_unicode_utf8_acceptRanges), ("errors.errorType", Rows.laid_errors_errorType), ("strconv.ErrRange", Rows.laid_strconv_ErrRange), ("strconv.ErrSyntax", Rows.laid_strconv_ErrSyntax), ("unicode.White_Space", Rows.laid_unicode_White_Space), ("strings.asciiSpace", Rows.laid_strings_asciiSpace), ("unicode/utf8.first", Rows.laid_unicode_utf8_first)]
def qF(P:Program)(os:Os):É:=(CL P os).layVars P kS
theorem VC(D args):laidMet prog kS ((qF prog D).forCall (λ_ _=>0) ⟨#[],args,[]⟩).memory:=by
 have A:(kS.filter λx=>(kS.map (·.1)).contains x.1)=kS:=List.filter_eq_self.2 λx C=>Ý.2 (Ê.2 ⟨x,C,rfl⟩)
 have B:(kS.filter λx=>!(kS.map (·.1)).contains x.1)=[]:=List.filter_eq_nil_iff.2 λx C=>by rw[Ý.2 (Ê.2 ⟨x,C,rfl⟩)];simp
 have h:laidMet prog kS (qF prog D):=laidMet_layVars (w0:=CL prog D) (kS.map (·.1)) [] (by rw[A];rfl) (by rw[A];kernel_rfl) (by rw[A];kernel_rfl) (by rw[B];exact LaidIn.none);exact h.of_heap (by simp[World.memory,World.forCall,Input.heap])
theorem SZ(os args):((qF prog os).forCall (λ_ _=>0) ⟨#[],args,[]⟩).Shaped prog:=World.shaped_of_ZipB (by kernel_rfl) (by kernel_rfl)
theorem LH(os args):ë prog kT ((qF prog os).forCall (λ_ _=>0) ⟨#[],args,[]⟩).memory:=
 laidMetH_of_parts (VC os args) (by kernel_rfl)
theorem Ou{W}(h:ë prog kT W):gR W:=by
 have h1 := h.filter (λx => x.1 == "errors.errorType")
 have e : (kT.filter λx => x.1 == "errors.errorType") = yK := by rfl
 rw[e]at h1;exact Wa h1
theorem VD{W}(h:ë prog kT W):eo W:=by
 have h0:=(laidMetH_iff.1 h).1;refine⟨?_,?_⟩
 .have h1 := h0.filter (λx => x.1 == "internal/strconv.uint64pow10")
  have e : ((kT.filter λx => x.2.handleName?.isNone).filter λx => x.1 == "internal/strconv.uint64pow10") = [("internal/strconv.uint64pow10", Lib.tabData .u64 Lib.pow10Tab)] := by kernel_rfl
  rw[e]at h1;exact Lib.tabIs_of_head (g:=4) (t:=253) (e:=205) (n:=20) (by kernel_rfl) (by kernel_rfl) (by kernel_rfl) (by kernel_rfl) (by kernel_rfl) (by kernel_rfl) h1
 .have h1 := h0.filter (λx => x.1 == "strings.asciiSpace")
  have e : ((kT.filter λx => x.2.handleName?.isNone).filter λx => x.1 == "strings.asciiSpace") = [("strings.asciiSpace", Lib.tabData .u8 Lib.asciiSpaceTab)] := by kernel_rfl
  rw[e]at h1;exact Lib.tabIs_of_head (g:=5) (t:=292) (e:=5) (n:=256) (by kernel_rfl) (by kernel_rfl) (by kernel_rfl) (by kernel_rfl) (by kernel_rfl) (by kernel_rfl) h1
end Go.Proofs.YtelcnplcpboonaaGreatDoor
namespace Go.Proofs.YtelcnplcpboonaaGreatDoor
open Go Go.RowKit
theorem oJ{w:É}{B e A n k v G}(h:w.ownsRow B e A v n G)(E:v.ownBlock=Â k):k<w.heap.size/\∃D,w.heap[k]?=Â (Å D e (0,0)):=by
 rcases h.2 with⟨rfl,_⟩|⟨g,c,D,rfl,_,C,_⟩
 .simp[Æ]at E
 .simp only[Æ,Ç]at E;subst E;exact⟨(È.1 C).1,D,C⟩
theorem vh{w I:É}{B e A n v J}(h:w.ownsRow B e A v n J)(K:∀k,v.ownBlock=Â k->I.heap[k]?=w.heap[k]?):I.ownsRow B e A v n J:=by
 refine⟨h.1,?_⟩;rcases h.2 with E|⟨g,c,D,rfl,G,H,C⟩
 .exact .inl E
 .exact .inr ⟨g,c,D,rfl,G,(K g rfl).trans H,C⟩
theorem U8{w:É}{B H e A n v I}(h:w.ownsRow B e A v n I)(J:H<=B):w.ownsRow H e A v n I:=by
 refine⟨h.1,?_⟩;rcases h.2 with E|⟨g,c,D,rfl,G,C⟩
 .exact .inl E
 .exact .inr ⟨g,c,D,rfl,Nat.le_trans J G,C⟩
theorem Sv{w:É}{B N e K C A n S k L v M U E}(h:w.ownsRow B e C v n U)(O:w.ownsRow N K A M S E)(P:e≠K)(R:v.ownBlock=Â k)(D:M.ownBlock=Â L):k≠L:=by
 intro H;subst H;obtain⟨_,c,I⟩:=oJ h R;obtain⟨_,J,G⟩:=oJ O D;rw[I]at G;cases G;exact P rfl
theorem Ux:(prog.info? 73).map (λi=>(i.zero,i.size,i.bytes))=Â (Â (Ã Ä 0 0),1,24):=by kernel_rfl
def eX(B:Nat)(v:ê)(ls:List (List Int))(g:Option Nat)(w:É):Prop:=
 ∃b:List ê,w.ownsRow B 73 1 v (ſ ls) b/\∀i(h:i<ſ ls),∃a c,b[i]?=Â (Ã a ls[i].length c)/\w.ownsRow B 3 1 (Ã a ls[i].length c) ls[i].length (db ls[i])/\(∀k,(Ã a ls[i].length c).ownBlock=Â k->g≠Â k)
theorem eX.nil(B g w):eX B (Ã Ä 0 0) [] g w:=⟨[],World.ownsRow_nil _ _ _ _,λi h=>by simp at h⟩
theorem eX.kept{B v O g M w w'}(h:eX B v O g w)(P:∀k,k<w.heap.size->(∃K,w.heap[k]?=Â (Å K 73 (0,0)))->w'.heap[k]?=w.heap[k]?)(N:∀k,k<w.heap.size->(∃K,w.heap[k]?=Â (Å K 3 (0,0)))->g≠Â k->w'.heap[k]?=w.heap[k]?/\M≠Â k):eX B v O M w':=by
 obtain⟨J,G,I⟩:=h;refine⟨J,vh G λk L=>?_,λi hi=>?_⟩
 .obtain⟨A,C⟩:=oJ G L;exact P k A C
 .obtain⟨a,c,H,D,E⟩:=I i hi;refine⟨a,c,H,vh D λk L=>?_,λk L=>?_⟩
  .obtain⟨A,C⟩:=oJ D L;exact(N k A C (E k L)).1
  .obtain⟨A,C⟩:=oJ D L;exact(N k A C (E k L)).2
theorem eX.W{B v D g w w'}(h:eX B v D g w)(C:Ñ w w w'):eX B v D g w':=
 h.kept (λk A _=>C.block k A) (λk A _ E=>⟨C.block k A,E⟩)
theorem eX.push{B v V M l g}{w R:É}{P N O}(S:w.ownsRow B 73 1 v (ſ M) P)
  (W:∀i(h:i<ſ M),∃a c,P[i]?=Â (Ã a M[i].length c)/\w.ownsRow B 3 1 (Ã a M[i].length c) M[i].length (db M[i])/\(∀k,(Ã a M[i].length c).ownBlock=Â k->g≠Â k))
  (Y:w.ownsRow B 3 1 (Ã N (ſ l) O) (ſ l) (db l)) (G:∀k,(Ã N (ſ l) O).ownBlock=Â k->g≠Â k) (X:w.grownBy R v.ownBlock) (D:R.ownsRow B 73 1 V (ſ M+1) (P++[Ã N (ſ l) O])):eX B V (M++[l]) g R:=by
 have L:ſ P=ſ M:=by have:=S.1;omega
 have A:∀{a c}{l:List Int},w.ownsRow B 3 1 (Ã a (ſ l) c) (ſ l) (db l)->R.ownsRow B 3 1 (Ã a (ſ l) c) (ſ l) (db l):=λ{a c l}h=>
  vh h λk U=>X.block k (oJ h U).1 λe=>Sv h S (by decide) U e.symm rfl
 refine⟨P++[Ã N (ſ l) O],by rw[Ó];exact D,λi hi=>?_⟩;by_cases C:i<ſ M
 .obtain⟨a,c,I,J,K⟩:=W i C;have E:(M++[l])[i]=M[i]:=List.getElem_append_left C;rw[E];exact⟨a,c,by rw[List.getElem?_append_left (by omega)];exact I,A J,K⟩
 .have H:i=ſ M:=by simp at hi;omega
  subst H;have E:(M++[l])[ſ M]=l:=by simp
  rw[E];exact⟨N,O,by rw[List.getElem?_append_right (by omega),L];simp,A Y,G⟩
set_option maxRecDepth 100000
set_option maxHeartbeats 4000000
def tX(g:Option Nat)(w:É)(a:Option Addr)(ws:List Int):Prop:=
 ∀i(h:i<ſ ws),∃b o,a=Â ⟨b,o,Ä⟩/\b<w.heap.size/\Â b≠g/\w.cell? ⟨b,o+i,Ä⟩=Â (À Á ws[i])
theorem tX.ints{g w a ws}(h:tX g w a ws):eE w a ws:=by
 intro i B;obtain⟨b,o,e,A,_,c⟩:=h i B;exact⟨b,o,e,A,c⟩
def eW(g:Option Nat)(w:É)(a:Option Addr)(ls:List (List Int)):Prop:=
 ∀i(h:i<ſ ls),∃b o c d,a=Â ⟨b,o,Ä⟩/\b<w.heap.size/\Â b≠g/\w.cell? ⟨b,o+i,Ä⟩=Â (Ã c ls[i].length d)/\ls[i].length<=d/\tX g w c ls[i]/\(c=Ä->ls[i]=[]/\d=0)
theorem eW.kept{g w w' a R}(h:eW g w a R)(U:w.heap.size<=w'.heap.size)(P:∀k,k<w.heap.size->Â k≠g->w'.heap[k]?=w.heap[k]?):eW g w' a R:=by
 intro i O;obtain⟨b,o,E,G,e,K,C,c,L,M,N⟩:=h i O;refine⟨b,o,E,G,e,by omega,C,(Þ (w:=w) (a:=(b,o+i)) (P b K C)).trans c,L,λj S=>?_,N⟩;obtain⟨A,D,I,J,B,H⟩:=M j S;exact⟨A,D,I,by omega,B,(Þ (w:=w) (a:=(A,D+j)) (P A J B)).trans H⟩
theorem eW.W{g w w' a B}(h:eW g w a B)(A:Ñ w w w'):eW g w' a B:=h.kept A.size λk C _=>A.block k C
theorem eW.new{g P w a S}(h:eW g w a S)(R:∀k,P=Â k->w.heap.size<=k):eW P w a S:=by
 intro i L;obtain⟨b,o,B,C,e,H,O,c,I,J,K⟩:=h i L;refine⟨b,o,B,C,e,H,λq=>by have:=R b q.symm;omega,c,I,λj U=>?_,K⟩;obtain⟨A,M,E,G,N,D⟩:=J j U;exact⟨A,M,E,G,λq=>by have:=R A q.symm;omega,D⟩
theorem eX.waysN{B a n c f g m w}(h:eX B (Ã a n c) f m w)(l:∀k,g=Â k->k<B):n=ſ f/\eW g w a f:=by
 obtain⟨e,Q,R⟩:=h;rcases Q.2 with⟨D,P⟩|⟨I,Z,M,D,d,C,S,_,U,A⟩
 .simp only[Value.slice.injEq]at D;obtain⟨rfl,rfl,rfl⟩:=D;exact⟨P.symm,λi a=>by omega⟩
 .simp only[Value.slice.injEq]at D;obtain⟨rfl,rfl,rfl⟩:=D;refine⟨rfl,λi hi=>?_⟩;obtain⟨J,K,G,H,_⟩:=R i hi;obtain⟨_,_,W,X,Y⟩:=AL H;refine⟨I,0,J,K,rfl,(È.1 C).1,λq=>by have:=l I q.symm;omega,?_,W,λj o=>?_,Y⟩
  .rw[<-A,List.getElem?_take_of_lt (by omega)]at G;rw[Nat.zero_add];simp only[Ô,C];simpa using G
  .obtain⟨E,V,N,O,L⟩:=X j o;subst N;refine⟨E,V,rfl,O,λq=>?_,L⟩;have b:=(H.lt E rfl).1
   have:=l E q.symm
   omega
def Qe(B:Nat)(g0:Option Nat)(ls ms:List (List Int))(c:Int)(w:É)(vo vi:ê)(wr:É):Prop:=
 ∃(k:Nat)(av:Option Addr)(cv:Nat),k<=ſ ms/\vi=À Á k/\vo=Ã av (ſ ls+k) cv/\eX B (Ã av (ſ ls+k) cv) (ls++(ms.take k).map (c::·)) Ä wr/\w.grownBy wr g0/\((Ã av (ſ ls+k) cv).ownBlock=g0\/∀j,(Ã av (ſ ls+k) cv).ownBlock=Â j->w.heap.size<=j)
theorem pS(B v ls ms)(c:Int)(a ca w)(hG:eX B v ls Ä w)(hM:eW v.ownBlock w a ms)(hB:B<=w.heap.size)(hl:ſ ls+ſ ms<=1000)(hx:∀x∈ms,ſ x<=1000):
  Calls prog 160 #[v,c,Ã a (ſ ms) ca] w λe a=>∃b,e=.returned b/\eX B b (ls++ms.map (c::·)) Ä a/\w.grownBy a v.ownBlock/\(b.ownBlock=v.ownBlock\/∀k,b.ownBlock=Â k->w.heap.size<=k):=by
 obtain⟨i1,Ag,Ak,Al,Am⟩:=info_parts Ux;have t:=aa hG;have HM:=aa hM;have HX:=aa hx
 obtain⟨Y,b,rfl⟩:∃a b,v=Ã a (ſ ls) b:=by
  obtain⟨xs,d,_⟩:=hG;rcases d.2 with⟨O,h0⟩|⟨g,c,Ad,O,_⟩
  .exact⟨Ä,0,by rw[O,h0]⟩
  .exact⟨_,c,O⟩
 generalize Af:(Ã Y (ſ ls) b).ownBlock=g0 at HM;have HV:=aa Af;go_in;go_wp2
 go_loopw [0,7] (λa b wr=>Qe B g0 ls ms c w a b wr) (λ_ a _=>ſ ms-(intOf a).toNat)
 case atStart=>exact⟨0,Y,b,ã _,rfl,rfl,by simpa using t.o,⟨rfl,rfl,rfl,Ö _,λ_ _ _=>rfl⟩,.inl HV.o⟩
 case round=>
  obtain⟨k,av,cv,hk,rfl,rfl,hG,n,Ae⟩:=hrel;have HG:=aa hG;have D:=aa n;have J:=aa Ae;have Aj:=n.size;by_cases L:k<ſ ms
  .have Ap:(k:Int)<(ſ ms:Int):=by omega
   obtain⟨b1,o1,a4,d1,ea,Ao,_,c1,_,i4,I⟩:=(HM.o.kept Aj λj a b=>D.o.block j a b) k L;subst ea;have Ai:=HX.o _ (List.getElem_mem L);have p:(ms.take (k+1)).map (c::·)=(ms.take k).map (c::·)++[c::ms[k]]:=by rw[List.take_add_one,List.getElem?_eq_getElem L,List.map_append];rfl
   have S:=aa i4.ints;generalize ms[k]=m at c1 Ai p S I;have Aa:=aa p;have V:=aa I
   have HO:Hid ((wr.alloc (Å #[c] 3)).ownsRow wr.heap.size 3 1 (Ã wr.heap.size 1 1) 1 (db [c])):=
    ⟨rfl,.inr ⟨wr.heap.size,1,#[c],rfl,Ö _,Ò wr _,Ö _,by unfold ì;decide,rfl,rfl⟩⟩
   go_wp2_with(at_builtin;refine V2 rfl _ _ rfl wr.heap.size _ _ [c] rfl HO.o a4 m d1 rfl (S.o.W ((Ë _ wr).alloc Zl _)) V.o (by omega) (by simp) ?_);intro v5 N C H;have K:=((Ë _ wr).alloc Zl _).grown H (by simp) (λj hj=>by simp only[Æ,Ç]at hj;omega)
   obtain⟨r,s,rfl⟩:∃r s,v5=Ã r (c::m).length s:=by
    rcases C.2 with⟨O,h0⟩|⟨g,q,Ad,O,_⟩
    .omega
    .exact⟨_,q,by rw[O];congr 1;simp;omega⟩
   have X:Hid (N.ownsRow B 3 1 (Ã r (c::m).length s) (c::m).length (db (c::m))):=by
    show N.ownsRow _ _ _ _ _ _;have e1:(c::m).length=1+ſ m:=by simp;omega
    rw[e1]at C⊢;exact U8 C (by omega)
   obtain⟨xs,hx,f⟩:=HG.o.W K;have o:(ls++(ms.take k).map (c::·)).length=ſ ls+k:=by simp;omega
   have z:=aa o;have Ab:=aa hx
   have Ac:Hid (N.ownsRow B 73 1 (Ã av (ſ ls+k) cv) (ſ ls+k) xs):=by
    have:=hx
    rw[o]at this;exact this
   have P:=(show Hid (∀i(h:i<(ls++(ms.take k).map (c::·)).length),∃a Z,xs[i]?=Â (Ã a (ls++(ms.take k).map (c::·))[i].length Z)/\N.ownsRow B 3 1 (Ã a (ls++(ms.take k).map (c::·))[i].length Z) (ls++(ms.take k).map (c::·))[i].length (db (ls++(ms.take k).map (c::·))[i])/\(∀j,(Ã a (ls++(ms.take k).map (c::·))[i].length Z).ownBlock=Â j->(Ä:Option Nat)≠Â j))from f);have Aq:=K.size;have G:=aa K;generalize Ah:(c::m).length=nl at X;have U:=aa Ah;go_wp2_with(at_builtin;refine wpList_append_lies _ rfl _ _ 156 rfl B 73 i1 _ 1 24 Tryz.underlying156 Ag Ak Al Am rfl (by decide) _ _ _ rfl (Ac.o.alloc _) N.heap.size 1 1 [Ã r nl s] rfl rfl (cell_one_new N _ _) (by intro u hu;simp at hu;subst hu;rfl) (by decide) (by unfold ì;omega) (by omega) (by simp;omega) (N.heap.size+1) (by simp) ?_);intro g6 E w6 M A l An
   have y:Hid (eX B (Ã g6 (ſ ls+(k+1)) E) (ls++(ms.take (k+1)).map (c::·)) Ä w6):=by
    show eX _ _ _ _ _;rw[Aa.o,<-Õ];have ho:=X.o;rw[<-U.o]at ho;refine eX.push (Ab.o.alloc _) (λi hi=>?_) (ho.alloc _) (λ_ _=>by simp) A (by rw[z.o,U.o,<-Nat.add_assoc];exact M);obtain⟨a',Z,e1,e2,e3⟩:=P.o i hi;exact⟨a',Z,e1,e2.alloc _,e3⟩
   have R:Hid (w.grownBy w6 g0):=by
    refine⟨A.os.trans (G.o.os.trans D.o.os),A.tape.trans (G.o.tape.trans D.o.tape),A.output.trans (G.o.output.trans D.o.output),?_,λj hj hne=>?_⟩
    .have:=A.size
     simp at this;omega
    .refine(A.block j (by simp;omega) ?_).trans ((Ì _ _ _ (by omega)).trans ((G.o.block j (by omega)).trans (D.o.block j hj hne)));intro e;rcases J.o with h|h
     .exact hne (e.trans h)
     .have:=h j e.symm
      omega
   have Q:Hid ((Ã g6 (ſ ls+(k+1)) E).ownBlock=g0\/∀j,(Ã g6 (ſ ls+(k+1)) E).ownBlock=Â j->w.heap.size<=j):=by
    rcases l with h|h
    .rcases J.o with d|d
     .exact .inl (h.symm.trans d)
     .exact .inr λj hj=>d j (h.trans hj)
    .refine .inr λj hj=>?_
     simp only[Æ,Ç]at hj;omega
   go_wp2
   go_roundw
   case rel=>exact⟨k+1,_,_,by omega,by go_num,rfl,y.o,R.o,Q.o⟩
   case measure=>simp[intOf];omega
  .obtain rfl:k=ſ ms:=by omega
   go_wp2;go_ret;have hG:=HG.o;rw[List.take_length]at hG;exact⟨_,rfl,hG,D.o,J.o⟩
end Go.Proofs.YtelcnplcpboonaaGreatDoor
namespace Go.Proofs.YtelcnplcpboonaaGreatDoor
def eh(l L:List (List Int)):Prop:=l.take 301=L.take 301
theorem eh.cut(l):eh (l.take 301) l:=by
 unfold eh;rw[æ,Nat.min_self]
theorem eh.or{l L}(h:eh l L):l=L\/(301<=ſ l/\301<=ſ L):=by grind [eh,List.length,Ù,List.take_of_length_le]
theorem eh.map{l L}(h:eh l L)(f:List Int->List Int):eh (l.map f) (L.map f):=by
 unfold eh at *;rw[<-è,<-è,h]
theorem eh.app{l L m M}(h:eh l L)(k:eh m M):eh (l++m) (L++M):=by
 rcases h.or with rfl|⟨A,B⟩
 .unfold eh at *;rw[á,á]
  congr 1
  have e:∀x:List (List Int),x.take (301-ſ l)=(x.take 301).take (301-ſ l):=λx=>by rw[æ];congr 1;omega
  rw[e m,e M,k]
 .unfold eh at *;rw[Ð A,Ð B,h]
theorem eh.flat{l L:List (List Int)}(h:eh l L):∀A:List (List Int),eh (A.flatMap λu=>l.map (u++·)) (A.flatMap λu=>L.map (u++·))
 | []=>rfl
 | u::A=>by
  rw[Ø,Ø];exact(h.map _).app (h.flat A)
def Tr.tl:Tr->List (List Int)->List (List Int)
 | .leaf _,bs=>bs
 | .one x a,bs=>if x.op=7 then a.tl bs else((if a.isFlat=Ú then bs.map (0::·)else [])++(a.tl bs).map (1::·)).take 301
 | .two x a b,bs=>if x.op=6 then a.tl (b.tl bs)else((a.tl bs).map (0::·)++(b.tl bs).map (1::·)).take 301
theorem oO:∀(t:Tr)(bs:List (List Int)),eh (t.tl bs) (t.ways.flatMap λu=>bs.map (u++·))
 | .leaf x,bs=>by simp only[Tr.tl,Tr.ways,Ø,List.flatMap_nil,ä];simp[eh]
 | .one x a,bs=>by
  have ih:=oO a bs;simp only[Tr.tl,Tr.ways]
  split
  .exact ih
  .refine(eh.cut _).trans ?_;rw[à];refine eh.app ?_ ?_
   .split
    .simp[eh]
    .simp[eh]
   .have e:(a.ways.map (1::·)).flatMap (λu=>bs.map (u++·))=(a.ways.flatMap λu=>bs.map (u++·)).map (1::·):=by
     rw[Í,Î]
     congr 1
     funext u
     rw[Ü];rfl
    rw[e];exact ih.map _
 | .two x a b,bs=>by
  simp only[Tr.tl,Tr.ways]
  split
  .have e:(a.ways.flatMap λu=>b.ways.map (u++·)).flatMap (λu=>bs.map (u++·))=a.ways.flatMap λu=>(b.ways.flatMap λv=>bs.map (v++·)).map (u++·):=by
    rw[List.flatMap_assoc]
    congr 1
    funext u
    rw[Í,Î]
    congr 1
    funext v
    rw[Ü]
    congr 1
    funext z
    exact Õ u v z
   rw[e];exact(oO a (b.tl bs)).trans ((oO b bs).flat a.ways)
  .refine(eh.cut _).trans ?_
   have A:(a.ways.map (0::·)).flatMap (λu=>bs.map (u++·))=(a.ways.flatMap λu=>bs.map (u++·)).map (0::·):=by
    rw[Í,Î]
    congr 1
    funext u
    rw[Ü];rfl
   have B:(b.ways.map (1::·)).flatMap (λu=>bs.map (u++·))=(b.ways.flatMap λu=>bs.map (u++·)).map (1::·):=by
    rw[Í,Î]
    congr 1
    funext u
    rw[Ü];rfl
   rw[à,A,B];exact((oO a bs).map _).app ((oO b bs).map _)
theorem LR(t:Tr):eh (t.tl [[]]) t.ways:=by
 have h:=oO t [[]]
 have e:(t.ways.flatMap λu=>[[]].map (u++·))=t.ways:=by
  simp
 rw[e]at h;exact h
theorem PT(t:Tr):(ſ t.ways<=300/\t.tl [[]]=t.ways)\/(300<ſ t.ways/\300<(t.tl [[]]).length):=by
 rcases(LR t).or with h|⟨B,C⟩
 .by_cases A:ſ t.ways<=300
  .exact .inl ⟨A,h⟩
  .exact .inr ⟨by omega,by rw[h];omega⟩
 .exact .inr ⟨by omega,by omega⟩
theorem rG:∀(t:Tr)(bs:List (List Int)),ſ bs<=301->(t.tl bs).length<=301
 | .leaf x,bs,h=>h
 | .one x a,bs,h=>by
  simp only[Tr.tl]
  split
  .exact rG a bs h
  .rw[Ù];omega
 | .two x a b,bs,h=>by
  simp only[Tr.tl]
  split
  .exact rG a _ (rG b bs h)
  .rw[Ù];omega
theorem qk:∀(t:Tr)(bs:List (List Int))(m:Nat),(∀x∈bs,ſ x<=m)->∀x∈t.tl bs,ſ x<=m+ſ t.N
 | .leaf x,bs,m,h,y,hy=>by have:=h y hy;omega
 | .one x a,bs,m,h,y,hy=>by
  have ih:=qk a bs m h;simp only[Tr.tl]at hy;simp only[Tr.N,â]
  split at hy
  .have:=ih y hy;omega
  .have hy:=ß hy;rcases å.1 hy with hy|hy
   .split at hy
    .obtain⟨z,A,rfl⟩:=Ê.1 hy
     have:=h z A
     simp;omega
    .simp at hy
   .obtain⟨z,A,rfl⟩:=Ê.1 hy
    have:=ih z A
    simp;omega
 | .two x a b,bs,m,h,y,hy=>by
  have C:=qk a bs m h;have B:=qk b bs m h;simp only[Tr.tl]at hy;simp only[Tr.N,â,Ó]
  split at hy
  .have:=qk a (b.tl bs) _ B y hy;omega
  .have hy:=ß hy;rcases å.1 hy with hy|hy
   .obtain⟨z,A,rfl⟩:=Ê.1 hy
    have:=C z A
    simp;omega
   .obtain⟨z,A,rfl⟩:=Ê.1 hy
    have:=B z A
    simp;omega
