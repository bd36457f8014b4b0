/- Texts as one: SyN, RdA, RdB. -/
import Derived.Test.YthjapabokcajhaaGreatDoorPi36
open Go.Proofs.Tryz
namespace Go.Proofs.YthjapabokcajhaaGreatDoor
open Go Go.RowKit
set_option maxRecDepth 100000
set_option maxHeartbeats 4000000
theorem j4n(s:ByteArray)(w:World):Calls prog 70 #[.slice none 0 0,.string s] w fun e w'=>e=.returned (.string ⟨#[]⟩)/\Below w w w':=by
 go_in;go_wp2;go_ret;exact⟨rfl,Below.refl _ _⟩
theorem z4y{B:Nat}{w:World}{A:Option Addr}{n c:Nat}{xs:List ByteArray}(h:q2r B (.slice A n c) xs w):n=xs.length/\n<=c/\((A=none/\n=0/\c=0)\/∃g,A=some ⟨g,0,none⟩/\g<w.heap.size):=by
 rcases h.2 with⟨hv,h0⟩|⟨g,c',cur,hv,_,hg,hnc,_⟩
 ·simp only[Value.slice.injEq]at hv;obtain⟨rfl,rfl,rfl⟩:=hv;exact⟨h0.symm,Nat.le_refl _,.inl ⟨rfl,rfl,rfl⟩⟩
 ·simp only[Value.slice.injEq]at hv;obtain⟨rfl,rfl,rfl⟩:=hv;exact⟨rfl,hnc,.inr ⟨g,rfl,(Array.getElem?_eq_some_iff.1 hg).1⟩⟩
theorem j4m{B:Nat}{A:Option Addr}{n c:Nat}{W:List Wd}{w:World}(h:q2r B (.slice A n c) (W.map wbS) w)(hs:szW W<=1000000):Calls prog 70 #[.slice A n c,.string ⟨#[32]⟩] w fun e w'=>e=.returned (.string (wbS (jb W)))/\Below w w w':=by
 obtain⟨hn,hc,hA⟩:=z4y h;have hl:=z9m W;have hj:=v9y W;have hml:(W.map wbS).length=W.length:=List.length_map ..;rcases hA with⟨rfl,rfl,rfl⟩|⟨g,rfl,hg⟩
 ·have:W=[]:=List.eq_nil_of_length_eq_zero (by omega)
  subst this;exact j4n _ w
 ·subst hn
  have e1:(W.map wbS).map (fun x=>x.data.toList)=W:=by
   rw[List.map_map];exact List.map_id W
  have e2:Lib.join ((W.map wbS).map (fun x=>x.data.toList)) (⟨#[32]⟩:ByteArray).data.toList=jb W:=by
   rw[e1];exact j4i W
  have h1:=join_sh g 0 c (W.map wbS) ⟨#[32]⟩ w ?_ hg (by omega) hc (by rw[e2];omega)
  ·rw[e2]at h1;exact h1
  ·intro j x hx;obtain⟨hj,rfl⟩:=List.getElem?_eq_some_iff.1 hx;obtain⟨b',o',e,_,c1⟩:=q4g h j hj;simp only[Option.some.injEq,Addr.mk.injEq,and_true]at e;obtain⟨rfl,rfl⟩:=e;exact c1
theorem y2l{w:Wd}{S:ByteArray}(h:wbS w=S):S.extract 1 S.size=wbS (w.drop 1):=by
 subst h;rw[q9s]
 congr 1
 rw[List.take_of_length_le]
 ·rfl
 ·rw[List.length_drop,q0c];omega
theorem k8p{x:Wd}(hx:v6t x)(hl:x.length<=60000)(w:World)(ht:z5t w):Calls prog 103 #[.string (wbS (x.drop 1))] w fun e w'=>∃g,e=.returned (.slice (some ⟨g,0,none⟩) (q9u x).length (q9u x).length)/\Wds w' (some ⟨g,0,none⟩) ((q9u x).map wbS)/\Below w w w':=by
 have hb:btL (wbS (x.drop 1))=x.drop 1:=rfl;refine(fields_sh (wbS (x.drop 1)) w (by rw[<-q0c,hb,List.length_drop];omega) ?_ ht.spc).mono ?_
 ·intro j c hj;have hm:c∈x:=List.mem_of_mem_drop (List.mem_of_getElem? (show(x.drop 1)[j]?=some c from hj))
  have:=hx.2 c hm
  simp only[prB,Bool.and_eq_true,decide_eq_true_eq]at this;omega
 ·rintro e w'⟨rfl,rfl⟩;refine⟨w.heap.size,rfl,?_,q3p w _⟩;intro i hi;have hi2:i<(q9u x).length:=by simpa using hi
  refine⟨w.heap.size,0,rfl,by rw[World.size_alloc];omega,?_⟩;rw[Nat.zero_add];have hk:=heap_alloc_new w (.cells ((Lib.fields (btL (wbS (x.drop 1)))).map fun l=>Value.string ⟨l.toArray⟩).toArray 9);rw[Lib.cell_of_heap hk]
  show((Lib.fields (x.drop 1)).map fun l=>Value.string ⟨l.toArray⟩).toArray[i]?=_
  rw[List.getElem?_toArray,List.getElem?_map,show(Lib.fields (x.drop 1))[i]?=some (q9u x)[i]from List.getElem?_eq_getElem hi2];simp[wbS]
theorem k1s:∀(ws:List Wd)(x:Wd),x∈ws->x.length<=(ws.map List.length).sum
 | y::r,x,h=>by
  rw[List.map_cons,List.sum_cons];rcases List.mem_cons.1 h with rfl|h
  ·omega
  ·have:=k1s r x h
   omega
structure y7h(K:LwK)(ws:List Wd)(pl:Nat->Nat)(b p:Nat)(w:World)(q:Nat)(W:List Wd)(v:Value)(wr:World):Prop where
 pq:p<=q
 o:q2r w v (W.map wbS) wr
 rd:Ry K ws pl b q wr
 bt:But w b w wr
 eq:W=((ws.drop p).take (q-p)).flatMap q9u
 nt:∀x∈(ws.drop p).take (q-p),v6t x
structure y3b(K:LwK)(ws:List Wd)(pl:Nat->Nat)(b p:Nat)(w:World)(q:Nat)(n:Bool)(t:List Td)(v:Value)(w':World):Prop where
 lt:p<q
 o:q0x w v t w'
 ne:t≠[]
 l:t.length<=100000
 rd:Ry K ws pl b q w'
 bt:But w b w w'
 pg:∀pv acc r,(pv=true->∀x,ws[p]?=some x->x.headD 0≠35)->PG n (acc++[t]) (ws.drop q) r->PG pv acc (ws.drop p) r
 nx:n=true->∀x,ws[q]?=some x->x.headD 0≠35
inductive z5s (K:LwK) (ws:List Wd) (pl:Nat->Nat) (b p:Nat) (w:World):Ending->World->Prop where
 | ok {q n t A c w'} (h:y3b K ws pl b p w q n t (.slice A t.length c) w'):z5s K ws pl b p w (.returned (.slice A t.length c)) w'
 | bad {u w'} (pg:∀pv acc,PG pv acc (ws.drop p) (.bad u)) (bt:But w b w w'):z5s K ws pl b p w (.panicked [q5h (pl (ws.length-u.length))]) w'
theorem z9n{ws:List Wd}{p q:Nat}(h:p<=q)(hq:q<ws.length):(ws.drop p).take (q+1-p)=(ws.drop p).take (q-p)++[ws[q]]:=by
 rw[show q+1-p=q-p+1 by omega,List.take_succ_eq_append_getElem (by rw[List.length_drop];omega)]
 congr 2
 rw[List.getElem_drop]
 congr 1
 omega
theorem k8o(ws:List Wd){p q:Nat}(h:p<=q):ws.drop p=(ws.drop p).take (q-p)++ws.drop q:=by
 have e:ws.drop q=(ws.drop p).drop (q-p):=by rw[List.drop_drop];congr 1;omega
 rw[e,List.take_append_drop]
theorem j0v{K:LwK}{ws:List Wd}{pl:Nat->Nat}{b p:Nat}{w:World}(htk:∀x∈ws,q3k x)(htot:(ws.map List.length).sum<=60000)(hp:p<ws.length)(hn:ws[p].headD 0=35)(hbV:∀w',But w b w w'->z5t w')(h:Ry K ws pl b p w):
  Calls prog 126 #[.pointer b] w fun e w'=>z5s K ws pl b p w e w':=by
 have HTK:=hid htk;have HTV:=hid hbV
 have HLW:Hid (∀x∈ws,x.length<=60000):=fun x hx=>by
  have:=k1s ws x hx
  omega
 have HSZ:Hid (∀q,szW (((ws.drop p).take (q-p)).flatMap q9u)<=120000):=fun q=>by
  have h1:=j3z ((ws.drop p).take (q-p));have h2:=v4x ws p (q-p);omega
 have hbw:=h.row.lt;have hgw:=h.gwlt;have hga:=h.galt;have HV0:Hid (y7h K ws pl b p w p [] (.slice none 0 0) w):=⟨Nat.le_refl _,World.ownsRow_nil _ _ _ _,h,But.refl _ _ _,by simp,fun x hx=>by simp at hx⟩;clear h htk hbV;go_in;go_wp2_with fail
 go_loopw [3] (fun x wr=>∃(q:Nat)(W:List Wd)(A:Option Addr)(n c:Nat),x=.slice A n c/\W.length=n/\y7h K ws pl b p w q W (.slice A n c) wr) (fun _ wr=>k4u wr b)
 case atStart=>exact⟨p,[],_,_,_,rfl,rfl,HV0.o⟩
 case round=>
  obtain⟨q,W,A,n,c,rfl,hWn,hV⟩:=hrel;have hqle:=hV.rd.le;have HV:=(show Hid (_)from hV);have HWN:=hid hWn;have hwb:=hV.bt.size;have HL1:Hid (Calls prog 80 #[.pointer b] wr fun e w'=>e=.returned (.string (wbS (ws.getD q [])))/\wr=w'):=(q6k hV.rd).mono fun _ _ h=>⟨h.1,h.2.symm⟩
  have HL2:Hid (Calls prog 125 #[.string (wbS (ws.getD q []))] wr fun e w'=>e=.returned (.bool (decide ((ws.getD q []).headD 0=35)))/\wr=w'):=(z5q _ wr).mono fun _ _ h=>⟨h.1,h.2.symm⟩
  by_cases hnt:(ws.getD q []).headD 0=35
  ·have hq:q<ws.length:=by
    rcases Nat.lt_or_ge q ws.length with h'|h'
    ·exact h'
    ·rw[q6r h']at hnt;simp at hnt
   rw[decide_eq_true hnt]at HL2;rw[q3v hq]at hnt HL1 HL2;have hisn:=y5v (HTK.o _ (List.getElem_mem hq)) hnt;have HN:=hid (q8i hV.rd hq)
   have hszx:1<=(wbS ws[q]).size:=by
    have:=j9g (HTK.o _ (List.getElem_mem hq))
    rw[<-q0c];exact this
   have HF:Hid (∀W',But w b w W'->Calls prog 103 #[.string ((wbS ws[q]).extract 1 (wbS ws[q]).size)] W' fun e w'=>∃g,e=.returned (.slice (some ⟨g,0,none⟩) (q9u ws[q]).length (q9u ws[q]).length)/\Wds w' (some ⟨g,0,none⟩) ((q9u ws[q]).map wbS)/\Below W' W' w'):=fun W' hB=>by
    rw[y2l rfl];exact k8p hisn (HLW.o _ (List.getElem_mem hq)) W' (HTV.o W' hB)
   have hsz:=HSZ.o (q+1);rw[z9n hV.pq hq,List.flatMap_append,<-hV.eq,List.flatMap_singleton,k4z]at hsz;have hl1:=z9m W;have hl2:=z9m (q9u ws[q]);have hnl:n+(q9u ws[q]).length<=1000000:=by omega
   have HX:Hid (∀A2 c2 w2,q2r w (.slice A2 (n+(q9u ws[q]).length) c2) (W.map wbS++(q9u ws[q]).map wbS) w2->Ry K ws pl b (q+1) w2->But w b w w2->(W++q9u ws[q]).length=n+(q9u ws[q]).length/\y7h K ws pl b p w (q+1) (W++q9u ws[q]) (.slice A2 (n+(q9u ws[q]).length) c2) w2):=fun A2 c2 w2 h1 h2 h3=>by
    refine⟨by rw[List.length_append,HWN.o],Nat.le_succ_of_le HV.o.pq,by rw[List.map_append];exact h1,h2,h3,?_,?_⟩
    ·rw[z9n HV.o.pq hq,List.flatMap_append,<-HV.o.eq,List.flatMap_singleton]
    ·rw[z9n HV.o.pq hq];intro x hx;rcases List.mem_append.1 hx with hx|hx
     ·exact HV.o.nt x hx
     ·rw[List.mem_singleton]at hx;rw[hx];exact hisn
   have HFL:Hid (((q9u ws[q]).map wbS).length=(q9u ws[q]).length):=List.length_map ..;have HML:Hid ((W.map wbS).length=n):=(show _=_ by rw[List.length_map];exact hWn);generalize wbS ws[q]=S at HL1 HL2 HN HF hszx
   generalize(q9u ws[q]).map wbS=FS at HF HX HFL
   generalize(q9u ws[q]).length=fn at HF HX hnl HFL hsz hl2
   clear hV hWn hnt hisn hsz hl1 hl2;go_wp2_with fail;refine HL1.o.mono ?_;rintro e w1⟨rfl,rfl⟩;go_wp2_with fail;refine HL2.o.mono ?_;rintro e w1⟨rfl,rfl⟩;go_wp2_with fail;refine HN.o.mono ?_;rintro e w3⟨rfl,h3,b3⟩;have hs3:=b3.size;have HB3:=hid (HV.o.bt.trans (b3.mono hwb));have HR3:=hid h3
   have HO3:Hid (q2r w (.slice A n c) (W.map wbS) w3):=by
    refine⟨HV.o.o.1,?_⟩;rcases HV.o.o.2 with h0|⟨g,c',cur,hv,hB,hg,rest⟩
    ·exact .inl h0
    ·exact .inr ⟨g,c',cur,hv,hB,(b3.block g (Array.getElem?_eq_some_iff.1 hg).1 (by omega)).trans hg,rest⟩
   clear h3 b3 HN HL1 HL2;go_wp2_with fail;refine(HF.o w3 HB3.o).mono ?_;rintro e w4⟨g,rfl,hW4,b4⟩;have hs4:=b4.size;have HO4:=hid (q3n HO3.o b4);have HW4:=hid hW4;have HR4:=hid (HR3.o.keep b4);have HB4:=hid (HB3.o.trans (But.of (b4.mono (by omega))));have hb4:=HR4.o.row.lt;clear hW4 b4 HO3 HR3 HB3;go_wp2_with(at_builtin;refine k5n rfl _ _ rfl w.heap.size _ (W.map wbS) rfl HO4.o (some ⟨g,0,none⟩) fn FS HFL.o fn rfl HW4.o (fun e=>by cases e) (n+fn) (by rw[HML.o]) hnl (by omega) ?_);intro A5 c5 w5 hown5 hgrow5;have hX5:=HX.o A5 c5 w5 hown5 ?rd5 ?bt5
   case rd5=>exact HR4.o.keepB ((Below.refl w.heap.size w4).grown hgrow5 (by omega) (fun k hk=>(World.ownsRow.lt HO4.o k hk).1)) hbw hgw hga
   case bt5=>exact HB4.o.grown hgrow5 (by omega) (fun k hk=>(World.ownsRow.lt HO4.o k hk).1)
   have HX5:=(show Hid (_)from hX5);clear hX5 hown5 hgrow5;go_wp2;refine⟨⟨q+1,_,A5,n+fn,c5,rfl,HX5.o.1,HX5.o.2⟩,?_⟩;rw[HX5.o.2.rd.len_eq,HV.o.rd.len_eq];omega
  ·rw[decide_eq_false hnt]at HL2
   have hpq:p<q:=by
    rcases Nat.eq_or_lt_of_le hV.pq with e|e
    ·subst e;rw[q3v hp]at hnt;exact absurd hn hnt
    ·exact e
   have hszq:=HSZ.o q;rw[<-hV.eq]at hszq;have HJ:=hid (j4m hV.o (by omega))
   have HX:Hid (∀w1,Below wr wr w1->z5s K ws pl b p w (.returned (.slice w1.heap.size 1 1)) (w1.alloc (.cells #[.int .i64 9,.string (wbS (jb W)),.int .i64 0] 47))):=fun w1 hb1=>by
    have hV:=HV.o;have hs1:=hb1.size;have hbt:=hV.bt.trans (But.of (hb1.mono hwb));refine z5s.ok (q:=q) (n:=true) (t:=[ntT (jb W)]) ⟨hpq,(q0x.one w1 (ntT (jb W))).down (by omega),by simp,by simp,(hV.rd.keep hb1).keep (q3p w1 _),hbt.alloc (by omega) _,fun pv acc r hpv hr=>?_,fun _ x hx=>?_⟩
    ·have hpf:pv=false:=by
      cases pv with
      | false=>rfl
      | true=>exact absurd hn (hpv rfl _ (List.getElem?_eq_getElem hp))
     subst hpf;rw[k8o ws hV.pq];refine v3z (fun e=>?_) hV.nt ?_
     ·have:=congrArg List.length e
      rw[List.length_take,List.length_drop]at this;simp only[List.length_nil]at this;omega
     ·rw[<-hV.eq];exact hr
    ·obtain⟨hq,rfl⟩:=List.getElem?_eq_some_iff.1 hx;rw[q3v hq]at hnt;exact hnt
   generalize wbS (jb W)=J at HJ HX;generalize wbS (ws.getD q [])=S at HL1 HL2;clear hV hWn hnt hszq;go_wp2_with fail;refine HL1.o.mono ?_;rintro e w1⟨rfl,rfl⟩;go_wp2_with fail;refine HL2.o.mono ?_;rintro e w1⟨rfl,rfl⟩;go_wp2_with fail;refine HJ.o.mono ?_;rintro e w1⟨rfl,b1⟩;have HX1:=(show Hid (_)from HX.o w1 b1);clear b1;go_wp2;go_ret;exact HX1.o
structure Rd(w:World)(b:Nat)(A:Option Addr)(c:Nat)(ws:List Wd)(at_:Nat)(bad:Bool):Prop where
 c0:w.cell? ⟨b,0,none⟩=some (.slice A ws.length c)
 c1:w.cell? ⟨b,1,none⟩=some (.int .i64 (at_:Int))
 c2:w.cell? ⟨b,2,none⟩=some (.bool bad)
 row:z9t w b 3
 wd:Wds w A (ws.map wbS)
 lt:∀ba oa,A=some ⟨ba,oa,none⟩->ba<b
theorem j9u{w:World}{A:Option Addr}{xs:List ByteArray}(h:Wds w A xs){b k:Nat}{v:Value}(lt:∀ba oa,A=some ⟨ba,oa,none⟩->ba<b):Wds (w.setCell ⟨b,k,none⟩ v) A xs:=by
 intro i hi;obtain⟨ba,oa,e,hlt,c1⟩:=h i hi;exact⟨ba,oa,e,by rw[World.size_setCell];exact hlt,by rw[cso (.inl (by have:=lt ba oa e;omega))];exact c1⟩
theorem Rd.keepB{w w':World}{b B:Nat}{A:Option Addr}{c:Nat}{ws:List Wd}{at_:Nat}{bad:Bool}(h:Rd w b A c ws at_ bad)(hb:Below B w w')(hB:b<B):Rd w' b A c ws at_ bad:=by
 refine⟨(hb.cell (p:=⟨b,0,none⟩) hB).trans h.c0,(hb.cell (p:=⟨b,1,none⟩) hB).trans h.c1,(hb.cell (p:=⟨b,2,none⟩) hB).trans h.c2,h.row.kept (hb.block b hB),?_,h.lt⟩;intro i hi;obtain⟨ba,oa,e,hlt,c1⟩:=h.wd i hi
 have:=h.lt ba oa e
 exact⟨ba,oa,e,Nat.lt_of_lt_of_le hlt hb.size,(hb.cell (p:=⟨ba,_,none⟩) (by show ba<B;omega)).trans c1⟩
theorem Rd.keep{w w':World}{b:Nat}{A:Option Addr}{c:Nat}{ws:List Wd}{at_:Nat}{bad:Bool}(h:Rd w b A c ws at_ bad)(hb:Below w w w'):Rd w' b A c ws at_ bad:=h.keepB hb h.row.lt
theorem Rd.setAt{w:World}{b:Nat}{A:Option Addr}{c:Nat}{ws:List Wd}{at_:Nat}{bad:Bool}(h:Rd w b A c ws at_ bad)(n:Nat):Rd (w.setCell ⟨b,1,none⟩ (.int .i64 (n:Int))) b A c ws n bad:=
 ⟨(cso (.inr (by omega))).trans h.c0,css h.c1,(cso (.inr (by omega))).trans h.c2,h.row.set,j9u h.wd h.lt,h.lt⟩
theorem Rd.setBad{w:World}{b:Nat}{A:Option Addr}{c:Nat}{ws:List Wd}{at_:Nat}{bad:Bool}(h:Rd w b A c ws at_ bad)(n:Bool):Rd (w.setCell ⟨b,2,none⟩ (.bool n)) b A c ws at_ n:=
 ⟨(cso (.inr (by omega))).trans h.c0,(cso (.inr (by omega))).trans h.c1,css h.c2,h.row.set,j9u h.wd h.lt,h.lt⟩
theorem y2h(a b:Wd):((wbS a).toList==(wbS b).toList)=(a==b):=by
 rw[Lib.toList_data,Lib.toList_data];rfl
theorem q9p{w:World}{b:Nat}{A:Option Addr}{c:Nat}{ws:List Wd}{at_:Nat}{bad:Bool}(h:Rd w b A c ws at_ bad)(s:Wd):
  Calls prog 34 #[.pointer (some ⟨b,0,none⟩),.string (wbS s)] w fun e w'=>e=.returned (.bool (!bad&&(ws[at_]?==some s)))/\∃q,w'=w.drewN q:=by
 obtain⟨c0,c1,c2,_,hw,_⟩:=h;cases bad with
 | true=>
  generalize wbS s=S;go_in;go_wp2_with fail
  go_quiet (fail)
  go_wp2;go_ret;exact⟨rfl,_,rfl⟩
 | false=>
  by_cases hlt:at_<ws.length
  ·obtain⟨ba,oa,rfl,hba,d0⟩:=hw at_ (by rw[List.length_map];exact hlt);rw[List.getElem_map]at d0;have hai:(at_:Int)<(ws.length:Int):=by omega
   have HE:Hid (((wbS ws[at_]).toList==(wbS s).toList)=(!false&&(ws[at_]?==some s))):=by
    show _=_;rw[y2h,List.getElem?_eq_getElem hlt];rfl
   generalize(!false&&(ws[at_]?==some s))=R at HE⊢
   generalize wbS s=S at HE⊢;generalize wbS ws[at_]=X at HE d0;clear hw;go_in;go_wp2_with fail
   go_quiet (fail)
   go_wp2;go_ret;exact⟨by rw[<-HE.o];rfl,_,rfl⟩
  ·have hai:¬(at_:Int)<(ws.length:Int):=by omega
   have HE:Hid ((!false&&(ws[at_]?==some s))=false):=by
    show _=_;rw[List.getElem?_eq_none (by omega)];rfl
   generalize(!false&&(ws[at_]?==some s))=R at HE⊢
   generalize wbS s=S;clear hw;go_in;go_wp2_with fail
   go_quiet (fail)
   go_wp2;go_ret;exact⟨by rw[HE.o];rfl,_,rfl⟩
def q1k(ws:List Wd)(at_:Nat)(bad:Bool)(s:Wd):Nat:=if(!bad&&(ws[at_]?==some s))=true then at_+1 else at_
def q0s(ws:List Wd)(at_:Nat)(bad:Bool)(s:Wd):Bool:=!(!bad&&(ws[at_]?==some s))
theorem q6f{w:World}{b:Nat}{A:Option Addr}{c:Nat}{ws:List Wd}{at_:Nat}{bad:Bool}(h:Rd w b A c ws at_ bad)(hl:ws.length<=60000)(ha:at_<=ws.length)(s:Wd):
  Calls prog 35 #[.pointer (some ⟨b,0,none⟩),.string (wbS s)] w fun e w'=>(∃v,e=.returned v)/\Rd w' b A c ws (q1k ws at_ bad s) (q0s ws at_ bad s)/\But w b w w':=by
 have HI:Hid (Calls prog 34 #[.pointer (some ⟨b,0,none⟩),.string (wbS s)] w fun e w'=>e=.returned (.bool (!bad&&(ws[at_]?==some s)))/\∃q,w'=w.drewN q):=q9p h s;unfold q1k q0s;cases hR:(!bad&&(ws[at_]?==some s))with
 | true=>
  have hbf:bad=false:=by
   cases bad with
   | false=>rfl
   | true=>simp at hR
  subst hbf;rw[hR]at HI;simp only[if_true,Bool.not_true];have HD:=(show Hid (_)from h);obtain⟨c0,c1,c2,hrow,_,_⟩:=h;have f1:w.frozen? ⟨b,1,none⟩=false:=hrow.frozen;generalize wbS s=S at HI⊢;clear hrow hR c0;go_in;go_wp2_with fail;refine HI.o.mono ?_;rintro e w1⟨rfl,q,rfl⟩;go_wp2
  go_end0
  refine⟨⟨_,rfl⟩,?_,?_⟩
  ·have h2:=(HD.o.keep (q0f (Below.refl _ w) q)).setAt (at_+1);rw[show((at_+1:Nat):Int)=(at_:Int)+1 by omega]at h2;exact h2
  ·exact(But.of (q0f (Below.refl _ w) q)).setCell (p:=⟨b,1,none⟩) (.inl rfl) _
 | false=>
  rw[hR]at HI;simp only[Bool.false_eq_true,if_false,Bool.not_false];have HD:=(show Hid (_)from h);obtain⟨c0,c1,c2,hrow,_,_⟩:=h;have f2:w.frozen? ⟨b,2,none⟩=false:=hrow.frozen;generalize wbS s=S at HI⊢;clear hrow hR c0;go_in;go_wp2_with fail;refine HI.o.mono ?_;rintro e w1⟨rfl,q,rfl⟩;go_wp2
  go_end0
  exact⟨⟨_,rfl⟩,(HD.o.keep (q0f (Below.refl _ w) q)).setBad true,(But.of (q0f (Below.refl _ w) q)).setCell (p:=⟨b,2,none⟩) (.inl rfl) _⟩
def y2u(w:World)(b:Nat):Nat:=match w.cell? ⟨b,1,none⟩with
 | some (.int _ n)=>n.toNat
 | _=>0
theorem Rd.at_eq{w:World}{b:Nat}{A:Option Addr}{c:Nat}{ws:List Wd}{at_:Nat}{bad:Bool}(h:Rd w b A c ws at_ bad):y2u w b=at_:=by
 unfold y2u;rw[h.c1];simp
def Rs.isBad:Rs->Bool
 | .ok _ _ _=>false
 | .bad _=>true
structure Got(b:Nat)(A:Option Addr)(c:Nat)(ws:List Wd)(j:Job)(p:Nat)(w:World)(r:Rs)(ns:List Td)(v:Value)(w':World):Prop where
 pr:PR j (ws.drop p) r
 o:q0x w v ns w'
 n:ns.length+r.rest.length<=(ws.drop p).length
 e:∀m ms u,r=.ok m ms u->ms=ns
 rd:Rd w' b A c ws (ws.length-r.rest.length) r.isBad
 bt:But w b w w'
abbrev z9z(b:Nat)(A:Option Addr)(c:Nat)(ws:List Wd)(k p:Nat):Prop:=∀w:World,Rd w b A c ws p false->Calls prog 36 #[.pointer (some ⟨b,0,none⟩),.int .i64 (k:Int)] w fun e w'=>∃r ns A' c',e=.returned (.slice A' ns.length c')/\Got b A c ws (.level k) p w r ns (.slice A' ns.length c') w'
abbrev v0t(b:Nat)(A:Option Addr)(c:Nat)(ws:List Wd)(p:Nat):Prop:=∀w:World,Rd w b A c ws p false->Calls prog 74 #[.pointer (some ⟨b,0,none⟩)] w fun e w'=>∃r ns A' c',e=.returned (.slice A' ns.length c')/\Got b A c ws .single p w r ns (.slice A' ns.length c') w'
abbrev Sil(b:Nat)(A:Option Addr)(c:Nat)(ws:List Wd)(p:Nat)(w:World)(e:Ending)(w':World):Prop:=e=.returned (.slice none 0 0)/\Rd w' b A c ws p true/\But w b w w'
theorem j0d{w:World}{b:Nat}{A:Option Addr}{c:Nat}{ws:List Wd}{p:Nat}(h:Rd w b A c ws p true):Calls prog 74 #[.pointer (some ⟨b,0,none⟩)] w fun e w'=>Sil b A c ws p w e w':=by
 have HD:=(show Hid (_)from h);obtain⟨c0,c1,c2,hrow,_,_⟩:=h;have f2:w.frozen? ⟨b,2,none⟩=false:=hrow.frozen;have HW:Hid (∀q,(w.drewN q).frozen? ⟨b,2,none⟩=false):=fun q=>f2
 clear hrow;go_in;go_wp2_with fail
 go_quiet (fail)
 go_wp2;go_ret;exact⟨rfl,(HD.o.keep (q0f (Below.refl _ w) _)).setBad true,(But.of (q0f (Below.refl _ w) _)).setCell (p:=⟨b,2,none⟩) (.inl rfl) _⟩
theorem q0x.nil(B:Nat)(w:World):q0x B (.slice Option.none 0 0) [] w:=⟨rfl,.inl ⟨rfl,rfl⟩⟩
theorem k9g{w:World}{b:Nat}{A:Option Addr}{c:Nat}{ws:List Wd}{p:Nat}(h:Rd w b A c ws p true):Calls prog 36 #[.pointer (some ⟨b,0,none⟩),.int .i64 2] w fun e w'=>Sil b A c ws p w e w':=by
 have HS:Hid (Calls prog 74 #[.pointer (some ⟨b,0,none⟩)] w fun e w'=>Sil b A c ws p w e w'):=j0d h;clear h;go_in;go_wp2_with fail;refine HS.o.mono ?_;rintro e w1⟨rfl,h1,b1⟩;go_wp2;go_ret;exact⟨rfl,h1,b1⟩
theorem k9f{w:World}{b:Nat}{A:Option Addr}{c:Nat}{ws:List Wd}{p:Nat}(h:Rd w b A c ws p true):Calls prog 36 #[.pointer (some ⟨b,0,none⟩),.int .i64 1] w fun e w'=>Sil b A c ws p w e w':=by
 have HS:Hid (Calls prog 36 #[.pointer (some ⟨b,0,none⟩),.int .i64 2] w fun e w'=>Sil b A c ws p w e w'):=k9g h;clear h;go_in;go_wp2_with fail;refine HS.o.mono ?_;rintro e w1⟨rfl,h1,b1⟩;have c2:=h1.c2;have HD:=(show Hid (_)from h1);have HB:=(show Hid (_)from b1);clear h1 b1;go_wp2_with fail
 go_loopw [5] (fun x wr=>wr=w1/\x=.slice none 0 0) (fun _ _=>0)
 case atStart=>exact⟨rfl,rfl⟩
 case round=>
  obtain⟨rfl,rfl⟩:=hrel;go_wp2;go_ret;exact⟨rfl,HD.o,HB.o⟩
theorem z6t{w:World}{b:Nat}{A:Option Addr}{c:Nat}{ws:List Wd}{p:Nat}(h:Rd w b A c ws p true):Calls prog 36 #[.pointer (some ⟨b,0,none⟩),.int .i64 0] w fun e w'=>Sil b A c ws p w e w':=by
 have HS:Hid (Calls prog 36 #[.pointer (some ⟨b,0,none⟩),.int .i64 1] w fun e w'=>Sil b A c ws p w e w'):=k9f h;clear h;go_in;go_wp2_with fail;refine HS.o.mono ?_;rintro e w1⟨rfl,h1,b1⟩;have c2:=h1.c2;have HD:=(show Hid (_)from h1);have HB:=(show Hid (_)from b1);clear h1 b1;go_wp2_with fail
 go_loopw [5] (fun x wr=>wr=w1/\x=.slice none 0 0) (fun _ _=>0)
 case atStart=>exact⟨rfl,rfl⟩
 case round=>
  obtain⟨rfl,rfl⟩:=hrel;go_wp2;go_ret;exact⟨rfl,HD.o,HB.o⟩
end Go.Proofs.YthjapabokcajhaaGreatDoor
