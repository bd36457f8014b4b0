/- Texts as one: AppO, TreK, TreZ, PgC, FilG. -/
import Derived.Laws.AppendOwn
import Derived.Laws.AppendOwnNone
import Derived.Test.YthjapabokcajhaaGreatDoorPi08
open Go.Proofs.Tryz
namespace Go.Proofs.YthjapabokcajhaaGreatDoor
open Go Go.RowKit
theorem z2v(b o k:Nat):(⟨b,o,none⟩:Addr).add k=⟨b,o+k,none⟩:=by
 unfold Addr.add
 split
 ·rename_i h;subst h;rfl
 ·rfl
theorem k5n{w:World}{ops:Array Oper}{rest:List Oper}{o:Oper}{a:Act}{Q:Exit->Act->World->Prop}(hgd:o.guard=none)(s x:Operand)
  (ho:o.op=.call {callee:=.builtin .append,args:=#[s,x],argTypes:=#[58,58]})
  (base:Nat) (v:Value) (xs:List ByteArray) (hs:a.eval s=v) (hown:q2r base v xs w)
  (wa:Option Addr) (n:Nat) (ws:List ByteArray) (hn:ws.length=n) (wc:Nat) (hx:a.eval x=.slice wa n wc) (hW:Wds w wa ws) (hnil:wa=none->n=0/\wc=0)
  (m:Nat) (hm:xs.length+n=m) (hb:m<=1000000) (hbase:base<=w.heap.size)
  (h:∀A c w',q2r base (.slice A m c) (xs++ws) w'->w.grownBy w' v.ownBlock->wpList prog ops Q rest (a.put o.dst (.slice A m c)) w'):wpList prog ops Q (o::rest) a w:=by
 subst hn hm;obtain⟨i0,hi,hz0,hz1,hz2⟩:=info_parts z0v
 have h':∀v' w',q2r base v' (xs++ws) w'->w.grownBy w' v.ownBlock->wpList prog ops Q rest (a.put o.dst v') w':=by
  intro v' w' h1 h2
  obtain⟨A,c,rfl⟩:∃A c,v'=.slice A (xs.length+ws.length) c:=by
   rcases h1.2 with⟨hv,h0⟩|⟨g,c,cur,hv,_⟩
   ·rw[List.length_append]at h0;exact⟨none,0,by rw[hv,h0]⟩
   ·rw[List.length_append]at hv;exact⟨_,c,hv⟩
  exact h A c w' h1 h2
 cases wa with
 | none=>
  obtain⟨h0,rfl⟩:=hnil rfl;obtain rfl:ws=[]:=List.eq_nil_of_length_eq_zero h0;refine wpList_append_own_none hgd s x 58 ho base 9 i0 1 Tryz.underlying58 hi v xs.length (strCells xs) hs hown hx ?_;refine h' v w ?_ ⟨rfl,rfl,rfl,Nat.le_refl _,fun _ _ _=>rfl⟩;rw[List.append_nil];exact hown
 | some ad=>
  refine wpList_append_own w hgd s x 58 ho base 9 i0 _ 1 16 Tryz.underlying58 hi hz0 hz1 hz2 rfl (by decide) v xs.length (strCells xs) hs hown ad ws.length wc (strCells ws) hx (by simp[strCells]) ?_ ?_ (by unfold maxLen;omega) (by omega) hbase ?_
  ·intro j u hj;have hlt:j<ws.length:=by have:=(List.getElem?_eq_some_iff.1 hj).1;simpa[strCells]using this
   obtain⟨b,o,e,_,c⟩:=hW j hlt;simp only[Option.some.injEq]at e;subst e;rw[z2v]
   have:u=.string ws[j]:=by simp[strCells,hlt]at hj;exact hj.symm
   rw[this];exact c
  ·intro u hu;obtain⟨x,_,rfl⟩:=List.mem_map.1 hu;rfl
  ·intro v' w' h1 h2 _;rw[<-q2b]at h1;refine h' v' w' ?_ h2;show w'.ownsRow _ _ _ _ _ _;rw[List.length_append];exact h1
def q4h(ks:List Int):List Value:=ks.map fun k=>.int .i64 k
theorem z2j(a b:List Int):q4h (a++b)=q4h a++q4h b:=by simp[q4h]
def k2x(B:Nat)(v:Value)(ks:List Int)(w:World):Prop:=w.ownsRow B 3 1 v ks.length (q4h ks)
theorem v0w{w:World}{ops:Array Oper}{rest:List Oper}{o:Oper}{a:Act}{Q:Exit->Act->World->Prop}(hgd:o.guard=none)(s x:Operand)
  (ho:o.op=.call {callee:=.builtin .append,args:=#[s,x],argTypes:=#[45,45]})
  (base:Nat) (v:Value) (xs:List Int) (hs:a.eval s=v) (hown:k2x base v xs w)
  (wa:Option Addr) (n:Nat) (ws:List Int) (hn:ws.length=n) (wc:Nat) (hx:a.eval x=.slice wa n wc) (hW:q9e w wa ws) (hnil:wa=none->n=0/\wc=0)
  (m:Nat) (hm:xs.length+n=m) (hb:m<=1000000) (hbase:base<=w.heap.size)
  (h:∀A c w',k2x base (.slice A m c) (xs++ws) w'->w.grownBy w' v.ownBlock->wpList prog ops Q rest (a.put o.dst (.slice A m c)) w'):wpList prog ops Q (o::rest) a w:=by
 subst hn hm;obtain⟨i0,hi,hz0,hz1,hz2⟩:=info_parts z2m
 have h':∀v' w',k2x base v' (xs++ws) w'->w.grownBy w' v.ownBlock->wpList prog ops Q rest (a.put o.dst v') w':=by
  intro v' w' h1 h2
  obtain⟨A,c,rfl⟩:∃A c,v'=.slice A (xs.length+ws.length) c:=by
   rcases h1.2 with⟨hv,h0⟩|⟨g,c,cur,hv,_⟩
   ·rw[List.length_append]at h0;exact⟨none,0,by rw[hv,h0]⟩
   ·rw[List.length_append]at hv;exact⟨_,c,hv⟩
  exact h A c w' h1 h2
 cases wa with
 | none=>
  obtain⟨h0,rfl⟩:=hnil rfl;obtain rfl:ws=[]:=List.eq_nil_of_length_eq_zero h0;refine wpList_append_own_none hgd s x 45 ho base 3 i0 1 Tryz.underlying45 hi v xs.length (q4h xs) hs hown hx ?_;refine h' v w ?_ ⟨rfl,rfl,rfl,Nat.le_refl _,fun _ _ _=>rfl⟩;rw[List.append_nil];exact hown
 | some ad=>
  refine wpList_append_own w hgd s x 45 ho base 3 i0 _ 1 8 Tryz.underlying45 hi hz0 hz1 hz2 rfl (by decide) v xs.length (q4h xs) hs hown ad ws.length wc (q4h ws) hx (by simp[q4h]) ?_ ?_ (by unfold maxLen;omega) (by omega) hbase ?_
  ·intro j u hj;have hlt:j<ws.length:=by have:=(List.getElem?_eq_some_iff.1 hj).1;simpa[q4h]using this
   obtain⟨b,o,e,_,c⟩:=hW j hlt;simp only[Option.some.injEq]at e;subst e;rw[z2v]
   have:u=.int .i64 ws[j]:=by simp[q4h,hlt]at hj;exact hj.symm
   rw[this];exact c
  ·intro u hu;obtain⟨x,_,rfl⟩:=List.mem_map.1 hu;rfl
  ·intro v' w' h1 h2 _;rw[<-z2j]at h1;refine h' v' w' ?_ h2;show w'.ownsRow _ _ _ _ _ _;rw[List.length_append];exact h1
def v6f(ds:List Td):Prop:=∀x∈ds,x.tx.size<=1000000000000
set_option maxRecDepth 100000
set_option maxHeartbeats 4000000
def j1b(ds:List Td):Prop:=∀x∈ds,x.tx.size<=140737488351232
theorem v6f.nine{ds:List Td}(h:v6f ds):j1b ds:=fun x hx=>Nat.le_trans (h x hx) (by decide)
theorem j8y(x:Td)(w:World):Calls prog 154 #[tdV x] w fun e w'=>e=.returned (kdZ x)/\Below w w w':=by
 obtain⟨op,tx,n⟩:=x;have hb:∀O:Obj,Below w w (w.alloc O):=fun O=>(Below.refl _ w).alloc Zl O
 by_cases h3:op=3
 ·subst h3;go_in;go_wp2;go_ret;exact⟨by simp[kdZ],hb _⟩
 by_cases h4:op=4
 ·subst h4;go_in;go_wp2;go_ret;exact⟨by simp[kdZ],hb _⟩
 by_cases h5:op=5
 ·subst h5;go_in;go_wp2;go_ret;exact⟨by simp[kdZ,kdT],hb _⟩
 by_cases h6:op=6
 ·subst h6;go_in;go_wp2;go_ret;exact⟨by simp[kdZ,kdT],hb _⟩
 by_cases h7:op=7
 ·subst h7;go_in;go_wp2;go_ret;exact⟨by simp[kdZ,kdT],hb _⟩
 by_cases h8:op=8
 ·subst h8;go_in;go_wp2;go_ret;exact⟨by simp[kdZ,kdT],hb _⟩
 have HE:Hid (kdZ ⟨op,tx,n⟩=0):=by show kdZ ⟨op,tx,n⟩=0;simp[kdZ,kdT,h3,h4,h5,h6,h7,h8]
 have g3:(op==3)=false:=by simp[h3]
 have g4:(op==4)=false:=by simp[h4]
 have g5:(op==5)=false:=by simp[h5]
 have g6:(op==6)=false:=by simp[h6]
 have g7:(op==7)=false:=by simp[h7]
 have g8:(op==8)=false:=by simp[h8]
 clear h3 h4 h5 h6 h7 h8;go_in;go_wp2;go_ret;exact⟨by rw[HE.o];rfl,hb _⟩
theorem v5c(x:Td)(h:q0t x=0)(w:World):Calls prog 154 #[.agg #[x.op,.string x.tx,x.n]] w fun e w'=>e=.returned (kdT x:Int)/\Below w w w':=by
 have:=j8y x w
 rw[v6x h]at this;exact this
def v8h(o:Option Nat)(j:Nat)(b:Bool):Prop:=o=if b=true then some j else none
def y2y(ds:List Td)(i:Nat)(e:Ending):Prop:=∃(j:Nat)(b:Bool),e=.returned (.tuple #[.int .i64 (j:Int),.bool b])/\v8h (q3q ds i 1) j b
theorem v8h.yes{o:Option Nat}{j:Nat}(h:o=some j):v8h o j true:=h
theorem v8h.no{o:Option Nat}{j:Nat}(h:o=none):v8h o j false:=h
theorem j0k(ds:List Td)(a:Option Addr)(cap:Nat)(hl:ds.length<=40)(hk:∀x∈ds,q0t x=0)(i:Nat)(hi:i<=ds.length)(w:World)(hN:Tds w a ds):
  Calls prog 102 #[.slice a ds.length cap,.int .i64 i] w fun e w'=>y2y ds i e/\Below w w w':=by
 have HN:=hid hN;have HK:=hid hk;clear hN hk;go_in;go_wp2
 go_loopw [1,6] (fun z m wr=>Below w w wr/\∃k q:Nat,k<=ds.length/\q<=1+6*k/\z=(k:Int)/\m=(q:Int)/\q3q ds i 1=q3q ds k q) (fun z _ _=>ds.length-(intOf z).toNat)
 case atStart=>exact⟨Below.refl _ _,i,1,hi,by omega,rfl,rfl,rfl⟩
 case round=>
  obtain⟨hbr,k,q,hk1,hq,rfl,rfl,he⟩:=hrel;have HE:=hid he;have HBR:=hid hbr;clear he hbr;by_cases h0:q=0
  ·subst h0
   have HZ:Hid (q3q ds i 1=some k):=by
    show _=_;rw[HE.o,k0o]
   go_wp2;go_ret2;exact⟨⟨k,true,rfl,v8h.yes HZ.o⟩,HBR.o⟩
  ·obtain⟨p,rfl⟩:∃p,q=p+1:=⟨q-1,by omega⟩;have hpc:((p+1:Nat):Int)=(p:Int)+1:=by omega
   have hpi:(0:Int)<(p:Int)+1:=by omega
   have hpe:=beq_false_of_ne (by omega);by_cases hlt:k<ds.length
   ·have hki:(k:Int)<(ds.length:Int):=by omega
    obtain⟨b,o,ea,hb,c1,c2,c3⟩:=(HN.o.below HBR.o) k hlt;subst ea;have hkd:=v6w (HK.o _ (List.getElem_mem hlt));have HM:Hid (∀W:World,Calls prog 154 #[.agg #[ds[k].op,.string ds[k].tx,ds[k].n]] W fun e w'=>e=.returned (kdT ds[k]:Int)/\Below W W w'):=fun W=>v5c _ (HK.o _ (List.getElem_mem hlt)) W
    have HS:Hid (q3q ds i 1=q3q ds (k+1) (kdT ds[k]+p)):=by
     show _=_;rw[HE.o,z3v ds k p hlt]
    generalize kdT ds[k]=d at hkd HM HS;generalize ds[k].op=xo at c1 HM;generalize ds[k].tx=xt at c2 HM;generalize ds[k].n=xn at c3 HM;rw[hpc];clear h0 hpe hpc;go_wp2_with fail;refine(HM.o _).mono ?_;rintro e w2⟨rfl,b2⟩;have HB2:=hid (q0d HBR.o Zl b2);clear b2 c1 c2 c3;go_wp2
    go_roundw
    case rel=>exact⟨HB2.o,k+1,d+p,by omega,by omega,by go_num,by go_num,HS.o⟩
    case measure=>simp[intOf];omega
   ·have hki:¬(k:Int)<(ds.length:Int):=by omega
    have HZ:Hid (q3q ds i 1=none):=by
     show _=_;rw[HE.o,q8m ds k p (by omega)]
    rw[hpc];clear h0 hpc;go_wp2;go_ret2;exact⟨⟨k,false,rfl,v8h.no HZ.o⟩,HBR.o⟩
theorem v5h{w:World}{a:Option Addr}{c:Nat}{x:Td}{r:List Td}(h:Tds w a (x::r))(hc:r.length+1<=c):
  ∃A,(∀W:World,(Instr.slice 22 (.slice a (r.length+1) c) (some (.int .i64 1)) none none).run prog W=.ok (.slice A r.length (c-1)) W)/\Tds w A r:=by
 obtain⟨b,o,rfl,hb,_,_,_⟩:=h 0 (by simp);refine⟨if c=1 then some ↑(b,o)else some ↑(b,o+3),fun W=>?_,?_⟩
 ·have h1:=run_slice_l (P:=prog) W 22 (some ↑(b,o)) (r.length+1) c Tryz.underlying22 .i64 1 (by omega) (by omega);rw[h1];have hz:(sizeOf (prog.elem 22)).run prog W=.ok 3 W:=by kernel_rfl
  rw[hz];have ha:((b,o):Addr).add 3=(b,o+3):=rfl;simp[Result.andThen,sliced,ha]
 ·by_cases e:c=1
  ·have:r=[]:=List.eq_nil_of_length_eq_zero (by omega)
   subst this;exact fun i hi=>by simp at hi
  ·rw[if_neg e];intro i hi;obtain⟨b',o',e1,hb',d1,d2,d3⟩:=h (i+1) (by simp;omega);cases e1;rw[show o+(i+1)*3=o+3+i*3 by omega]at d1 d2 d3;exact⟨b,o+3,rfl,hb,d1,d2,d3⟩
theorem y4w{x:Td}(h:q0t x=0):1<=x.op/\x.op<=9:=by
 unfold q0t at h
 split at h
 ·cases h
 ·omega
def q8y(ds:List Td):Bool:=decide (q3q ds 0 1=some ds.length)&&k5b ds
theorem j8r:q8y []=false:=by
 have:q3q [] 0 1=none:=q8m _ _ _ Zl
 simp[q8y,this]
theorem j0o{ds:List Td}(hl:ds.length<=40)(ha:∀x∈ds,q0t x=0):q0b ds=if q8y ds=true then 0 else 2:=by
 rw[z0z hl ha];simp only[q8y,Bool.and_eq_true,decide_eq_true_eq]
theorem j8z(ds:List Td)(a:Option Addr)(cap:Nat)(hl:ds.length<=40)(hk:∀x∈ds,q0t x=0)(w:World)(hc:ds.length<=cap)(hN:Tds w a ds):
  Calls prog 67 #[.slice a ds.length cap] w fun e w'=>e=.returned (.bool (q8y ds))/\Below w w w':=by
 cases ds with
 | nil=>
  rw[j8r];clear hk hN hl hc;go_in;go_wp2;go_ret;exact⟨rfl,Below.refl _ _⟩
 | cons x r=>
  have HN:=hid hN;have HK:=hid hk;obtain⟨b,o,ea,hb,c1,_,_⟩:=hN 0 (by simp);have hx:=y4w (hk x (by simp));have hlen:(x::r).length=r.length+1:=rfl;rw[hlen]at hl hc⊢;have hp:¬(r.length:Int)+1=0:=by omega
  have hpb:=beq_false_of_ne hp;have hp0:(0:Int)<(r.length:Int)+1:=by omega
  have c1':w.cell? (b,o)=some ↑x.op:=by simpa using c1
  clear c1 hN;subst ea;by_cases h7:7<=x.op
  ·have HX:Hid (exB x.op=false):=by show exB x.op=false;simp[exB];omega
   obtain⟨A,hsl,hT⟩:=v5h HN.o hc;have HT:=hid hT;clear hT;generalize hxo:x.op=xo at c1' HX;go_in;go_wp2_with fail;refine(z0w xo _).mono ?_;rintro e w2⟨rfl,rfl⟩;rw[HX.o];go_wp2_with fail
   go_loopw [20] (fun i wr=>Below w w wr/\∃k:Nat,k<=r.length/\i=(k:Int)/\∀y∈r.take k,y.op<7) (fun i _=>r.length-(intOf i).toNat)
   case atStart=>exact⟨Below.refl _ _,0,Nat.zero_le _,rfl,by simp⟩
   case round=>
    obtain⟨hbr,k,hk1,rfl,hall⟩:=hrel;have HBR:=hid hbr;have HAL:Hid (∀O:Obj,Below w w (wr.alloc O)):=fun O=>hbr.alloc hbr.size O
    clear hbr;have HA:=hid hall;clear hall hsl;by_cases hlt:k<r.length
    ·have hki:(k:Int)<(r.length:Int):=by omega
     obtain⟨b1,o1,e1,hb1,d1,d2,d3⟩:=(HT.o.below HBR.o) k hlt;subst e1;have hy:=y4w (HK.o r[k] (by simp));by_cases hyt:r[k].op<7
     ·have HY:Hid (exB r[k].op=true):=by show exB r[k].op=true;simp[exB];omega
      have HA2:Hid (∀y∈r.take (k+1),y.op<7):=by
       intro y hyy;rw[List.take_succ_eq_append_getElem hlt]at hyy;rcases List.mem_append.1 hyy with hyy|hyy
       ·exact HA.o y hyy
       ·simp at hyy;subst hyy;exact hyt
      clear hyt hy;generalize r[k].op=yo at d1 HY;generalize r[k].tx=yt at d2;generalize r[k].n=yn at d3;go_wp2_with fail;refine(z0w yo _).mono ?_;rintro e w2⟨rfl,rfl⟩;rw[HY.o];go_wp2
      go_roundw
      case rel=>exact⟨HAL.o _,k+1,by omega,by go_num,HA2.o⟩
      case measure=>simp[intOf];omega
     ·have HY:Hid (exB r[k].op=false):=by show exB r[k].op=false;simp[exB];omega
      have HF:Hid (q8y (x::r)=false):=by
       show _=_
       have:k5b (x::r)=false:=by
        simp only[k5b,Bool.and_eq_false_iff,List.all_eq_false];exact .inr ⟨r[k],List.getElem_mem hlt,by simp[hyt]⟩
       simp[q8y,this]
      clear hyt hy;generalize r[k].op=yo at d1 HY;generalize r[k].tx=yt at d2;generalize r[k].n=yn at d3;go_wp2_with fail;refine(z0w yo _).mono ?_;rintro e w2⟨rfl,rfl⟩;rw[HY.o];go_wp2;go_ret;exact⟨by rw[HF.o];rfl,HAL.o _⟩
    ·have hki:¬(k:Int)<(r.length:Int):=by omega
     have HTOP:Hid (k5b (x::r)=true):=by
      show _=_;simp only[k5b,Bool.and_eq_true,decide_eq_true_eq,List.all_eq_true];refine⟨by omega,fun y hy=>HA.o y ?_⟩;rw[List.take_of_length_le (by omega)];exact hy
     have HEO:=hid (j0k (x::r) _ cap hl HK.o 0 (Nat.zero_le _) wr (HN.o.below HBR.o));go_wp2_with fail;refine HEO.o.mono ?_;rintro e w2⟨⟨j,bb,rfl,he⟩,b2'⟩;have b2:=q0d HBR.o Zl b2';clear b2';cases bb with
     | false=>
      have he:q3q (x::r) 0 1=none:=he
      have HF:Hid (q8y (x::r)=false):=by
       show _=_;simp[q8y,he]
      clear he;go_wp2;go_ret;exact⟨by rw[HF.o];rfl,b2⟩
     | true=>
      have he:q3q (x::r) 0 1=some j:=he;by_cases hj:(j:Int)=(r.length:Int)+1
      ·have HF:Hid (q8y (x::r)=true):=by
        show _=_
        have:j=r.length+1:=by omega
        simp[q8y,he,this,HTOP.o]
       have hjb:=beq_iff_eq.2 hj;clear he hj;go_wp2;go_ret;exact⟨by rw[HF.o];rfl,b2⟩
      ·have HF:Hid (q8y (x::r)=false):=by
        show _=_
        have:¬j=r.length+1:=by omega
        simp[q8y,he,this]
       have hjb:=beq_false_of_ne hj;clear he hj;go_wp2;go_ret;exact⟨by rw[HF.o];rfl,b2⟩
  ·have HX:Hid (exB x.op=true):=by show exB x.op=true;simp[exB];omega
   have HF:Hid (q8y (x::r)=false):=by
    show _=_
    have:k5b (x::r)=false:=by simp[k5b,h7]
    simp[q8y,this]
   generalize x.op=xo at c1' HX;go_in;go_wp2_with fail;refine(z0w xo _).mono ?_;rintro e w2⟨rfl,rfl⟩;rw[HX.o];go_wp2;go_ret;exact⟨by rw[HF.o];rfl,Below.refl _ _⟩
theorem q7c(ds:List Td)(a:Option Addr)(cap:Nat)(w:World)(hc:ds.length<=cap)(hN:Tds w a ds)(hsz:j1b ds):Calls prog 29 #[.slice a ds.length cap] w fun e w'=>e=.returned (q1y (q0b ds))/\Below w w w':=by
 have HN:=hid hN;have HSZ:=hid hsz;clear hN hsz;by_cases h4:40<(ds.length:Int)
 ·rw[z7g (by omega),k5z];go_in;go_wp2;go_ret;exact⟨rfl,Below.refl _ _⟩
 ·have hl:ds.length<=40:=by omega
  go_in;go_wp2
  go_loopw [12] (fun i wr=>Below w w wr/\∃k:Nat,k<=ds.length/\i=.int .i64 k/\∀x∈ds.take k,q0t x=0) (fun i _=>ds.length-(intOf i).toNat)
  case atStart=>exact⟨Below.refl _ _,0,Nat.zero_le _,rfl,by simp⟩
  case round=>
   obtain⟨hB,k,hk,rfl,hall⟩:=hrel;have HA:=hid hall;have HM:=hid (HN.o.below hB);clear hall;by_cases hlt:k<ds.length
   ·obtain⟨b,o,ea,hb,c1,c2,c3⟩:=HM.o k hlt;have htx:=HSZ.o _ (List.getElem_mem hlt);subst ea;by_cases h0:q0t ds[k]=0
    ·have H0:=hid h0;clear h0;go_wp2_with fail;refine(k2m ds[k] _ htx).mono ?_;rintro e w2⟨rfl,hb2⟩;rw[H0.o,q1m];have hB2:=z6b hB Zl hb2;clear hb2;go_wp2
     go_roundw
     case rel=>exact⟨hB2,k+1,by omega,by go_num,z7f hlt HA.o H0.o⟩
     case measure=>simp[intOf];omega
    ·have H0:=hid h0;clear h0;go_wp2_with fail;refine(k2m ds[k] _ htx).mono ?_;rintro e w2⟨rfl,hb2⟩;rw[q0w H0.o];have hB2:=z6b hB Zl hb2;clear hb2;go_wp2;go_ret;refine⟨?_,hB2⟩;rw[z7h hl hlt HA.o H0.o,q0w H0.o];rfl
   ·have HK:Hid (∀x∈ds,q0t x=0):=by
     have:=HA.o
     rw[List.take_of_length_le (by omega)]at this;exact this
    have HF:=hid (j0o hl HK.o);have HS:=hid (j8z ds a cap hl HK.o wr hc HM.o);generalize q8y ds=sb at HF HS;go_wp2_with fail;refine HS.o.mono ?_;rintro e w2⟨rfl,b2⟩;have B2:=q0d hB Zl b2;clear b2;cases sb with
    | true=>
     go_wp2;go_ret;exact⟨by rw[HF.o];rfl,B2⟩
    | false=>
     go_wp2;go_ret;exact⟨by rw[HF.o];rfl,B2⟩
abbrev y3f:Prop:=∀(t:List Td)(a:Option Addr)(cap:Nat)(wd:Int)(w:World),t.length<=cap->Tds w a t->j1b t->z5t w->
 Calls prog 9 #[.slice a t.length cap,.int .i64 wd] w fun e w'=>e=.returned (.tuple #[.string (k7a t wd),q1y (z5w t wd)])/\Below w w w'
def z9y(s:ByteArray)(wd:Int)(w:World)(e:Ending)(w':World):Prop:=∃T k f,e=.returned (.tuple #[.string T,.int .i64 k,q1y f])/\z5y s wd T k f/\Below w w w'
abbrev y3a:Prop:=∀(s:ByteArray)(wd:Int)(w:World),z5t w->Calls prog 13 #[.string s,.int .i64 wd] w fun e w'=>z9y s wd w e w'
theorem z2a{t:List Td}{wd:Int}(h:z5w t wd≠0):k7a t wd=⟨#[]⟩:=by rw[k7a,if_neg h]
theorem k4m{t:List Td}{n:Nat}(h:z5w t (n:Int)=0):k7a t (n:Int)=wbS (z3c n t):=by rw[k7a,if_pos h];rfl
theorem k6v{n:Nat}(h1:10<=n)(h2:n<=100):¬((n:Int)<10\/100<(n:Int)):=by omega
structure z9s(wd:Nat)(ws:List ByteArray)(bL k:Nat)(w:World):Prop where
 rl:z9t w bL (ws.length+1)
 cl:∀j,k<=j->j<=ws.length->w.cell? ⟨bL,j,none⟩=some (.int .i64 ((best wd (ws.drop j):Nat):Int))
theorem z9s.kept{wd:Nat}{ws:List ByteArray}{bL k:Nat}{w w':World}(h:z9s wd ws bL k w)(h1:w'.heap[bL]?=w.heap[bL]?):z9s wd ws bL k w' where
 rl:=h.rl.kept h1
 cl:=fun j a b=>(World.cell?_of_block (w:=w) (a:=⟨bL,j,none⟩) h1).trans (h.cl j a b)
theorem z9s.made(wd:Nat)(ws:List ByteArray)(w:World):z9s wd ws w.heap.size ws.length (w.alloc (.cells (madeCells #[.int .i64 0] (ws.length+1)) 3)):=by
 have h1:(w.alloc (.cells (madeCells #[.int .i64 0] (ws.length+1)) 3)).heap[w.heap.size]?=some (.cells (madeCells #[.int .i64 0] (ws.length+1)) 3 (0,0)):=heap_alloc_new w _;refine⟨⟨_,_,h1,size_madeCells _ _⟩,fun j a b=>?_⟩;obtain rfl:j=ws.length:=by omega
 have:best wd (ws.drop ws.length)=0:=by rw[List.drop_length];rfl
 rw[this];simp only[World.cell?,h1];exact k1p _ (by omega)
def v0q(g:Nat->Nat)(m:Nat):Int:=if m=0 then -1 else(q9c g m:Int)
structure k2t(wd:Nat)(ws:List ByteArray)(bL i m:Nat)(w:World):Prop where
 l:z9s wd ws bL (i+1) w
 c:w.cell? ⟨bL,i,none⟩=some (.int .i64 (v0q (fOf wd (ws.drop i)) m))
theorem k2t.set{wd:Nat}{ws:List ByteArray}{bL i m:Nat}{w:World}{z:Int}(h:z9s wd ws bL (i+1) w)(hi:i<ws.length)(hz:z=v0q (fOf wd (ws.drop i)) m):k2t wd ws bL i m (w.setCell ⟨bL,i,none⟩ (.int .i64 z)):=by
 obtain⟨y1,e1⟩:=h.rl.cell (i:=i) (by omega);refine⟨⟨h.rl.set,fun j a b=>(cso (.inr (by omega))).trans (h.cl j a b)⟩,?_⟩;rw[hz];exact css e1
theorem k2t.kept{wd:Nat}{ws:List ByteArray}{bL i m:Nat}{w w':World}(h:k2t wd ws bL i m w)(h1:w'.heap[bL]?=w.heap[bL]?):k2t wd ws bL i m w' where
 l:=h.l.kept h1
 c:=(World.cell?_of_block (w:=w) (a:=⟨bL,i,none⟩) h1).trans h.c
theorem k2t.done{wd:Nat}{ws:List ByteArray}{bL i m:Nat}{w:World}(h:k2t wd ws bL i m w)(hi:i<ws.length)(hm:m=ws.length-i):z9s wd ws bL i w:=by
 have hne:ws.drop i≠[]:=fun e=>by
  have:=congrArg List.length e
  rw[List.length_drop,List.length_nil]at this;omega
 have c1:=h.c;refine⟨h.l.rl,fun j a b=>?_⟩;by_cases e:j=i
 ·subst e;rw[z3m wd hne,List.length_drop,<-hm];rw[v0q,if_neg (by omega)]at c1;exact c1
 ·exact h.l.cl j (by omega) b
theorem k6t{g:Nat->Nat}{q:Nat}(hq:1<=q)(h:q=1\/g q<q9c g (q-1)):((g q:Nat):Int)=v0q g (q+1-1):=by
 obtain⟨m,rfl⟩:∃m,q=m+1:=⟨q-1,by omega⟩;simp only[Nat.add_sub_cancel]at h⊢;rw[v0q,if_neg (by omega),j5v,if_pos (by omega)]
theorem j5t{g:Nat->Nat}{q:Nat}(hq:1<=q)(h1:¬q=1)(h:¬g q<q9c g (q-1)):v0q g (q-1)=v0q g (q+1-1):=by
 obtain⟨m,rfl⟩:∃m,q=m+1:=⟨q-1,by omega⟩;simp only[Nat.add_sub_cancel]at h h1⊢;rw[v0q,if_neg (by omega),v0q,if_neg (by omega),j5v,if_neg (by omega)]
theorem y5f{ws:List ByteArray}{b0 o0 wd:Nat}{w wr:World}(hW:Wds w (some ⟨b0,o0,none⟩) ws)(hF:Few ws)(hw:wd<=100)(hb:Below w w wr)(i q c n:Nat)(h1:1<=q)(h2:i+q<=ws.length):
  Calls prog 55 #[.slice (some ⟨b0,o0+i,none⟩) q c,.int .i64 wd,.bool ((i:Int)+(q:Int)==(ws.length:Int))] (wr.drewN n) fun e w'=>e=.returned (.int .i64 (bd (ln ((ws.drop i).take q)) wd (q==ws.length-i)))/\w'=wr.drewN n:=by
 rw[y4d h2];exact(y1o q _ (k6u h1 h2).1 _ c wd _ _ ((hF.drop i).take q) hw (Wds.below ((z2u.drop hW i).take q) (q0f hb n))).mono fun _ _ h=>⟨h.1,h.2.symm⟩
theorem y5g{ws:List ByteArray}{b0 o0:Nat}{w wr:World}(hW:Wds w (some ⟨b0,o0,none⟩) ws)(hF:Few ws)(hb:Below w w wr)(i q c:Nat)(h1:1<=q)(h2:i+q<=ws.length):
  Calls prog 56 #[.slice (some ⟨b0,o0+i,none⟩) q c] wr fun e w'=>e=.returned (.string (jnS ((ws.drop i).take q)))/\wr=w':=by
 have:=q6y ((ws.drop i).take q) (some ⟨b0,o0+i,none⟩) c wr ((hF.drop i).take q) (Wds.below ((z2u.drop hW i).take q) hb)
 rw[(k6u h1 h2).1]at this;exact this
structure y2z(wd:Nat)(ws:List ByteArray)(w w1:World)(k:Nat)(done:List ByteArray)(L:Option Addr)(lc:Nat)(wx:World):Prop where
 b:Below (w.heap.size+1) w1 wx
 le:k<=ws.length
 dl:done.length<=k
 ro:q2r (w.heap.size+1) (.slice L done.length lc) done wx
 li:q1q wd ws=done++q1q wd (ws.drop k)
theorem k8r(ws:List ByteArray)(a:Option Addr)(cap wd:Nat)(w:World)(hc:ws.length<=cap)(hF:Few ws)(hw:wd<=100)(hW:Wds w a ws):
  Calls prog 25 #[.slice a ws.length cap,.int .i64 wd] w fun e w'=>(∃L c,e=.returned (.slice L (q1q wd ws).length c)/\q2r w (.slice L (q1q wd ws).length c) (q1q wd ws) w')/\Below w w w':=by
 have hl:=hF.1;have HW:Hid (Wds w a ws):=hW;have HF:Hid (Few ws):=hF
 have hm1:∀W:World,(Instr.makeSlice 45 (.int .i64 ((ws.length:Int)+1)) (.int .i64 ((ws.length:Int)+1))).run prog W=.ok (.slice (some ⟨W.heap.size,0,none⟩) (ws.length+1) (ws.length+1)) (W.alloc (.cells (madeCells #[.int .i64 0] (ws.length+1)) 3)):=fun W=>by
  have:=run_make_row' 45 3 _ 8 Tryz.underlying45 z2m rfl .i64 .i64 (ws.length+1) (by omega) (by omega) W
  have e:((ws.length+1:Nat):Int)=(ws.length:Int)+1:=by omega
  rw[e]at this;exact this
 have HM:Hid (z9s wd ws w.heap.size ws.length (w.alloc (.cells (madeCells #[.int .i64 0] (ws.length+1)) 3))):=z9s.made wd ws w;clear hW hF;go_in;go_wp2
 go_loopw [7] (fun i wr=>Below w w wr/\∃k:Nat,k<=ws.length/\i=.int .i64 ((k:Int)-1)/\z9s wd ws w.heap.size k wr) (fun i _=>(intOf i+1).toNat)
 case atStart=>exact⟨(Below.refl _ w).alloc Zl _,ws.length,Nat.le_refl _,by go_num,HM.o⟩
 case round=>
  obtain⟨hb,k,hk,rfl,hL⟩:=hrel;have HB:Hid (Below w w wr):=hb;have HL:Hid (z9s wd ws w.heap.size k wr):=hL;clear hb hL;by_cases hk0:k=0
  ·subst hk0;have hneg:¬((0:Int)<=((0:Nat):Int)-1):=by omega
   have hwr:w.heap.size+1<=wr.heap.size:=HL.o.rl.lt;generalize wr=w1 at HB HL hwr;go_wp2
   go_loopw [10,11] (fun l i wx=>∃(k:Nat)(done:List ByteArray)(L:Option Addr)(lc:Nat),i=.int .i64 (k:Int)/\l=.slice L done.length lc/\y2z wd ws w w1 k done L lc wx) (fun _ i _=>ws.length-(intOf i).toNat)
   case atStart=>exact⟨0,[],none,0,rfl,rfl,{b:=Below.refl _ _,le:=Nat.zero_le _,dl:=Nat.le_refl _,ro:=World.ownsRow_nil _ _ _ _,li:=rfl}⟩
   case round=>
    obtain⟨k,done,L,lc,rfl,rfl,hO⟩:=hrel;have HO:Hid (y2z wd ws w w1 k done L lc wr):=hO;have hk1:=hO.le;have hk2:=hO.dl;have hbx:=hO.b;have HLx:Hid (z9s wd ws w.heap.size 0 wr):=HL.o.kept (hbx.block _ (by omega));have HBx:Hid (Below w w wr):=HB.o.trans (hbx.mono (by omega));have hsx:=hbx.size;clear hbx hO;by_cases hlt:k<ws.length
    ·have hki:(k:Int)<(ws.length:Int):=by omega
     obtain⟨b0,o0,ea,hb0⟩:=HW.o.some (show 0<ws.length by omega);subst ea
     have hdn:ws.drop k≠[]:=fun e=>by
      have:=congrArg List.length e
      rw[List.length_drop,List.length_nil]at this;omega
     obtain⟨hg1,hg2⟩:=z1j wd hdn;rw[List.length_drop]at hg2;have hag:=j1o (fOf wd (ws.drop k)) (ws.drop k).length (by rw[List.length_drop];omega);rw[<-z3m wd hdn]at hag;have HAG:Hid (fOf wd (ws.drop k) (agF wd (ws.drop k))=best wd (ws.drop k)):=hag
     have HLAST:Hid (∀q,agF wd (ws.drop k)<q->q<=ws.length-k->fOf wd (ws.drop k) q≠best wd (ws.drop k)):=fun q h1 h2=>by
      rw[z3m wd hdn];exact k0d _ _ q h1 (by rw[List.length_drop];exact h2) (by omega)
     have HC2:Hid (q1q wd ws=(done++[jnS ((ws.drop k).take (agF wd (ws.drop k)))])++q1q wd (ws.drop (k+agF wd (ws.drop k)))):=by
      show q1q wd ws=_;rw[HO.o.li,q3t wd hdn,List.drop_drop,List.append_assoc];rfl
     have htv:best wd (ws.drop k)<=1300000:=j1y hw _ _ Zl (HF.o.drop k);have HTV:Hid (∀W:World,z9s wd ws w.heap.size 0 W->W.cell? ⟨w.heap.size,k,none⟩=some (.int .i64 ((best wd (ws.drop k):Nat):Int))):=fun W h=>h.cl k (Nat.zero_le _) (by omega)
     generalize hav:agF wd (ws.drop k)=av at HAG HLAST HC2 hg1 hg2;generalize best wd (ws.drop k)=tv at HAG HLAST HTV htv;clear hdn hag hav;go_wp2
     go_loopw [12] (fun v wy=>∃m q:Nat,wy=wr.drewN m/\av<=q/\q<=ws.length-k/\v=.int .i64 (q:Int)) (fun v _=>(intOf v).toNat)
     case atStart=>exact⟨0,ws.length-k,rfl,hg2,Nat.le_refl _,by congr 1;omega⟩
     case round=>
      rename_i wo _;obtain⟨m,q,hwy,hq1,hq2,rfl⟩:=hrel;have HWY:=(show Hid (wr=_)from hwy)
      have HLy:Hid (z9s wd ws w.heap.size 0 wr):=by
       show z9s _ _ _ _ _;rw[hwy];exact HLx.o.kept rfl
      have HBy:Hid (Below w w wr):=by
       show Below _ _ _;rw[hwy];exact q0f HBx.o m
      have hsy:w.heap.size+1<=wr.heap.size:=HLy.o.rl.lt
      have HOy:Hid (y2z wd ws w w1 k done L lc wr):=by
       show y2z _ _ _ _ _ _ _ _ _;rw[hwy];exact⟨q0f HO.o.b m,HO.o.le,HO.o.dl,HO.o.ro,HO.o.li⟩
      clear hwy;have c1:=HTV.o wr HLy.o;have hkq:k+q<=ws.length:=by omega
      have hkqi:(k:Int)+(q:Int)<=(ws.length:Int):=by omega
      have hsl:=j8m b0 o0 ws.length cap k q (by omega) (by omega);have hcell:wr.cell? ⟨w.heap.size,k+q,none⟩=some (.int .i64 ((best wd (ws.drop (k+q)):Nat):Int)):=HLy.o.cl (k+q) (by omega) hkq
      have HBc:Hid (∀n,Calls prog 55 #[.slice (some ⟨b0,o0+k,none⟩) q (cap-k),.int .i64 wd,.bool ((k:Int)+(q:Int)==(ws.length:Int))] (wr.drewN n) fun e w'=>e=.returned (.int .i64 (bd (ln ((ws.drop k).take q)) wd (q==ws.length-k)))/\w'=wr.drewN n):=fun n=>
       y5f HW.o HF.o hw HBy.o k q (cap-k) n (by omega) hkq
      have HJ:Hid (∀n,Calls prog 56 #[.slice (some ⟨b0,o0+k,none⟩) q (cap-k)] (wr.drewN n) fun e w'=>e=.returned (.string (jnS ((ws.drop k).take q)))/\wr.drewN n=w'):=fun n=>
       y5g HW.o HF.o (q0f HBy.o n) k q (cap-k) (by omega) hkq
      have HFO:Hid (fOf wd (ws.drop k) q=bd (ln ((ws.drop k).take q)) wd (q==ws.length-k)+best wd (ws.drop (k+q))):=j3l wd ws k q;have hfb:=j3m hw (HF.o.drop k) q;rw[HFO.o]at hfb;generalize bd (ln ((ws.drop k).take q)) wd (q==ws.length-k)=bv at HBc HFO hfb;generalize best wd (ws.drop (k+q))=sv at hcell HFO hfb;by_cases heq:bv+sv=tv
      ·have hqe:q=av:=by
        rcases Nat.lt_or_ge av q with h|h
        ·exact absurd (HFO.o.trans heq) (HLAST.o q h hq2)
        ·omega
       subst hqe;have hne:((bv:Int)+(sv:Int) != (tv:Int))=false:=by simp;omega
       generalize jnS ((ws.drop k).take q)=s at HJ HC2;clear heq;go_wp2_with fail
       go_quiet ((go_at_call 55;exact Calls.quiet_of_same (HBc.o _)))
       go_wp2_with fail;refine(HJ.o nq).mono ?_;rintro e w2⟨rfl,rfl⟩;have HO2:Hid (q2r (w.heap.size+1) (.slice L done.length lc) done (wr.drewN nq)):=HOy.o.ro;have HBW:Hid (Below (w.heap.size+1) w1 (wr.drewN nq)):=q0f HOy.o.b nq;obtain⟨i0,hi0,hz0,hz1,hz2⟩:=info_parts z0v;go_wp2_with(at_builtin;refine wpList_append_lies _ rfl _ _ 58 rfl (w.heap.size+1) 9 i0 _ 1 16 Tryz.underlying58 hi0 hz0 hz1 hz2 rfl (by decide) _ _ _ rfl (World.ownsRow.alloc (w:=wr.drewN nq) HO2.o _) ⟨wr.heap.size,0,none⟩ 1 1 [.string s] rfl rfl (cell_one_new (wr.drewN nq) _ _) (by intro u hu;simp at hu;subst hu;rfl) (by decide) (by unfold maxLen;omega) (by omega) (by simp;omega) (wr.heap.size+1) (by simp) ?_);intro g2 cap2 w3 hown3 hgrow3 hat3 hlt3;have hb3:=(HBW.o.alloc (show w.heap.size+1<=(wr.drewN nq).heap.size from hsy) (.cells #[.string s] 9)).grown hgrow3 (by simp;omega) (fun j hj=>(World.ownsRow.lt HO2.o j hj).1)
       have hO3:q2r (w.heap.size+1) (.slice (some ⟨g2,0,none⟩) (done++[s]).length cap2) (done++[s]) w3:=by
        show w3.ownsRow _ _ _ _ _ _;rw[q2b,List.length_append];exact hown3
       have HN3:Hid (y2z wd ws w w1 (k+q) (done++[s]) (some ⟨g2,0,none⟩) cap2 w3):=⟨hb3,hkq,by simp;omega,hO3,HC2.o⟩;clear hown3 hgrow3 hb3 hO3 hat3 hlt3;go_wp2
       go_roundw
       case rel=>exact⟨k+q,done++[s],some ⟨g2,0,none⟩,cap2,by go_num,by rw[List.length_append];rfl,HN3.o⟩
       case measure=>simp[intOf];omega
      ·have hqe:av<q:=by
        rcases Nat.lt_or_ge av q with h|h
        ·exact h
        ·obtain rfl:q=av:=by omega
         exact absurd (HFO.o.symm.trans HAG.o) heq
       have hne:((bv:Int)+(sv:Int) != (tv:Int))=true:=by simp;omega
       clear heq;go_wp2_with fail
       go_quiet ((go_at_call 55;exact Calls.quiet_of_same (HBc.o _)))
       go_wp2
       go_roundw
       case rel=>exact⟨m+nq,q-1,by rw[HWY.o,World.drewN_drewN],by omega,by omega,by congr 1;omega⟩
       case measure=>simp[intOf];omega
    ·have hki:¬(k:Int)<(ws.length:Int):=by omega
     have HE:Hid (q1q wd ws=done):=by
      show q1q wd ws=done;rw[HO.o.li,List.drop_eq_nil_of_le (by omega),q4c,List.append_nil]
     go_wp2;go_ret;rw[HE.o];exact⟨⟨L,lc,rfl,Joins.ownsRow_le HO.o.ro (by omega)⟩,HBx.o⟩
  ·obtain⟨i,rfl⟩:∃i,k=i+1:=⟨k-1,by omega⟩;have hki:(((i+1:Nat):Int)-1)=(i:Int):=by omega
   rw[hki];have hi:i<ws.length:=by omega
   obtain⟨y1,e1⟩:=HL.o.rl.cell (show i<ws.length+1 by omega);have f1:wr.frozen? ⟨w.heap.size,i,none⟩=false:=HL.o.rl.frozen;have hwl:w.heap.size<wr.heap.size:=HL.o.rl.lt;have HM0:Hid (k2t wd ws w.heap.size i 0 (wr.setCell ⟨w.heap.size,i,none⟩ (.int .i64 (-1)))):=k2t.set HL.o hi rfl;clear hki hk0;go_wp2
   go_loopw [8] (fun n wx=>Below w w wx/\∃q:Nat,1<=q/\i+q<=ws.length+1/\n=.int .i64 (q:Int)/\k2t wd ws w.heap.size i (q-1) wx) (fun n _=>(ws.length+1-(intOf n).toNat))
   case atStart=>exact⟨HB.o.setCell (p:=⟨w.heap.size,i,none⟩) Zl _,1,by omega,by omega,by go_num,HM0.o⟩
   case round=>
    obtain⟨hb,q,hq1,hq2,rfl,hM⟩:=hrel;have HBy:Hid (Below w w wr):=hb;have HMy:Hid (k2t wd ws w.heap.size i (q-1) wr):=hM;clear hb hM;by_cases hlt:i+q<=ws.length
    ·obtain⟨b0,o0,ea,hb0⟩:=HW.o.some (show 0<ws.length by omega);subst ea;have hlti:(i:Int)+(q:Int)<=(ws.length:Int):=by omega
     have hltj:(q:Int)<=(ws.length:Int)-(i:Int):=by omega
     have hsl:=j8m b0 o0 ws.length cap i q (by omega) (by omega);have hcell:wr.cell? ⟨w.heap.size,i+q,none⟩=some (.int .i64 ((best wd (ws.drop (i+q)):Nat):Int)):=HMy.o.l.cl (i+q) (by omega) hlt
     have HBc:Hid (∀n,Calls prog 55 #[.slice (some ⟨b0,o0+i,none⟩) q (cap-i),.int .i64 wd,.bool ((i:Int)+(q:Int)==(ws.length:Int))] (wr.drewN n) fun e w'=>e=.returned (.int .i64 (bd (ln ((ws.drop i).take q)) wd (q==ws.length-i)))/\w'=wr.drewN n):=fun n=>
      y5f HW.o HF.o hw HBy.o i q (cap-i) n hq1 hlt
     have HO:Hid (fOf wd (ws.drop i) q=bd (ln ((ws.drop i).take q)) wd (q==ws.length-i)+best wd (ws.drop (i+q))):=j3l wd ws i q;have hfb:=j3m hw (HF.o.drop i) q;rw[HO.o]at hfb;generalize bd (ln ((ws.drop i).take q)) wd (q==ws.length-i)=bv at HBc HO hfb;generalize best wd (ws.drop (i+q))=sv at hcell HO hfb;have f2:wr.frozen? ⟨w.heap.size,i,none⟩=false:=HMy.o.l.rl.frozen;have hwr:w.heap.size<wr.heap.size:=HMy.o.l.rl.lt;have e2:=HMy.o.c;have HL2:Hid (z9s wd ws w.heap.size (i+1) wr):=HMy.o.l;by_cases hq:q=1
     ·have HP:Hid (∀nq,k2t wd ws w.heap.size i (q+1-1) ((wr.drewN nq).setCell ⟨w.heap.size,i,none⟩ (.int .i64 ((bv:Int)+(sv:Int))))):=fun nq=>
       k2t.set (w:=wr.drewN nq) (HL2.o.kept rfl) hi (by rw[<-k6t hq1 (.inl hq),HO.o];omega)
      have e3:wr.cell? ⟨w.heap.size,i,none⟩=some (.int .i64 (-1)):=by rw[e2,hq];rfl
      clear hq e2;go_wp2_with fail
      go_quiet ((go_at_call 55;exact Calls.quiet_of_same (HBc.o _)))
      go_wp2
      go_roundw
      case rel=>exact⟨(q0f HBy.o nq).setCell (p:=⟨w.heap.size,i,none⟩) Zl _,q+1,by omega,by omega,by go_num,HP.o nq⟩
      case measure=>simp[intOf];omega
     ·generalize hmv:q9c (fOf wd (ws.drop i)) (q-1)=mv;have HMV:Hid (q9c (fOf wd (ws.drop i)) (q-1)=mv):=hmv;have e3:wr.cell? ⟨w.heap.size,i,none⟩=some (.int .i64 (mv:Int)):=by rw[e2,v0q,if_neg (by omega),hmv]
      clear hmv e2;by_cases hle:bv+sv<mv
      ·have HP:Hid (∀nq,k2t wd ws w.heap.size i (q+1-1) ((wr.drewN nq).setCell ⟨w.heap.size,i,none⟩ (.int .i64 ((bv:Int)+(sv:Int))))):=fun nq=>
        k2t.set (w:=wr.drewN nq) (HL2.o.kept rfl) hi (by rw[<-k6t hq1 (.inr (by rw[HMV.o,HO.o];exact hle)),HO.o];omega)
       have hlei:(bv:Int)+(sv:Int)<(mv:Int):=by omega
       have hm0:¬(mv:Int)<0:=by omega
       clear hq hle;go_wp2_with fail
       go_quiet ((go_at_call 55;exact Calls.quiet_of_same (HBc.o _)))
       go_wp2
       go_roundw
       case rel=>exact⟨(q0f HBy.o nq).setCell (p:=⟨w.heap.size,i,none⟩) Zl _,q+1,by omega,by omega,by go_num,HP.o nq⟩
       case measure=>simp[intOf];omega
      ·have HP:Hid (∀nq,k2t wd ws w.heap.size i (q+1-1) (wr.drewN nq)):=fun nq=>by
        have h1:=HMy.o.kept (w':=wr.drewN nq) rfl;exact⟨h1.l,by rw[<-j5t hq1 hq (by rw[HMV.o,HO.o];exact hle)];exact h1.c⟩
       have hlei:¬(bv:Int)+(sv:Int)<(mv:Int):=by omega
       have hm0:¬(mv:Int)<0:=by omega
       clear hq hle;go_wp2_with fail
       go_quiet ((go_at_call 55;exact Calls.quiet_of_same (HBc.o _)))
       go_wp2
       go_roundw
       case rel=>exact⟨q0f HBy.o nq,q+1,by omega,by omega,by go_num,HP.o nq⟩
       case measure=>simp[intOf];omega
    ·have hgt:¬(q:Int)<=(ws.length:Int)-(i:Int):=by omega
     have HD:Hid (z9s wd ws w.heap.size i wr):=HMy.o.done hi (by omega);go_wp2
     go_roundw
     case rel=>exact⟨HBy.o,i,by omega,by go_num,HD.o⟩
     case measure=>simp[intOf]
end Go.Proofs.YthjapabokcajhaaGreatDoor
