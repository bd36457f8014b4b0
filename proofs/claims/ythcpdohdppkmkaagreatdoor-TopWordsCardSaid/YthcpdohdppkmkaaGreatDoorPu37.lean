import Derived.Test.YthcpdohdppkmkaaGreatDoorCards
import Derived.ProofKit
import Derived.JoinedOf
import Derived.KernelRfl
import Derived.BigQuiet
import Derived.Deep.QuietTactic
import Derived.Test.YthcpdohdppkmkaaGreatDoorPu04
open Go.Proofs.Tryz
namespace Go.Proofs.YthcpdohdppkmkaaGreatDoor
open Go Go.RowKit
set_option maxRecDepth 100000
theorem g0k:laidOutB Tryz.pinned.checked.prog=true:=by kernel_rfl
theorem g0l:mapsRowed Tryz.pinned.checked.prog=true:=by kernel_rfl
theorem g0m:Program.stopsHeard Tryz.pinned.checked.prog=true:=by kernel_rfl
theorem g0i:Program.mayEnter Tryz.pinned.checked.prog=true:=by kernel_rfl
theorem g0j:true=Program.looks Tryz.pinned.checked.prog []:=by kernel_rfl
theorem z0j{P:Program}{f:FuncId}{fn:Func}{s:ChangeSpec}{c:OpenClaim}(hL:laidOutB P=true)(hM:mapsRowed P=true)(hS:P.stopsHeard=true)(hE:P.mayEnter=true)
  (a1:(c.inPlace==P.inPlace f)=true) (a2:(c.unfollowed==P.unfollowed f)=true) (a3:(c.recurses==P.recurses f)=true) (a4:(c.named==P.varsNamed f)=true) (a5:(c.lifted==P.liftsFinal)=true) (a6:(P.make==some c.make)=true)
  (b1:c.wf (OpenSpec.ofChange s)=true) (b2:(fn.params.all (P.readableRec ·)&&namedTie P c.named s.vars&&(c.stops==[])&&(P.stops==[])&&(c.knobs==[])&&(P.stopKnobs==[]))=true)
  (b3:((c.maps==(fn.params.toList++s.plain.varTypes P).any (P.mapsRec ·))&&(c.ifaces==(fn.params.toList++s.plain.varTypes P).any (P.ifacesRec ·))&&(c.mapsOut==P.mapsAmong fn.resultTypes.toList)&&
   (c.loops==(fn.params.toList++s.plain.varTypes P).any (P.loopsFrom ·))&&(c.wideKeys==(fn.params.toList++s.plain.varTypes P++fn.resultTypes.toList).any (P.wideKeysFrom ·))&&
   s.vars.all (P.varReadable ·)&&fn.resultTypes.all (fun t=>P.readableRec t&&decide (t<P.types.size))&&(c.ifacesOut==fn.resultTypes.toList.any (P.ifacesRec ·))&&(c.loopsOut==fn.resultTypes.toList.any (P.loopsFrom ·))&&(c.plainKeys==P.plainKeys)&&c.shortTexts.isNone)=true)
  (b4:((c.kinds==(if c.domain.isEmpty then []else fn.params.toList.map fun t=>match P.underlying t with|some (.int k)=>some k|_=>none))&&(c.pinned==c.pinnedBy)&&
   (c.veiled==(fn.params.toList++s.plain.varTypes P++fn.resultTypes.toList).any (P.veiledRec ·))&&c.veiledFits P fn.params.toList (fn.params.toList++s.plain.varTypes P++fn.resultTypes.toList))=true):joinedFacts P f fn s c=true:=by
 unfold joinedFacts;simp only[Bool.and_eq_true]at b2 b3 b4;obtain⟨⟨⟨⟨⟨c1,c2⟩,c3⟩,c4⟩,c5⟩,c6⟩:=b2;obtain⟨⟨⟨⟨⟨⟨⟨⟨⟨⟨d1,d2⟩,d3⟩,d4⟩,d5⟩,d6⟩,d7⟩,d8⟩,d9⟩,d10⟩,d11⟩:=b3;obtain⟨⟨⟨e1,e2⟩,e3⟩,e4⟩:=b4;simp only[Bool.and_eq_true];exact⟨⟨⟨⟨⟨⟨⟨⟨⟨⟨⟨⟨⟨⟨⟨⟨⟨⟨⟨⟨⟨⟨⟨⟨⟨⟨⟨⟨⟨⟨⟨b1,hL⟩,hM⟩,c1⟩,c2⟩,c3⟩,c4⟩,c5⟩,c6⟩,a1⟩,a2⟩,a3⟩,a4⟩,d1⟩,d2⟩,d3⟩,d4⟩,d5⟩,d6⟩,d7⟩,d8⟩,d9⟩,d10⟩,d11⟩,hS⟩,hE⟩,a5⟩,a6⟩,e1⟩,e2⟩,e3⟩,e4⟩
theorem Td.ext2{x y:Td}(h1:x.op=y.op)(h2:x.tx=y.tx)(h3:x.n=y.n):x=y:=by
 cases x;cases y;simp_all
theorem j2l{s t:ByteArray}(h:s.data.toList=t.data.toList):s=t:=by
 apply ByteArray.ext;exact Array.toList_inj.1 h
set_option maxHeartbeats 2000000
theorem y5b(ds es:List Td)(a o:Option Addr)(cap cap2:Nat)(hl:ds.length<=4611686018427387904)(r:Bool)(hr:r=true↔ds=es)(w:World)(hN:Tds w a ds)(hM:Tds w o es):
  Calls prog 83 #[.slice a ds.length cap,.slice o es.length cap2] w fun e w'=>e=.returned (.bool r)/\∃q,w'=w.drewN q:=by
 have HN:Hid (Tds w a ds):=hN;have HM:Hid (Tds w o es):=hM
 have HNO:Hid (ds≠es->r=false):=fun h=>by
  cases r with
  | false=>rfl
  | true=>exact absurd (hr.1 rfl) h
 have HYES:Hid (ds=es->r=true):=hr.2;clear hN hM hr;by_cases hle:ds.length=es.length
 ·go_in;have h0:((ds.length:Int) != (es.length:Int))=false:=by simp[hle]
  have HL:Hid (ds.length=es.length):=hle;have hle1:(ds.length:Int)<=(es.length:Int):=by omega
  clear hle;go_wp2
  go_loopw [13] (fun i wr=>(∃q:Nat,wr=w.drewN q)/\∃k:Nat,k<=ds.length/\i=.int .i64 k/\ds.take k=es.take k) (fun i _=>ds.length-(intOf i).toNat)
  case atStart=>exact⟨⟨0,rfl⟩,0,Nat.zero_le _,rfl,by simp⟩
  case round=>
   obtain⟨⟨q,rfl⟩,k,hk,rfl,hall⟩:=hrel;have HA:Hid (ds.take k=es.take k):=hall;clear hall;by_cases hlt:k<ds.length
   ·have hlt2:k<es.length:=by have:=HL.o;omega
    have hi1:(k:Int)<(ds.length:Int):=by omega
    have hi2:(k:Int)<(es.length:Int):=by omega
    obtain⟨b,of,ea,hb,c1,c2,c3⟩:=HN.o k hlt;obtain⟨b',of',ea',hb',c1',c2',c3'⟩:=HM.o k hlt2;subst ea ea';by_cases hx:ds[k]=es[k]
    ·have HX:Hid (ds.take (k+1)=es.take (k+1)):=(show _=_ by
      rw[List.take_succ_eq_append_getElem hlt,List.take_succ_eq_append_getElem hlt2,HA.o,hx])
     rw[<-hx]at c1' c2' c3';clear hx;go_wp2_with fail
     go_quiet (fail)
     go_wp2
     go_roundw
     case rel=>exact⟨⟨_,rfl⟩,k+1,by omega,by go_num,HX.o⟩
     case measure=>simp[intOf];omega
    ·have HX:Hid (r=false):=HNO.o fun h=>hx (by subst h;rfl)
     have hc:ds[k].op≠es[k].op\/(ds[k].op=es[k].op/\ds[k].tx≠es[k].tx)\/(ds[k].op=es[k].op/\ds[k].tx=es[k].tx/\ds[k].n≠es[k].n):=by
      by_cases h1:ds[k].op=es[k].op
      ·by_cases h2:ds[k].tx=es[k].tx
       ·by_cases h3:ds[k].n=es[k].n
        ·exact absurd (Td.ext2 h1 h2 h3) hx
        ·exact .inr (.inr ⟨h1,h2,h3⟩)
       ·exact .inr (.inl ⟨h1,h2⟩)
      ·exact .inl h1
     clear hx;generalize ds[k]=x at c1 c2 c3 hc;generalize es[k]=y at c1' c2' c3' hc;rcases hc with hc|⟨e1,hc⟩|⟨e1,e2,hc⟩
     ·have g1:(x.op==y.op)=false:=by simp[hc]
      have g2:(x.op != y.op)=true:=by simp[hc]
      clear hc;go_wp2_with fail
      go_quiet (fail)
      go_wp2;go_ret;exact⟨by rw[HX.o];rfl,_,World.drewN_drewN _ _ _⟩
     ·rw[<-e1]at c1'
      have g2:(x.tx.toList==y.tx.toList)=false:=by
       rw[ByteArray.toList_eq,ByteArray.toList_eq];simp only[beq_eq_false_iff_ne,ne_eq];exact fun h=>hc (j2l h)
      clear e1 hc;go_wp2_with fail
      go_quiet (fail)
      go_wp2;go_ret;exact⟨by rw[HX.o];rfl,_,World.drewN_drewN _ _ _⟩
     ·rw[<-e1]at c1';rw[<-e2]at c2';have g1:(x.n==y.n)=false:=by simp[hc]
      have g2:(x.n != y.n)=true:=by simp[hc]
      clear e1 e2 hc;go_wp2_with fail
      go_quiet (fail)
      go_wp2;go_ret;exact⟨by rw[HX.o];rfl,_,World.drewN_drewN _ _ _⟩
   ·have HX:Hid (r=true):=HYES.o (by
     have h1:=HA.o;rw[List.take_of_length_le (by omega),List.take_of_length_le (by have:=HL.o;omega)]at h1
     exact h1)
    go_wp2;go_ret;exact⟨by rw[HX.o];rfl,q,rfl⟩
 ·have h0:((ds.length:Int) != (es.length:Int))=true:=by simp;omega
  have HX:Hid (r=false):=HNO.o fun h=>hle (by rw[h])
  clear hle;go_in;go_wp2;go_ret;exact⟨by rw[HX.o];rfl,0,rfl⟩
theorem j9j(ds es:List Td)(a o:Option Addr)(cap cap2:Nat)(hl:ds.length<=4611686018427387904)(r:Bool)(hr:r=true↔ds=es)(w:World)(hN:Tds w a ds)(hM:Tds w o es):
  Calls prog 45 #[.slice a ds.length cap,.slice o es.length cap2] w fun e w'=>e=.returned (.bool r)/\∃q,w'=w.drewN q:=by
 have HE:Hid (Calls prog 83 #[.slice a ds.length cap,.slice o es.length cap2] w fun e w'=>e=.returned (.bool r)/\∃q,w'=w.drewN q):=y5b ds es a o cap cap2 hl r hr w hN hM;clear hl hr hN hM;generalize ds.length=n1 at HE⊢;generalize es.length=n2 at HE⊢;go_in;go_wp2_with fail;refine HE.o.mono ?_;rintro e w2⟨rfl,q,rfl⟩;go_wp2;go_ret;exact⟨rfl,q,rfl⟩
theorem y5a(ps qs:List (List Td))(a o:Option Addr)(cap cap2:Nat)(hl:ps.length<=4611686018427387904)(hlp:∀t∈ps,t.length<=4611686018427387904)(r:Bool)(hr:r=true↔ps=qs)(w:World)(hN:Prg w a ps)(hM:Prg w o qs):
  Calls prog 44 #[.slice a ps.length cap,.slice o qs.length cap2,.func (.func 45) #[] #[]] w fun e w'=>e=.returned (.bool r)/\∃q,w'=w.drewN q:=by
 have HN:Hid (Prg w a ps):=hN;have HM:Hid (Prg w o qs):=hM;have HLP:Hid (∀t∈ps,t.length<=4611686018427387904):=hlp
 have HNO:Hid (ps≠qs->r=false):=fun h=>by
  cases r with
  | false=>rfl
  | true=>exact absurd (hr.1 rfl) h
 have HYES:Hid (ps=qs->r=true):=hr.2;clear hN hM hlp hr;by_cases hle:ps.length=qs.length
 ·go_in;have h0:((ps.length:Int) != (qs.length:Int))=false:=by simp[hle]
  have HL:Hid (ps.length=qs.length):=hle;have hle1:(ps.length:Int)<=(qs.length:Int):=by omega
  clear hle;go_wp2
  go_loopw [17] (fun i wr=>(∃q:Nat,wr=w.drewN q)/\∃k:Nat,k<=ps.length/\i=.int .i64 k/\ps.take k=qs.take k) (fun i _=>ps.length-(intOf i).toNat)
  case atStart=>exact⟨⟨0,rfl⟩,0,Nat.zero_le _,rfl,by simp⟩
  case round=>
   obtain⟨⟨q,hwr⟩,k,hk,rfl,hall⟩:=hrel;have HWR:Hid (wr=w.drewN q):=hwr;have HNr:Hid (Prg wr a ps):=(show Prg wr a ps by rw[hwr];exact HN.o);have HMr:Hid (Prg wr o qs):=(show Prg wr o qs by rw[hwr];exact HM.o);have HA:Hid (ps.take k=qs.take k):=hall;clear hall hwr;by_cases hlt:k<ps.length
   ·have hlt2:k<qs.length:=by have:=HL.o;omega
    have hki:(k:Int)<(ps.length:Int):=by omega
    have hki2:(k:Int)<(qs.length:Int):=by omega
    obtain⟨b,of,a1,c1,ea,hb,d1,_,hT1⟩:=HNr.o k hlt;obtain⟨b',of',a2,c2,ea',hb',d2,_,hT2⟩:=HMr.o k hlt2;subst ea ea';have hxl:=HLP.o _ (List.getElem_mem hlt);by_cases heq:ps[k]=qs[k]
    ·have HS:Hid (Calls prog 45 #[.slice a1 ps[k].length c1,.slice a2 qs[k].length c2] wr fun e w'=>e=.returned (.bool true)/\∃m,w'=wr.drewN m):=j9j _ _ a1 a2 c1 c2 hxl true (by simp[heq]) wr hT1 hT2
     have HY:Hid (ps.take (k+1)=qs.take (k+1)):=(show _=_ by
      rw[List.take_succ_eq_append_getElem hlt,List.take_succ_eq_append_getElem hlt2,HA.o,heq])
     clear hT1 hT2 heq hxl;generalize ps[k].length=n1 at d1 HS;generalize qs[k].length=n2 at d2 HS;go_wp2_with fail;refine HS.o.mono ?_;rintro e w2⟨rfl,m,rfl⟩;go_wp2
     go_roundw
     case rel=>exact⟨⟨_,by rw[HWR.o,World.drewN_drewN]⟩,k+1,by omega,by go_num,HY.o⟩
     case measure=>simp[intOf];omega
    ·have HS:Hid (Calls prog 45 #[.slice a1 ps[k].length c1,.slice a2 qs[k].length c2] wr fun e w'=>e=.returned (.bool false)/\∃m,w'=wr.drewN m):=j9j _ _ a1 a2 c1 c2 hxl false (by simp[heq]) wr hT1 hT2;have HX:Hid (r=false):=HNO.o fun h=>heq (by subst h;rfl)
     clear hT1 hT2 heq hxl;generalize ps[k].length=n1 at d1 HS;generalize qs[k].length=n2 at d2 HS;go_wp2_with fail;refine HS.o.mono ?_;rintro e w2⟨rfl,m,rfl⟩;go_wp2;go_ret;exact⟨by rw[HX.o];rfl,_,by rw[HWR.o,World.drewN_drewN]⟩
   ·have HX:Hid (r=true):=HYES.o (by
     have h1:=HA.o;rw[List.take_of_length_le (by omega),List.take_of_length_le (by have:=HL.o;omega)]at h1
     exact h1)
    go_wp2;go_ret;exact⟨by rw[HX.o];rfl,q,HWR.o⟩
 ·have h0:((ps.length:Int) != (qs.length:Int))=true:=by simp;omega
  have HX:Hid (r=false):=HNO.o fun h=>hle (by rw[h])
  clear hle;go_in;go_wp2;go_ret;exact⟨by rw[HX.o];rfl,0,rfl⟩
def Txt(D:Tr)(r:List UInt8):Prop:=D.flat=some r\/∃deep cs cs',D.lay deep cs=.ok (r,cs')
def LxD(D:Tr)(ws:List Wd):Prop:=∀r,Txt D r->Lx r ws
def g4a(D:Tr):Prop:=∀r,Txt D r->∀a,r.getLast?=some a->q6y a=true
def y3h(D:Tr):Prop:=∀r,Txt D r->∀a,r.head?=some a->q6y a=true
theorem v3n{s r:List UInt8}(h:Txt (wdD s) r):r=s:=by
 rcases h with h|⟨deep,cs,cs',h⟩
 ·cases h;rfl
 ·cases h;rfl
theorem q8x{D:Tr}{r:List UInt8}{op:Int}(hD:D=.leaf ⟨op,⟨#[]⟩,0⟩)(hop:op=2\/op=3)(h:Txt D r):∀c∈r,c=32\/c=10:=by
 subst hD;rcases h with h|⟨deep,cs,cs',h⟩
 ·rcases hop with rfl|rfl
  ·cases h;simp
  ·cases h;simp
 ·have:r=10::List.replicate deep 32:=by
   rcases hop with rfl|rfl<;>(cases h;rfl)
  subst this;intro c hc;rcases List.mem_cons.1 hc with rfl|hc
  ·exact .inr rfl
  ·exact .inl (List.eq_of_mem_replicate hc)
theorem v3m{a b:Tr}{r:List UInt8}(h:Txt (twD a b) r):∃ra rb,Txt a ra/\Txt b rb/\r=ra++rb:=by
 rcases h with h|⟨deep,cs,cs',h⟩
 ·simp only[Tr.flat,if_true]at h;cases ea:a.flat with
  | none=>rw[ea]at h;cases h
  | some s=>
   cases eb:b.flat with
   | none=>rw[ea,eb]at h;cases h
   | some t=>
    rw[ea,eb]at h;cases h;exact⟨s,t,.inl ea,.inl eb,rfl⟩
 ·simp only[Tr.lay,if_true]at h;cases la:a.lay deep cs with
  | error e=>rw[la]at h;cases h
  | ok p=>
   obtain⟨r1,c1⟩:=p;rw[la]at h;simp only at h;cases lb:b.lay deep c1 with
   | error e=>rw[lb]at h;cases h
   | ok p2=>
    obtain⟨r2,c2⟩:=p2;rw[lb]at h;cases h;exact⟨r1,r2,.inr ⟨_,_,_,la⟩,.inr ⟨_,_,_,lb⟩,rfl⟩
theorem y3e{a:Tr}{r:List UInt8}(h:Txt (dpD a) r):Txt a r:=by
 rcases h with h|⟨deep,cs,cs',h⟩
 ·exact .inl h
 ·exact .inr ⟨_,cs,cs',h⟩
theorem g3h{a:Tr}{r:List UInt8}(h:Txt (grD a) r):Txt a r:=by
 rcases h with h|⟨deep,cs,cs',h⟩
 ·exact .inl h
 ·simp only[Tr.lay]at h;rw[if_neg (by decide)]at h;cases cs with
  | nil=>cases h
  | cons c cs=>
   simp only at h
   split at h
   ·exact .inr ⟨_,_,_,h⟩
   ·cases ha:a.flat with
    | none=>rw[ha]at h;cases h
    | some s=>rw[ha]at h;cases h;exact .inl ha
theorem v0e:∀r:List UInt8,(∀c∈r,c=32\/c=10)->Lx r []
 | [],_=>Lx.nil
 | c::r,h=>by
  have h1:spB c=true/\q6y c=true:=by
   rcases h c (by simp)with rfl|rfl<;>exact⟨by decide,by decide⟩
  exact Lx.pre (Lx.blank h1.1) h1.2 (v0e r fun x hx=>h x (by simp[hx]))
theorem v2l{r:List UInt8}(h:∀c∈r,c=32\/c=10):(∀a,r.getLast?=some a->q6y a=true)/\(∀a,r.head?=some a->q6y a=true):=by
 have:∀a∈r,q6y a=true:=fun a ha=>by rcases h a ha with rfl|rfl<;>decide
 exact⟨fun a ha=>this a (List.mem_of_getLast? ha),fun a ha=>this a (List.mem_of_mem_head? ha)⟩
theorem z5j{s:List UInt8}{ws:List Wd}(h:Lx s ws):LxD (wdD s) ws:=fun r hr=>by rw[v3n hr];exact h
theorem v7r:LxD blD []:=fun r hr=>v0e r (q8x rfl (.inl rfl) hr)
theorem g1j:LxD sfD []:=fun r hr=>v0e r (q8x rfl (.inr rfl) hr)
theorem v7s{a:Tr}{ws:List Wd}(h:LxD a ws):LxD (dpD a) ws:=fun _ hr=>h _ (y3e hr)
theorem v7t{a:Tr}{ws:List Wd}(h:LxD a ws):LxD (grD a) ws:=fun _ hr=>h _ (g3h hr)
theorem q7k{a b:Tr}{us vs:List Wd}(ha:LxD a us)(hb:LxD b vs)(h:g4a a\/y3h b):LxD (twD a b) (us++vs):=fun r hr=>by
 obtain⟨ra,rb,h1,h2,rfl⟩:=v3m hr;refine Lx.app (ha ra h1) (hb rb h2) fun x y hx hy=>?_
 rcases h with h|h
 ·exact k2k (h ra h1 x hx)
 ·exact z7j (h rb h2 y hy)
theorem v6f{s:List UInt8}{c:UInt8}(h:q6y c=true):g4a (wdD (s++[c])):=fun r hr a ha=>by
 rw[v3n hr,List.getLast?_append]at ha;simp at ha;subst ha;exact h
theorem v5l{s:List UInt8}{c:UInt8}(h:q6y c=true):y3h (wdD (c::s)):=fun r hr a ha=>by
 rw[v3n hr]at ha;simp at ha;subst ha;exact h
theorem v6e:g4a blD:=fun _ hr=>(v2l (q8x rfl (.inl rfl) hr)).1
theorem g0b:g4a sfD:=fun _ hr=>(v2l (q8x rfl (.inr rfl) hr)).1
theorem v5j(b:Tr):y3h (twD blD b):=fun r hr a ha=>by
 obtain⟨ra,rb,h1,h2,rfl⟩:=v3m hr;have h3:=q8x rfl (.inl rfl) h1
 have hne:ra≠[]:=by
  rcases h1 with h|⟨deep,cs,cs',h⟩
  ·cases h;simp
  ·cases h;simp
 obtain⟨c,ra',rfl⟩:=List.exists_cons_of_ne_nil hne;simp at ha;subst ha;rcases h3 c (by simp)with rfl|rfl<;>decide
theorem g4v{b:Tr}(h:y3h b):y3h (twD sfD b):=fun r hr a ha=>by
 obtain⟨ra,rb,h1,h2,rfl⟩:=v3m hr;have h3:=q8x rfl (.inr rfl) h1;cases ra with
 | nil=>exact h rb h2 a (by simpa using ha)
 | cons c ra'=>
  simp at ha;subst ha;rcases h3 c (by simp)with rfl|rfl<;>decide
theorem y4b{a:Tr}(h:y3h a):y3h (dpD a):=fun r hr=>h r (y3e hr)
theorem v7u{x:Td}{d:Tr}{t:Tn}(hx:x=t.x)(h:LxD d t.tk)(l:Nat):LxD (inD l x d) (brk l t):=by
 unfold inD brk;rw[hx]
 split
 ·have h1:LxD (wdD [41]) [[41]]:=z5j (Lx.mark (by decide));have h2:LxD (wdD [40]) [[40]]:=z5j (Lx.mark (by decide));exact q7k h2 (q7k h h1 (.inr (v5l (by decide)))) (.inl (v6f (s:=[]) (by decide)))
 ·exact h
inductive Mks:List (Td × Tr)->List Tn->Prop where
 | nil:Mks [] []
 | cons {p t ps ts}:p.1=t.x->LxD p.2 t.tk->Mks ps ts->Mks (p::ps) (t::ts)
theorem g1i:∀{ps:List (Td × Tr)}{ts:List Tn},Mks ps ts->ps≠[]->LxD (kdD ps) (cmk ts)
 | _,_,.cons _ h .nil,_=>by simp only[kdD,cmk,List.append_nil];exact h
 | _,_,.cons (ps:=p::ps) (ts:=t::ts) _ h (.cons e2 h2 h3),_=>by
  have ih:=g1i (Mks.cons e2 h2 h3) (by simp);have h44:LxD (wdD [44]) [[44]]:=z5j (Lx.mark (by decide));have h5:=q7k (q7k h h44 (.inr (v5l (by decide)))) (q7k v7r ih (.inl v6e)) (.inr (v5j _));show LxD (twD (twD _ (wdD [44])) (twD blD (kdD (p::ps)))) _;rw[show ∀z:Tn,cmk (z::t::ts)=(z.tk++[[44]])++([]++cmk (t::ts))from fun z=>by simp[cmk]];exact h5
theorem v0d{ps:List (Td × Tr)}{ts:List Tn}(h:Mks ps ts){op:List UInt8}{o:UInt8}{cl:UInt8}{ws:List Wd}(ho:q6y o=true)(hop:Lx (op++[o]) ws)(hc:y8y cl=true)(hcs:q6y cl=true):LxD (q1y (op++[o]) [cl] ps) (ws++cmk ts++[[cl]]):=by
 have hcl:LxD (wdD [cl]) [[cl]]:=z5j (Lx.mark hc);unfold q1y
 split
 ·rename_i h0;cases h with
  | nil=>
   refine z5j ?_
   have:=Lx.app hop (Lx.mark hc) (q8l ho op [cl])
   simpa[cmk]using this
  | cons=>simp at h0
 ·rename_i h0;have hne:ps≠[]:=fun e=>h0 (by rw[e];rfl)
  have h5:=q7k (z5j hop) (q7k (v7s (q7k g1j (g1i h hne) (.inl g0b))) (q7k g1j hcl (.inl g0b)) (.inr (g4v (v5l hcs)))) (.inl (v6f ho));refine v7t ?_;have e:ws++cmk ts++[[cl]]=ws++([]++cmk ts++([]++[[cl]])):=by simp
  rw[e];exact h5
theorem g5k{x:Td}{ps:List (Td × Tr)}{ts:List Tn}(h:Mks ps ts)(hx:exN x)(hk:ps.length=kdT x):LxD (q0l x ps) (q2w x ts):=by
 have two:kdT x=2->∃a b c d,ps=[a,b]/\ts=[c,d]/\(a.1=c.x/\LxD a.2 c.tk)/\(b.1=d.x/\LxD b.2 d.tk):=fun e=>by
  rw[e]at hk;cases h with
  | nil=>simp at hk
  | cons h1 h1' h2=>cases h2 with
   | nil=>simp at hk
   | cons h3 h3' h4=>cases h4 with
    | nil=>exact⟨_,_,_,_,rfl,rfl,⟨h1,h1'⟩,⟨h3,h3'⟩⟩
    | cons=>simp at hk
 have nm:q0z x.tx=true->Lx (btL x.tx) [btL x.tx]:=fun hn=>by
  have h8:=q2e hn;simp only[q0z,Bool.and_eq_true,decide_eq_true_eq,List.all_eq_true]at hn;refine Lx.name hn.2 ?_ h8;intro e
  have:=q0b x.tx
  rw[e]at this;simp at this;omega
 have sg:∀c:UInt8,y8y c=true->q6y c=true->LxD (wdD [c,32]) [[c]]:=fun c hc hs=>by
  refine z5j ?_
  have:=Lx.app (Lx.mark hc) (Lx.blank (c:=32) (by decide)) (q2m (by decide) [])
  simpa using this
 rcases q2j hx with⟨ho,_,h0,h9,_⟩|⟨ho,hn,_⟩|⟨ho,hn,_⟩|⟨ho,_⟩|⟨ho,_,_,h2⟩|⟨ho,_,_,h2⟩
 ·rw[show q0l x ps=wdD (q3q x.n.toNat) by simp[q0l,ho],show q2w x ts=[q3q x.n.toNat] by simp[q2w,ho]];exact z5j (Lx.num _ (by omega))
 ·rw[show q0l x ps=wdD (btL x.tx) by simp[q0l,ho],show q2w x ts=[btL x.tx] by simp[q2w,ho]];exact z5j (nm hn)
 ·rw[show q0l x ps=q1y (btL x.tx++[40]) [41] ps by simp[q0l,ho],show q2w x ts=[btL x.tx,[40]]++cmk ts++[[41]] by simp[q2w,ho]];refine v0d h (by decide) ?_ (by decide) (by decide);exact Lx.post (nm hn) (by decide) (Lx.mark (by decide))
 ·rw[show q0l x ps=q1y ([]++[91]) [93] ps by simp[q0l,ho],show q2w x ts=[[91]]++cmk ts++[[93]] by simp[q2w,ho]];exact v0d h (by decide) (Lx.mark (by decide)) (by decide) (by decide)
 ·obtain⟨a,b,c,d,rfl,rfl,h3,h4⟩:=two h2;rw[show q0l x [a,b]=grD (twD (inD 0 a.1 a.2) (dpD (twD blD (twD (wdD [43,32]) (inD 1 b.1 b.2))))) by simp[q0l,tw2,ho],show q2w x [c,d]=brk 0 c++([]++([[43]]++brk 1 d)) by simp[q2w,two2,ho]];exact v7t (q7k (v7u h3.1 h3.2 0) (v7s (q7k v7r (q7k (sg 43 (by decide) (by decide)) (v7u h4.1 h4.2 1) (.inl (v6f (s:=[43]) (by decide)))) (.inl v6e))) (.inr (y4b (v5j _))))
 ·obtain⟨a,b,c,d,rfl,rfl,h3,h4⟩:=two h2;rw[show q0l x [a,b]=grD (twD (inD 1 a.1 a.2) (dpD (twD blD (twD (wdD [42,32]) (inD 2 b.1 b.2))))) by simp[q0l,tw2,ho],show q2w x [c,d]=brk 1 c++([]++([[42]]++brk 2 d)) by simp[q2w,two2,ho]];exact v7t (q7k (v7u h3.1 h3.2 1) (v7s (q7k v7r (q7k (sg 42 (by decide) (by decide)) (v7u h4.1 h4.2 2) (.inl (v6f (s:=[42]) (by decide)))) (.inl v6e))) (.inr (y4b (v5j _))))
theorem j7i:∀F:Fo,F.ok->F.exs->Mks F.D F.R
 | .nil,_,_=>.nil
 | .cons x k n,hok,hex=>by
  have h1:=j7i k hok.2.1 fun y hy=>hex y (by simp[Fo.N,hy])
  have h2:=j7i n hok.2.2 fun y hy=>hex y (by simp[Fo.N,hy])
  exact .cons rfl (g5k h1 (hex x (by simp[Fo.N])) (by rw[q7p];exact hok.1)) h2
theorem y9y{t:List Td}(h:q0d t=0)(h9:opT t≠9){r:List UInt8}(hr:Txt (q0n t) r):Lx r (q5l t):=by
 obtain⟨x,y,k,rfl,hok,hex,hk,hx⟩:=q7b h h9;have hm:=j7i _ hok hex
 have hd:LxD (q0l y k.D) (q0m y k.R).tk:=by
  cases hm with
  | cons _ h1 _=>exact h1
 have e0:q0n (x::(Fo.cons y k .nil).N)=stD x (q0l y k.D):=z1g hok hk;have e1:q5l (x::(Fo.cons y k .nil).N)=stK x (Fo.cons y k .nil).R:=(q7a hok hk).2;have h59:LxD (wdD [59]) [[59]]:=z5j (Lx.mark (by decide));rw[e0]at hr;rw[e1];generalize q0l y k.D=D at hd hr;have hD:LxD (twD D (wdD [59])) ((q0m y k.R).tk++[[59]]):=q7k hd h59 (.inr (v5l (by decide)));rcases hx with⟨ho,hnm,_⟩|⟨ho,_,_⟩
 ·rw[stD,if_pos ho]at hr;have h8:=q2e hnm;have hnm':=hnm;simp only[q0z,Bool.and_eq_true,decide_eq_true_eq,List.all_eq_true]at hnm';have hnl:Lx (btL x.tx) [btL x.tx]:=Lx.name hnm'.2 (by intro e;have:=q0b x.tx;rw[e]at this;simp at this;omega) h8;have hlet:Lx [108,101,116] [[108,101,116]]:=Lx.name (by decide) (by decide) (by decide)
  have hpre:Lx ([108,101,116,32]++btL x.tx++[32,61]) [[108,101,116],btL x.tx,[61]]:=by
   have q1:Lx ([108,101,116]++[32]) ([[108,101,116]]++[]):=Lx.post hlet (by decide) (Lx.blank (by decide));have q2:=Lx.app q1 hnl (q8l (by decide) _ _);have q3:=Lx.post q2 (c:=32) (by decide) (Lx.blank (by decide));have q4:=Lx.post q3 (c:=61) (by decide) (Lx.mark (by decide));have e:[108,101,116,32]++btL x.tx++[32,61]=[108,101,116]++[32]++btL x.tx++[32]++[61]:=by simp
   rw[e];simpa using q4
  have h5:=v7t (q7k (z5j hpre) (v7s (q7k v7r hD (.inl v6e))) (.inr (y4b (v5j _))));have h6:=h5 r hr;simpa[stK,ho,hdK,Fo.R]using h6
 ·rw[stD,if_neg (by omega)]at hr;have h6:=hD r hr;simpa[stK,ho,hdK,Fo.R]using h6
def GOk(g:List Wd):Prop:=g≠[]/\g.length<=60/\∀w∈g,w≠[]/\w.length<=20/\∀b∈w,q8z b=true
theorem y2w:∀g:List Wd,g≠[]->(∀w∈g,∀b∈w,b≠32)->q5r (jb g)=g
 | [w],_,h=>by
  have e:jb [w]=w:=by simp[jb]
  rw[e,j1o w (h w (by simp))]
 | w::u::r,_,h=>by
  have ih:=y2w (u::r) (by simp) fun x hx=>h x (by simp at hx⊢;right;exact hx)
  have e:jb (w::u::r)=w++32::jb (u::r):=rfl;rw[e,j1n _ _ (h w (by simp)),ih]
theorem y8r{b:UInt8}(h:q8z b=true):b≠32:=fun e=>by subst e;revert h;decide
theorem j8z{g:List Wd}(h:GOk g):jb g≠[]:=by
 obtain⟨w,r,rfl⟩:=List.exists_cons_of_ne_nil h.1;have hw:=(h.2.2 w (by simp)).1;intro e
 have:w++(match r with|[]=>[]|_::_=>32::jb r)=[]:=e
 exact hw (List.append_eq_nil_iff.1 this).1
theorem v0u{g:List Wd}(h:GOk g):q0j (jb g)=g/\q3m (wbS (jb g))=0:=by
 have h1:q0j (jb g)=g:=by rw[q0j,if_neg (j8z h),y2w g h.1 fun w hw b hb=>y8r ((h.2.2 w hw).2.2 b hb)]
 refine⟨h1,?_⟩;show q1i ((q0j (jb g)).map wbS)=0;rw[h1,q1i,if_neg (by rw[List.length_map];have:=h.2.1;omega),if_pos];rw[List.all_eq_true];intro x hx;obtain⟨w,hw,rfl⟩:=List.mem_map.1 hx;obtain⟨q1,q2,q3⟩:=h.2.2 w hw;have e:(wbS w).size=w.length:=by rw[<-q0b];rfl
 have:=List.length_pos_iff.2 q1
 simp only[okW,Bool.and_eq_true,decide_eq_true_eq,List.all_eq_true];exact⟨⟨by omega,by omega⟩,q3⟩
abbrev lnW(g:List Wd):Wd:=[35,32]++jb g
theorem y1z{g:List Wd}(h:GOk g):z9z (wbS (jb g))=lnW g:=by
 have e:(wbS (jb g)).size=(jb g).length:=by rw[<-q0b];rfl
 have:=List.length_pos_iff.2 (j8z h)
 rw[z9z,if_neg (by omega)];rfl
theorem y5z{g:List Wd}(h:GOk g)(rest:List UInt8)(i:Nat):(lxW (lnW g++10::rest) i).map (·.2)=lnW g::(lxW rest (i+(lnW g).length+1)).map (·.2)/\lxF (lnW g++10::rest) i=lxF rest (i+(lnW g).length+1):=by
 have e2:=j0o (k0b (v0u h).2) rest i;rw[y1z h]at e2;rw[lxW,lxF,e2];exact⟨rfl,rfl⟩
inductive FmS (t:List Td):List UInt8->List Wd->Prop where
 | doc {r cs cs'}:opT t≠9->(q0n t).lay 0 cs=.ok (r,cs')->FmS t (r++[10]) (q5l t)
 | empty {x}:t=[x]->x.op=9->btL x.tx=[]->FmS t [35,10] [[35]]
 | note {x gs}:t=[x]->x.op=9->gs≠[]->(∀g∈gs,GOk g)->gs.flatten=q0j (btL x.tx)->btL x.tx≠[]->FmS t (gs.flatMap fun g=>lnW g++[10]) (gs.map lnW)
inductive FmP:List (List Td)->List UInt8->List Wd->Prop where
 | nil:FmP [] [] []
 | cons {t ps s ss ws us}:FmS t s ws->FmP ps ss us->FmP (t::ps) (s++ss) (ws++us)
theorem y2a:∀(gs:List (List Wd)),(∀g∈gs,GOk g)->∀(rest:List UInt8)(i:Nat),∃j,(lxW ((gs.flatMap fun g=>lnW g++[10])++rest) i).map (·.2)=gs.map lnW++(lxW rest j).map (·.2)/\lxF ((gs.flatMap fun g=>lnW g++[10])++rest) i=lxF rest j
 | [],_,rest,i=>⟨i,by simp,by simp⟩
 | g::gs,h,rest,i=>by
  obtain⟨a1,a2⟩:=y5z (h g (by simp)) ((gs.flatMap fun g=>lnW g++[10])++rest) i;obtain⟨j,b1,b2⟩:=y2a gs (fun x hx=>h x (by simp[hx])) rest (i+(lnW g).length+1);have e:((g::gs).flatMap fun g=>lnW g++[10])++rest=lnW g++10::((gs.flatMap fun g=>lnW g++[10])++rest):=by simp
  refine⟨j,?_,?_⟩
  ·rw[e,a1,b1];simp
  ·rw[e,a2,b2]
theorem g0t{t:List Td}(h:q0d t=0){s:List UInt8}{ws:List Wd}(hf:FmS t s ws)(rest:List UInt8)(i:Nat):∃j,(lxW (s++rest) i).map (·.2)=ws++(lxW rest j).map (·.2)/\lxF (s++rest) i=lxF rest j:=by
 cases hf with
 | doc h9 hr=>
  have hl:=Lx.post (y9y h h9 (.inr ⟨_,_,_,hr⟩)) (c:=10) (by decide) (Lx.blank (c:=10) (by decide));rw[List.append_nil]at hl;exact⟨_,hl rest i (q8l (by decide) _ _)⟩
 | empty=>
  have h0:q3m (⟨#[]⟩:ByteArray)=0:=by decide
  have e2:=j0o (k0b h0) rest i;have e3:z9z (⟨#[]⟩:ByteArray)=[35]:=rfl;rw[e3]at e2;refine⟨i+([35]:Wd).length+1,?_,?_⟩
  ·show(lxW ([35]++10::rest) i).map (·.2)=_
   rw[lxW,e2];rfl
  ·show lxF ([35]++10::rest) i=_;rw[lxF,e2]
 | note _ _ _ hg=>exact y2a _ hg rest i
theorem j8l:∀{ps:List (List Td)}{s:List UInt8}{ws:List Wd}{prev:Int},okP prev ps->FmP ps s ws->∀i,(lxW s i).map (·.2)=ws/\lxF s i=none
 | _,_,_,_,_,.nil,i=>by rw[lxW,lxF,q9c];exact⟨rfl,rfl⟩
 | _,_,_,_,h,.cons h1 h2,i=>by
  obtain⟨j,a1,a2⟩:=g0t h.1 h1 _ i;obtain⟨b1,b2⟩:=j8l h.2.2 h2 j;rw[a1,a2,b1,b2];exact⟨rfl,rfl⟩
theorem g2k{t:List Td}(h:q0d t=0)(h9:opT t≠9){pv:Bool}{acc:List (List Td)}{rest:List Wd}{R:Rp}(hr:PG false (acc++[t]) rest R):PG pv acc (q5l t++rest) R:=by
 rcases q2v h with⟨x,rfl,ho,_⟩|⟨x,F,rfl,hok,hex,hl,hx⟩
 ·exact absurd ho h9
 ·have hkd:F.len=kdT x:=by
   rw[hl];unfold kdT;rcases hx with⟨h,_⟩|⟨h,_⟩<;>rw[h]<;>rfl
  obtain⟨_,e2⟩:=q7a hok hkd;have htl:F.R.length=1:=by rw[q2s];exact hl
  obtain⟨t,ht⟩:∃t,F.R=[t]:=by
   match F.R,htl with
   | [t],_=>exact⟨t,rfl⟩
  have hrd:=z1a F hok hex t (by rw[ht];simp)
  have hns:t.ns=F.N:=by
   have:=q8c F
   rw[ht]at this;simpa using this
  have hlv:=z9q hrd (rest:=[59]::rest) (by simp) (by simp) (by simp);rw[hns]at hlv;rw[e2,ht];rcases hx with⟨ho,hnm,hn⟩|⟨ho,htx,hn⟩
  ·have q2:stK x [t]++rest=q9l::btL x.tx::[61]::(t.tk++[59]::rest):=by simp[stK,ho,hdK]
   have hx:x=z3x (btL x.tx):=z2w ho rfl hn;rw[q2];refine .letO hnm hlv ?_;rw[<-hx];exact hr
  ·have q2:stK x [t]++rest=t.tk++[59]::rest:=by simp[stK,ho,hdK]
   have hx:x=doT:=z2w ho htx hn;obtain⟨w,z,ew,hw⟩:=hrd.b;have hne:=z4m hw;rw[q2];rw[ew,List.cons_append]at hlv⊢;refine .doO hne.2.2.2.2 hne.2.2.2.1 hlv ?_;rw[<-hx];exact hr
theorem z5k{g:List Wd}(h:GOk g):q5i (lnW g)=jb g:=by
 have:=z7v (v0u h).2
 rw[y1z h]at this;exact this
theorem k2o:∀(a b:List Wd),a≠[]->b≠[]->jb (a++b)=jb a++32::jb b
 | [w],b,_,hb=>by
  obtain⟨u,r,rfl⟩:=List.exists_cons_of_ne_nil hb;simp[jb]
 | w::u::r,b,_,hb=>by
  have ih:=k2o (u::r) b (by simp) hb;have e1:jb (w::u::r++b)=w++32::jb (u::r++b):=rfl;have e2:jb (w::u::r)=w++32::jb (u::r):=rfl;rw[e1,e2,ih];simp
theorem v8y:∀(gs:List (List Wd)),(∀g∈gs,GOk g)->∀(acc:List (List Td))(g0:List Wd),GOk g0->∀{rest:List Wd}{R:Rp},PG true (acc++[[ntT (jb (g0++gs.flatten))]]) rest R->PG true (acc++[[ntT (jb g0)]]) (gs.map lnW++rest) R
 | [],_,acc,g0,_,rest,R,h=>by simpa using h
 | g::gs,hg,acc,g0,h0,rest,R,h=>by
  have hgg:=hg g (by simp);rw[List.map_cons,List.cons_append];refine .note rfl ?_;rw[z5k hgg]
  have e1:k5g true (acc++[[ntT (jb g0)]]) (jb g)=acc++[[ntT (jb (g0++g))]]:=by
   have e:q5g (acc++[[ntT (jb g0)]])=jb g0:=by simp[q5g,ntT];rfl
   show(acc++[[ntT (jb g0)]]).dropLast++[[ntT (z1t (q5g (acc++[[ntT (jb g0)]])) (jb g))]]=_
   rw[e,z1t,if_pos ⟨j8z hgg,j8z h0⟩,k2o g0 g h0.1 hgg.1];simp
  rw[e1]
  have key:∀(gs:List (List Wd)),(∀g∈gs,GOk g)->∀(z:List Wd),z≠[]->jb z≠[]->∀{rest:List Wd}{R:Rp},PG true (acc++[[ntT (jb (z++gs.flatten))]]) rest R->PG true (acc++[[ntT (jb z)]]) (gs.map lnW++rest) R:=by
   intro gs
   induction gs with
   | nil=>intro _ z _ _ rest R h;simpa using h
   | cons g gs ih=>
    intro hg z hz hz2 rest R h;have hgg:=hg g (by simp);rw[List.map_cons,List.cons_append];refine .note rfl ?_;rw[z5k hgg]
    have e1:k5g true (acc++[[ntT (jb z)]]) (jb g)=acc++[[ntT (jb (z++g))]]:=by
     have e:q5g (acc++[[ntT (jb z)]])=jb z:=by simp[q5g,ntT];rfl
     show(acc++[[ntT (jb z)]]).dropLast++[[ntT (z1t (q5g (acc++[[ntT (jb z)]])) (jb g))]]=_
     rw[e,z1t,if_pos ⟨j8z hgg,hz2⟩,k2o z g hz hgg.1];simp
    rw[e1];refine ih (fun x hx=>hg x (by simp[hx])) (z++g) (by simp[hz]) (by rw[k2o z g hz hgg.1];simp) ?_;simpa[List.append_assoc]using h
  refine key gs (fun x hx=>hg x (by simp[hx])) (g0++g) (by simp[h0.1]) (by rw[k2o g0 g h0.1 hgg.1];simp) ?_;simpa[List.append_assoc]using h
theorem j8m:∀{ps:List (List Td)}{s:List UInt8}{ws:List Wd},FmP ps s ws->∀(prev:Int)(pv:Bool)(acc:List (List Td)),okP prev ps->(pv=true->prev=9)->PG pv acc ws (.ok (acc++ps))
 | _,_,_,.nil,_,_,acc,_,_=>by simpa using PG.done
 | t::ps,_,_,.cons (us:=us) h1 h2,prev,pv,acc,h,hpv=>by
  have ih:∀pv',(pv'=true->opT t=9)->PG pv' (acc++[t]) us (.ok (acc++[t]++ps)):=fun pv' h'=>j8m h2 (opT t) pv' (acc++[t]) h.2.2 h'
  have e0:acc++t::ps=acc++[t]++ps:=by simp
  rw[e0]
  have hpf:opT t=9->pv=false:=fun ho=>by
   cases pv with
   | false=>rfl
   | true=>exact absurd ⟨ho,hpv rfl⟩ h.2.1
  cases h1 with
  | doc h9 _=>exact g2k h.1 h9 (ih false (fun e=>by cases e))
  | @empty x he ho hx=>
   subst he;have ho':opT [x]=9:=ho;rw[hpf ho']
   have hn:x.n=0:=by
    rcases q2v h.1 with⟨y,e,_,hn,_⟩|⟨y,F,e,_,_,hl,hy⟩
    ·cases e;exact hn
    ·rcases hy with⟨h7,_⟩|⟨h7,_⟩<;>(have:x=y:=by injection e)<;>subst this<;>omega
   have hxx:x=ntT (btL x.tx):=z2w ho rfl hn;refine .note rfl ?_
   have e2:k5g false acc (q5i [35])=acc++[[x]]:=by
    rw[k5g];simp only[Bool.false_eq_true,if_false];rw[hxx,hx];rfl
   rw[e2];exact ih true (fun _=>ho')
  | @note x gs he ho hne hg hfl hx=>
   subst he;have ho':opT [x]=9:=ho;rw[hpf ho']
   have hn:x.n=0/\q3m x.tx=0:=by
    rcases q2v h.1 with⟨y,e,_,hn,hf⟩|⟨y,F,e,_,_,hl,hy⟩
    ·cases e;exact⟨hn,hf⟩
    ·rcases hy with⟨h7,_⟩|⟨h7,_⟩<;>(have:x=y:=by injection e)<;>subst this<;>omega
   have hxx:x=ntT (btL x.tx):=z2w ho rfl hn.1;obtain⟨g,gr,rfl⟩:=List.exists_cons_of_ne_nil hne;have hgg:=hg g (by simp);rw[List.map_cons,List.cons_append];refine .note rfl ?_;rw[z5k hgg];have e2:k5g false acc (jb g)=acc++[[ntT (jb g)]]:=rfl;rw[e2];refine v8y gr (fun z hz=>hg z (by simp[hz])) acc g hgg ?_
   have e3:jb (g++gr.flatten)=btL x.tx:=by
    have:g++gr.flatten=q0j (btL x.tx):=by rw[<-hfl];rfl
    rw[this,q0j,if_neg hx,z5e]
   rw[e3,<-hxx];exact ih true (fun _=>ho')
end Go.Proofs.YthcpdohdppkmkaaGreatDoor
