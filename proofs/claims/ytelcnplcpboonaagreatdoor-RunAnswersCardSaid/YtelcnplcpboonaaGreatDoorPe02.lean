import Derived.Test.YtelcnplcpboonaaGreatDoorPe00
import Derived.Shelf.Strconv.Atoi
import Derived.Shelf.LaysM
import Derived.Shelf.Strconv.Itoa3
import Derived.Shelf.Strings.Prefix
import Derived.Shelf.Strings.Fields
import Derived.OwnWalkIn
import Derived.TacticsInMore
import Derived.Lib.Bytealg
import Derived.Lib.IndexBytes
import Derived.Shelf.RegionOpen
import Derived.Shelf.Strings.OnBuilder
import Derived.Shelf.Strconv.Clone
import Derived.Shelf.Strings.Repeat
import Derived.LaidEql
import Derived.Stop.Asserts
import Derived.RowKitTokens
import Derived.RangeFuncNested
import Derived.RangeFuncBound
import Derived.RangeFuncCalls
import Derived.RangeFuncLeaves
import Derived.Shelf.Abstract
import Derived.LoopNIn
import Derived.LoopIn
import Derived.Shelf.LaysC
import Derived.Shelf.Strconv.AtoiAll
open Go.Proofs.Tryz
open Go.Value renaming pointer->À,string->Á,int->È,iface->Ë,agg->Ì,tuple->Î,bool->Ð
open Option renaming some->Â,none->Ç
open Go.Ending renaming returned->Ã
open Go.Proofs.Tryz renaming prog->Ä
open Go.World renaming cell?_alloc_lt->Å,frozen?_alloc_old->Ê,cell?->Ù
open Go.Lib renaming indexByte->Æ,fields->Ô,TabIs->Ú
open Go.Obj renaming cells->É
open Go renaming Calls->Í,World->Ï,Value->Ò,method->Ó,TypeId->Õ,underlying->Ö,loadVar->Ø
open List renaming cons_append->Ñ
namespace Go.Proofs.YtelcnplcpboonaaGreatDoor
open Go Go.Shelf Go.RowKit Go.Lib Go.Sort
def Pf:Go.Shelf.Ren:=⟨fun|172=>61|244=>82|245=>83|247=>107|279=>108|280=>109|281=>110|282=>111|287=>133|316=>134|171=>62|205=>135|321=>169|322=>170|243=>84|246=>112|283=>136|284=>137|285=>138|286=>139|129=>172|317=>171|318=>173|319=>174|320=>175|337=>209|338=>210|n=>n,fun|9=>9|3=>3|75=>43|76=>44|4=>4|5=>5|167=>168|37=>36|0=>0|85=>169|2=>2|168=>171|53=>205|175=>206|46=>130|210=>209|127=>68|145=>251|143=>249|21=>21|171=>211|173=>214|212=>253|51=>162|20=>20|213=>254|232=>312|233=>313|80=>46|n=>n,fun|15=>2|16=>3|17=>4|18=>6|19=>7|n=>n⟩
theorem SO:Go.Proofs.Lays.n172 Ä Pf:=by repeat' first|kernel_rfl|(intro w;kernel_rfl)|decide|constructor
theorem JU(s:ByteArray)(n:Int)(A:s.size<=18)(h:Lib.atoi s.data.toList=Â n)(w:Ï):
  Í Ä 61 #[Á s] w λe B=>e=Ã (Î #[È .i64 n,.nilIface])/\∃t,B=Lib.bytesWorld w 5 t:=Any.strconv_Atoi SO s n A h w
def OW:Go.Shelf.Ren:=⟨fun|171=>62|243=>84|246=>112|283=>136|284=>137|285=>138|286=>139|129=>172|317=>171|318=>173|319=>174|320=>175|337=>209|338=>210|n=>n,fun|3=>3|9=>9|2=>2|4=>4|171=>211|0=>0|53=>205|37=>36|5=>5|173=>214|212=>253|51=>162|20=>20|213=>254|46=>130|232=>312|233=>313|n=>n,fun|17=>4|18=>6|19=>7|n=>n⟩
theorem Od:Go.Proofs.LaysM.n171 Ä OW:=by repeat' first|kernel_rfl|(intro w;kernel_rfl)|decide|constructor
theorem FY (n : Int) (h0 : -9223372036854775808 ≤ n) (h1 : n ≤ 9223372036854775807) (w : Ï) (htab : Ú Ä w "internal/strconv.uint64pow10" .u64 Lib.pow10Tab) :
  Í Ä 62 #[È .i64 n] w λe w'=>e=Ã (Á ⟨(Lib.itoa n).toArray⟩)/\∃k os,w'=grow (w.drewN k) os:=Any.strconv_Itoa Od n h0 h1 w htab
def MY:Go.Shelf.Ren:=⟨fun|99=>181|206=>78|n=>n,fun|9=>9|4=>4|3=>3|n=>n,fun|n=>n⟩
theorem Vq:Go.Proofs.Lays.n99 Ä MY:=by repeat' first|kernel_rfl|(intro w;kernel_rfl)|decide|constructor
theorem O8(s p:ByteArray)(w:Ï):
  Í Ä 181 #[Á s,Á p] w λe A=>e=Ã (Ð (Lib.hasPrefix s.data.toList p.data.toList))/\A=w:=Any.strings_HasPrefix Vq s p w
def Pe:Go.Shelf.Ren:=⟨fun|157=>182|229=>214|199=>215|261=>238|311=>265|312=>266|n=>n,fun|9=>9|31=>72|3=>3|5=>5|4=>4|119=>292|0=>0|40=>294|152=>315|21=>21|154=>317|51=>162|141=>319|196=>343|193=>340|198=>346|49=>344|194=>341|201=>349|226=>368|46=>130|227=>369|n=>n,fun|0=>5|6=>8|n=>n⟩
theorem SN:Go.Proofs.Lays.n157 Ä Pe:=by repeat' first|kernel_rfl|(intro w;kernel_rfl)|decide|constructor
theorem CG (s : ByteArray) (w : Ï) (hs : s.size < 4294967281) (hascii : ∀ (j : Nat) b, s.data.toList[j]? = Â b → b.toNat < 128) (htab : Ú Ä w "strings.asciiSpace" .u8 Lib.asciiSpaceTab) :
  Í Ä 182 #[Á s] w λe w'=>
   e=Ã (.slice (Â ⟨w,0,Ç⟩) (Ô s.data.toList).length (Ô s.data.toList).length)/\w'=w.alloc (É ((Ô s.data.toList).map λl=>Á ⟨l.toArray⟩).toArray 9):=Any.strings_Fields SN (by kernel_rfl) (by kernel_rfl) s w hs hascii htab
end Go.Proofs.YtelcnplcpboonaaGreatDoor
namespace Go.Proofs.YtelcnplcpboonaaGreatDoor
open Go Go.RowKit Go.Lib Go.Shelf
set_option maxRecDepth 100000
set_option maxHeartbeats 1000000
theorem vZ(s c w):
  Í Ä 74 #[Á s,È .u8 c] w λe A=>e=Ã (Æ s.data.toList c.toNat.toUInt8)/\A=w:=by
 go_in;go_wp2;rw[run_callFunc_extern func103 (by kernel_rfl) (by kernel_rfl) (by kernel_rfl) (e:=Extern.BytealgIndexByte.indexByte) (by kernel_rfl),Lib.run_indexByteString];simp only[Result.andThen];rw[Oper.upon_value];go_wp2;go_ret;exact⟨rfl,rfl⟩
theorem IJ(s w):
  Í Ä 56 #[Á s,Á ⟨#[10]⟩] w λe A=>e=Ã (Æ s.data.toList 10)/\A=w:=by
 go_in;go_wp2_with(go_at_call 74;refine(vZ _ _ _).mono ?_;rintro e A⟨rfl,rfl⟩)
 .have h:([10]==s.toList)=true:=by assumption
  go_ret;refine⟨?_,rfl⟩;have e:s.data.toList=[10]:=by rw[<-Lib.toList_data];exact(beq_iff_eq.1 h).symm
  rw[e];simp[Æ]
 .go_ret;exact⟨rfl,rfl⟩
theorem Jp(s w)(h:Æ s.data.toList 10=-1):
  Í Ä 39 #[Á s,Á ⟨#[10]⟩] w λe A=>e=Ã (Î #[Á s,Á ⟨#[]⟩,Ð false])/\∃n,A=w.drewN n:=by
 go_in;go_wp2_with(go_at_call 56;refine(IJ _ _).mono ?_;rintro e A⟨rfl,rfl⟩;rw[h]);go_ret3;exact⟨rfl,0,rfl⟩
theorem CA(s w)(i:Nat)(h:Æ s.data.toList 10=i)(hi:i+1<=s.size)(B:s.size<=100000000):
  Í Ä 39 #[Á s,Á ⟨#[10]⟩] w λe A=>e=Ã (Î #[Á (s.extract 0 i),Á (s.extract (i+1) s.size),Ð true])/\∃n,A=w.drewN n:=by
 go_in;go_wp2_with(go_at_call 56;refine(IJ _ _).mono ?_;rintro e A⟨rfl,rfl⟩;rw[h])
 go_region
 go_wp2;go_ret3;exact⟨rfl,1,rfl⟩
end Go.Proofs.YtelcnplcpboonaaGreatDoor
namespace Go.Proofs.YtelcnplcpboonaaGreatDoor
open Go Go.Shelf Go.RowKit Go.Lib
def IR:Go.Shelf.Ren:=⟨fun|156=>155|165=>199|166=>10|169=>12|240=>24|241=>224|276=>40|277=>244|n=>n,fun|31=>72|9=>9|3=>3|4=>4|0=>0|20=>20|72=>38|76=>44|70=>35|37=>36|75=>43|127=>68|164=>94|5=>5|80=>46|n=>n,fun|n=>n⟩
theorem SP:Go.Proofs.Lays.n156 Ä IR:=by repeat' first|kernel_rfl|(intro w;kernel_rfl)|decide|constructor
theorem V3:Builder.Extra Ä IR:=by repeat' first|kernel_rfl|(intro w;kernel_rfl)|decide|constructor
theorem vO(bk o c:Nat)(C:List ByteArray)(B:ByteArray)(w:Ï)(A:∀(j:Nat)x,C[j]?=Â x->w.cell? ⟨bk,o+j,Ç⟩=Â (Á x))(G:bk<w.heap.size)(H:C.length<=140737488355328)(D:C.length<=c)(E:(Lib.join (C.map (·.data.toList)) B.data.toList).length<=140737488355328):
  Í Ä 155 #[.slice (Â ⟨bk,o,Ç⟩) C.length c,Á B] w λe I=>e=Ã (Á ⟨(Lib.join (C.map (·.data.toList)) B.data.toList).toArray⟩)/\Below w w I:=Any.strings_Join SP V3 bk o c C B w A G H D E
def OX:Go.Shelf.Ren:=⟨fun|316=>134|n=>n,fun|9=>9|3=>3|4=>4|37=>36|0=>0|127=>68|5=>5|n=>n,fun|n=>n⟩
theorem Oe:Go.Proofs.LaysM.n316 Ä OX:=by repeat' first|kernel_rfl|(intro w;kernel_rfl)|decide|constructor
theorem zl(s:ByteArray)(w:Ï)(A:s.size<=281474976710656):
  Í Ä 134 #[Á s] w λe B=>e=Ã (Á s)/\Below w w B:=Any.stringslite_Clone Oe s w A
def I5:Go.Shelf.Ren:=⟨fun|105=>279|212=>291|99=>181|165=>199|166=>10|170=>292|169=>12|263=>295|264=>296|206=>78|240=>24|241=>224|276=>40|277=>244|n=>n,fun|9=>9|3=>3|4=>4|20=>20|0=>0|46=>130|109=>380|5=>5|72=>38|76=>44|51=>162|146=>163|53=>205|148=>385|70=>35|37=>36|75=>43|127=>68|164=>94|80=>46|n=>n,fun|n=>n⟩
theorem KI:Go.Proofs.Lays.n105 Ä I5:=by repeat' first|kernel_rfl|(intro w;kernel_rfl)|decide|constructor
theorem Rg:Builder.Extra Ä I5:=by repeat' first|kernel_rfl|(intro w;kernel_rfl)|decide|constructor
theorem N0(s:ByteArray)(c:Nat)(w:Ï)(B:c<=9223372036854775807)(A:s.size*c<=140737488355328):
  Í Ä 279 #[Á s,È .i64 c] w λe C=>e=Ã (Á ⟨(Lib.repeatL s.data.toList c).toArray⟩)/\Below w w C:=Any.strings_Repeat KI Rg s c w B A
end Go.Proofs.YtelcnplcpboonaaGreatDoor
namespace Go.Proofs.YtelcnplcpboonaaGreatDoor
open Go Go.RowKit Go.Extern.Stop Go.Stop Go.Extern
set_option maxRecDepth 100000
set_option maxHeartbeats 4000000
theorem Tryz.valueOfP(t w):(ReflectliteValue.unpack (Ë 166 (À (Â t)))).run Ä w
  =.ok (Ì #[À (Â ↑(12,166)),À w.heap.size,È .u64 150]) (w.alloc (É #[À (Â t)] 166)):=by kernel_rfl
theorem Tryz.typeP (a w) : (ReflectliteValue.methodAny (ReflectliteValue.valueError "reflectlite.Value.Type" 0) (λt _ _ _ => ReflectliteType.toType t) #[Ì #[À (Â ⟨12, 166, Ç⟩), À (Â a), È .u64 150]]).run Ä w
  =.ok (Ë 233 (Ì #[À (Â ↑(12,166))])) w:=by kernel_rfl
theorem Tryz.methodKind (h w) : (Ó 512 233 (Ì #[h]) "Kind").run Ä w = .ok (311, h) w := by kernel_rfl
theorem Tryz.kindP(w):((ReflectliteType.abiMethod λt=>(λa:Nat=>È IntKind.u8 (a:Int)) <$> Rtype.kind t) #[À (Â ↑(12,166))]).run Ä w=.ok (È .u8 22) w:=by kernel_rfl
theorem Tryz.kindE(w):((ReflectliteType.abiMethod λt=>(λa:Nat=>È IntKind.u8 (a:Int)) <$> Rtype.kind t) #[À (Â ↑(12,50))]).run Ä w=.ok (È .u8 2) w:=by kernel_rfl
theorem SI(z)(f:Õ->Addr->Nat->Nat->Sem Ò)(v):
  ∃K:Option (Õ × Addr × Nat)->Sem Ò,ReflectliteValue.method z f #[v]=(ReflectliteValue.parts v >>=K)/\∀t a A,K (Â (t,a,A))=f t a A (A % 32):=⟨_,rfl,λ_ _ _=>rfl⟩
theorem IK{P z}{f:Õ->Addr->Nat->Nat->Sem Ò}{v W t a B}
  (h:(ReflectliteValue.parts v).run P W=.ok (Â (t,a,B)) W):(ReflectliteValue.method z f #[v]).run P W=(f t a B (B % 32)).run P W:=by
 obtain⟨K,e,A⟩:=SI z f v;rw[e];simp[Sem.run_bind,h,Result.andThen,A]
theorem PH(v x):
  ∃K:Option (Õ × Addr × Nat)->Option (Õ × Addr × Nat)->Sem Ò,ReflectliteValue.set #[v,x]=(ReflectliteValue.parts v >>=λp=>ReflectliteValue.parts x >>=λq=>K p q)/\
   ∀(P:Program)(W H:Ï)(E G:Õ)(a b:Addr)(I g:Nat)(val:Ò),(I / ReflectliteValue.flagAddr % 2==0)=false->(Ø G b).run P W=.ok val W->(Rtype.directlyAssignable E G).run P W=.ok true W->
    (storeVar E a val).run P W=.ok () H->(K (Â (E,a,I)) (Â (G,b,g))).run P W=.ok (Î #[]) H:=by
 refine⟨_,rfl,?_⟩;intro P W H E G a b I g val A B C D;simp[A,B,C,D,Sem.run_bind,Result.andThen]
theorem Tryz.partsP(a w):(ReflectliteValue.parts (Ì #[À (Â ↑(12,166)),À (Â a),È .u64 150])).run Ä w=.ok (Â (166,a,150)) w:=by kernel_rfl
theorem Tryz.isNilP(a p W)(ha:W.cell? a=Â (À (Â p))):
  (ReflectliteValue.method (ReflectliteValue.valueError "reflectlite.Value.IsNil" 0) ReflectliteValue.isNil #[Ì #[À (Â ⟨12, 166, Ç⟩), À (Â a), È .u64 150]]).run Ä W = .ok (Ð false) W := by
 rw[IK (Tryz.partsP a W)];simp[ReflectliteValue.isNil,Ø,isAgg,Ö,Tryz.underlying166,ha,Result.andThen]
theorem Tryz.methodElem (h w) : (Ó 512 233 (Ì #[h]) "Elem").run Ä w = .ok (324, Ì #[h]) w := by kernel_rfl
theorem Tryz.methodImplements (h w) : (Ó 512 233 (Ì #[h]) "Implements").run Ä w = .ok (325, Ì #[h]) w := by kernel_rfl
theorem Tryz.methodAssignableTo (h w) : (Ó 512 233 (Ì #[h]) "AssignableTo").run Ä w = .ok (322, Ì #[h]) w := by kernel_rfl
theorem Tryz.elemP(w):(ReflectliteType.method ReflectliteType.elem #[Ì #[À (Â ↑(12,166))]]).run Ä w=.ok (Ë 233 (Ì #[À (Â ↑(12,50))])) w:=by kernel_rfl
theorem Tryz.implementsE (w) : (ReflectliteType.relation "Implements" ReflectliteType.implements_ #[Ì #[À (Â ⟨12, 50, Ç⟩)], Ë 233 (Ì #[À (Â ⟨12, 43, Ç⟩)])]).run Ä w = .ok (Ð true) w := by kernel_rfl
theorem Tryz.typeOfE(v w):(ReflectliteType.typeOf #[Ë 50 v]).run Ä w=.ok (Ë 233 (Ì #[À (Â ↑(12,50))])) w:=by kernel_rfl
theorem Tryz.assignableE (w) : (ReflectliteType.relation "AssignableTo" ReflectliteType.assignableTo #[Ì #[À (Â ⟨12, 50, Ç⟩)], Ë 233 (Ì #[À (Â ⟨12, 50, Ç⟩)])]).run Ä w = .ok (Ð true) w := by kernel_rfl
theorem Tryz.valueOfE(e:Int)(w):(ReflectliteValue.unpack (Ë 50 e)).run Ä w
  =.ok (Ì #[À (Â ↑(12,50)),À w.heap.size,È .u64 130]) (w.alloc (É #[e] 50)):=by kernel_rfl
theorem Tryz.elemOfP(w):(Rtype.elem? 166).run Ä w=.ok (Â 50) w:=by kernel_rfl
theorem Tryz.mkE(p w):(ReflectliteValue.mk 50 p ReflectliteValue.flagAddr).run Ä w=.ok (Ì #[À (Â ↑(12,50)),À (Â p),È .u64 386]) w:=by kernel_rfl
theorem Tryz.elemVP(a p W)(ha:W.cell? a=Â (À (Â p))):
  (ReflectliteValue.method (ReflectliteValue.valueError "reflectlite.Value.Elem" 0) ReflectliteValue.elem #[Ì #[À (Â ⟨12, 166, Ç⟩), À (Â a), È .u64 150]]).run Ä W
   =.ok (Ì #[À (Â ↑(12,50)),À (Â p),È .u64 386]) W:=by
 rw[IK (Tryz.partsP a W)];simp[ReflectliteValue.elem,Ø,isAgg,Ö,Tryz.underlying166,ha,Result.andThen,Tryz.elemOfP,Tryz.mkE]
theorem Tryz.partsEa(a w):(ReflectliteValue.parts (Ì #[À (Â ↑(12,50)),À (Â a),È .u64 386])).run Ä w=.ok (Â (50,a,386)) w:=by kernel_rfl
theorem Tryz.partsE(a w):(ReflectliteValue.parts (Ì #[À (Â ↑(12,50)),À (Â a),È .u64 130])).run Ä w=.ok (Â (50,a,130)) w:=by kernel_rfl
theorem Tryz.directE(w):(Rtype.directlyAssignable 50 50).run Ä w=.ok true w:=by kernel_rfl
theorem Tryz.setE(D b)(e:Int)(A W)(E:W.cell? b=Â ↑e)(H:W.cell? D=Â A)(G:W.frozen? D=false):
  (ReflectliteValue.set #[Ì #[À (Â ↑(12,50)),À (Â D),È .u64 386],Ì #[À (Â ↑(12,50)),À (Â b),È .u64 130]]).run Ä W
   =.ok (Î #[]) (W.setCell D e):=by
 obtain⟨K,B,C⟩:=PH (Ì #[À (Â ↑(12,50)),À (Â D),È .u64 386]) (Ì #[À (Â ↑(12,50)),À (Â b),È .u64 130]);rw[B];simp only[Sem.run_bind,Tryz.partsEa,Tryz.partsE,Result.andThen];refine C Ä W _ 50 50 D b 386 130 e (by simp[ReflectliteValue.flagAddr]) ?_ (Tryz.directE W) ?_
 .simp[Ø,isAgg,Ö,Tryz.underlying50,E,Result.andThen]
 .simp[storeVar,Value.cells,storeCells,Addr.add,Result.andThen];rw[run_store Ä W D _ _ (by rfl)];simp[H,G]
theorem L5(e t old)(w:Ï)(hg:w.cell? ⟨1,0,Ç⟩=Â (Ë 233 (Ì #[À (Â ⟨12,43,Ç⟩)])))(ht0:w.cell? t=Â old)(hf0:w.frozen? t=false):
  Í Ä 105 #[Ë 50 (È .i64 e),Ë 166 (À (Â t))] w λev w'=>ev=Ã (Ð true)/\w'=((((w.alloc (É #[À (Â t)] 166)).alloc (É #[À (Â ⟨12,166,Ç⟩),À (Â ⟨w,0,Ç⟩),È .u64 150] 192)).alloc (É #[À (Â ⟨12,166,Ç⟩),À (Â ⟨w,0,Ç⟩),È .u64 150] 192)).alloc (É #[È .i64 e] 50)).setCell t (È .i64 e):=by
 have h6:=@run_callFunc_extern Ä 127 _ (λargs=>ReflectliteValue.unpack (args.getD 0 (Î #[]))) func127 (by kernel_rfl) (by kernel_rfl) (by kernel_rfl) (by kernel_rfl)
 have h7 := @run_callFunc_extern Ä 128 _ (ReflectliteValue.methodAny (ReflectliteValue.valueError "reflectlite.Value.Type" 0) (λt _ _ _ => ReflectliteType.toType t)) func128 (by kernel_rfl) (by kernel_rfl) (by kernel_rfl) (by kernel_rfl)
 have h8 := @run_callFunc_extern Ä 129 _ (ReflectliteValue.method (ReflectliteValue.valueError "reflectlite.Value.IsNil" 0) ReflectliteValue.isNil) func129 (by kernel_rfl) (by kernel_rfl) (by kernel_rfl) (by kernel_rfl)
 have h27:=@run_callFunc_extern Ä 311 _ (ReflectliteType.abiMethod λt=>do pure (È .u8 (<-Rtype.kind t))) func311 (by kernel_rfl) (by kernel_rfl) (by kernel_rfl) (by kernel_rfl);have h37:=@run_callFunc_extern Ä 324 _ (ReflectliteType.method ReflectliteType.elem) func324 (by kernel_rfl) (by kernel_rfl) (by kernel_rfl) (by kernel_rfl)
 have h38 := @run_callFunc_extern Ä 325 _ (ReflectliteType.relation "Implements" ReflectliteType.implements_) func325 (by kernel_rfl) (by kernel_rfl) (by kernel_rfl) (by kernel_rfl)
 have h10:=@run_callFunc_extern Ä 163 _ ReflectliteType.typeOf func163 (by kernel_rfl) (by kernel_rfl) (by kernel_rfl) (by kernel_rfl)
 have h35 := @run_callFunc_extern Ä 322 _ (ReflectliteType.relation "AssignableTo" ReflectliteType.assignableTo) func322 (by kernel_rfl) (by kernel_rfl) (by kernel_rfl) (by kernel_rfl)
 have h11 := @run_callFunc_extern Ä 164 _ (ReflectliteValue.method (ReflectliteValue.valueError "reflectlite.Value.Elem" 0) ReflectliteValue.elem) func164 (by kernel_rfl) (by kernel_rfl) (by kernel_rfl) (by kernel_rfl)
 have h12:=@run_callFunc_extern Ä 165 _ ReflectliteValue.set func165 (by kernel_rfl) (by kernel_rfl) (by kernel_rfl) (by kernel_rfl);have tO:=Tryz.typeOfE;have mA:=Tryz.methodAssignableTo;have a25:=Tryz.assignableE;have v25:=Tryz.valueOfE;have f6:=Tryz.valueOfP;have f7:=Tryz.typeP;have mK:=Tryz.methodKind;have mE:=Tryz.methodElem;have mI:=Tryz.methodImplements;have k27:=Tryz.kindP;have k25:=Tryz.kindE;have e27:=Tryz.elemP;have i25:=Tryz.implementsE;have n8:=Tryz.isNilP ⟨w,0,Ç⟩ t ((w.alloc (É #[À (Â t)] 166)).alloc (É #[À (Â ⟨12,166,Ç⟩),À (Â ⟨w,0,Ç⟩),È .u64 150] 192)) (by simp)
 have hlt:1<w.heap.size:=by
  rcases Nat.lt_or_ge 1 w.heap.size with h|h
  .exact h
  .simp[Ù,Array.getElem?_eq_none h]at hg
 have hg2:((w.alloc (É #[À (Â t)] 166)).alloc (É #[À (Â ⟨12,166,Ç⟩),À (Â ⟨w,0,Ç⟩),È .u64 150] 192)).cell? ⟨1,0,Ç⟩=Â (Ë 233 (Ì #[À (Â ⟨12,43,Ç⟩)])):=by
  rw[Å _ _ ⟨1,0,Ç⟩ (by simp only[World.size_alloc];omega),Å _ _ ⟨1,0,Ç⟩ hlt];exact hg
 have htl:t.block<w.heap.size:=by
  rcases Nat.lt_or_ge t.block w.heap.size with h|h
  .exact h
  .simp[Ù,Array.getElem?_eq_none h]at ht0
 have el:=Tryz.elemVP ⟨w,0,Ç⟩ t (((w.alloc (É #[À (Â t)] 166)).alloc (É #[À (Â ⟨12,166,Ç⟩),À (Â ⟨w,0,Ç⟩),È .u64 150] 192)).alloc (É #[À (Â ⟨12,166,Ç⟩),À (Â ⟨w,0,Ç⟩),È .u64 150] 192)) (by rw[Å _ _ ⟨w,0,Ç⟩ (by simp;omega)];simp)
 have st:=Tryz.setE t ⟨w.heap.size+1+1+1,0,Ç⟩ e old ((((w.alloc (É #[À (Â t)] 166)).alloc (É #[À (Â ⟨12,166,Ç⟩),À (Â ⟨w,0,Ç⟩),È .u64 150] 192)).alloc (É #[À (Â ⟨12,166,Ç⟩),À (Â ⟨w,0,Ç⟩),È .u64 150] 192)).alloc (É #[È .i64 e] 50))
  (by rw[World.cell?_alloc_at _ _ _ _ (by simp)];rfl)
  (by rw[Å _ _ t (by simp;omega),Å _ _ t (by simp;omega),Å _ _ t (by simp;omega),Å _ _ t htl];exact ht0)
  (by rw[Ê _ _ t (by simp;omega),Ê _ _ t (by simp;omega),Ê _ _ t (by simp;omega),Ê _ _ t (Nat.ne_of_lt htl)];exact hf0)
 go_in;go_wp2;refine wp_loop_rounds 1 ?_;rw[rounds_succ];go_wp2;go_ret;exact⟨rfl,rfl⟩
end Go.Proofs.YtelcnplcpboonaaGreatDoor
namespace Go.Proofs.YtelcnplcpboonaaGreatDoor
open Go Go.Lib
def cy:List UInt8->List (List UInt8)
 | []=>[[]]
 | c::r=>if c==10 then []::cy r else(c::(cy r).headD [])::(cy r).tail
theorem pJ:∀l,cy l≠[]
 | []=>by simp[cy]
 | c::r=>by unfold cy;split<;>simp
theorem xD:∀(a b:List UInt8),cy (a++10::b)=cy a++cy b
 | [],b=>by simp[cy]
 | c::a,b=>by
  have ih:=xD a b;have A:=pJ a;simp only[Ñ,cy,ih]
  split
  .simp
  .cases h:cy a with
   | nil=>exact absurd h A
   | cons x xs=>simp
theorem rX:∀(l:List UInt8),(10:UInt8)∉l->cy l=[l]:=by intro l;induction l<;>grind [cy]
theorem vL:∀(l:List UInt8),indexByte l 10=-1->(10:UInt8)∉l
 | [],_=>by simp
 | c::r,h=>by
  unfold indexByte at h;by_cases A:c==10
  .simp[A]at h
  .simp only[A]at h;by_cases C:indexByte r 10==-1
   .have:=vL r (beq_iff_eq.1 C)
    have B:¬(10:UInt8)=c:=λe=>A (by simp[e])
    simp[this,B]
   .have:=indexByte_ge r 10
    have D:¬indexByte r 10=-1:=λe=>C (beq_iff_eq.2 e)
    simp[D]at h;omega
theorem wO:∀(l:List UInt8)(i:Nat),indexByte l 10=i->i<l.length/\(10:UInt8)∉l.take i/\l=l.take i++10::l.drop (i+1)
 | [],i,h=>by simp[indexByte]at h
 | c::r,i,h=>by
  unfold indexByte at h;by_cases I:c==10
  .have e:=beq_iff_eq.1 I;simp[I]at h
   have:i=0:=by omega
   subst this;simp[e]
  .simp only[I]at h;by_cases B:indexByte r 10==-1
   .simp[B]at h
   .have C:¬indexByte r 10=-1:=λe=>B (beq_iff_eq.2 e)
    have D:=indexByte_ge r 10;simp[C]at h;obtain⟨j,rfl⟩:∃j,i=j+1:=⟨i-1,by omega⟩;obtain⟨H,E,G⟩:=wO r j (by omega);have A:¬(10:UInt8)=c:=λe=>I (by simp[e])
    refine⟨by simp;omega,by simp[A,E],?_⟩;rw[List.take_succ_cons,List.drop_succ_cons,Ñ];exact congrArg (c::·) G
theorem zI(l):indexByte l 10=-1\/∃i:Nat,indexByte l 10=i:=by
 have:=indexByte_ge l 10
 by_cases h:indexByte l 10=-1
 .exact .inl h
 .exact .inr ⟨(indexByte l 10).toNat,by omega⟩
def aX(s:ByteArray):List ByteArray:=(cy s.data.toList).map λl=>⟨l.toArray⟩
theorem Sc(s)(h:indexByte s.data.toList 10=-1):aX s=[s]:=by
 unfold aX;rw[rX _ (vL _ h)];simp
theorem zU(s)(i:Nat)(h:indexByte s.data.toList 10=i):i+1<=s.size/\aX s=s.extract 0 i::aX (s.extract (i+1) s.size):=by
 obtain⟨C,A,B⟩:=wO _ i h;refine⟨by rw[size_eq];omega,?_⟩;unfold aX
 conv=>lhs;rw[B]
 rw[xD,rX _ A,extract_to_end,extract_eq];simp
def PF(wd:Int)(n:Int):Int:=max (n-wd) 0
def over(wd:Int):List Int->Int
 | []=>0
 | n::r=>PF wd n+over wd r
theorem KZ:∀(l:List UInt8),(cy l).length<=l.length+1:=by intro l;induction l<;>grind [cy,pJ]
end Go.Proofs.YtelcnplcpboonaaGreatDoor
namespace Go.Proofs.YtelcnplcpboonaaGreatDoor
open Go Go.RowKit Go.Shelf
attribute [local go_sem] Oper.semAt_some
set_option maxRecDepth 100000
set_option maxHeartbeats 2000000
theorem zq(s w)(h:Æ s.data.toList 10=-1):
  Í Ä 23 #[Á s,Á ⟨#[10]⟩] w λe A=>e=Ã (Î #[Á s,Á ⟨#[]⟩,Ð false])/\∃n,A=w.drewN n:=by
 go_in;go_wp2_with(go_at_call 39;refine(Jp _ _ h).mono ?_;rintro e A⟨rfl,n,rfl⟩);go_ret3;exact⟨rfl,n,rfl⟩
theorem FI(s w)(i:Nat)(h:Æ s.data.toList 10=i)(hi:i+1<=s.size)(B:s.size<=100000000):
  Í Ä 23 #[Á s,Á ⟨#[10]⟩] w λe A=>e=Ã (Î #[Á (s.extract 0 i),Á (s.extract (i+1) s.size),Ð true])/\∃n,A=w.drewN n:=by
 go_in;go_wp2_with(go_at_call 39;refine(CA _ _ _ h hi B).mono ?_;rintro e A⟨rfl,n,rfl⟩);go_ret3;exact⟨rfl,n,rfl⟩
abbrev gb:={x:ByteArray // x.size<=100000000}
abbrev ke(x:gb):Array Ò:=#[Á x.1]
def vX:Ò->Ò->Nat
 | Á q,Ð true=>q.size+1
 | _,_=>0
theorem I2(w:Ï)(n row):w.grownBy (w.drewN n) row:=⟨rfl,rfl,rfl,Nat.le_refl _,λ_ _ _=>rfl⟩
theorem R9(F n)(y:∀f,F.fn f)(U:F.round=Ç)(hn:1<=n)
  (E:∀s w,Æ s.data.toList 10=-1->CallsIn F (n-1) Ä 23 #[Á s,Á ⟨#[10]⟩] w λe g=>e=Ã (Î #[Á s,Á ⟨#[]⟩,Ð false])/\∃n,g=w.drewN n)
  (K:∀(s:ByteArray)w(i:Nat),Æ s.data.toList 10=i->i+1<=s.size->s.size<=100000000->CallsIn F (n-1) Ä 23 #[Á s,Á ⟨#[10]⟩] w λe g=>e=Ã (Î #[Á (s.extract 0 i),Á (s.extract (i+1) s.size),Ð true])/\∃n,g=w.drewN n)
  (l h n₀ s) (z:s.size<=100000000) (J j:List gb->Ï->Prop)
  (W) (m:AbidesFrom W.heap.size J)
  (p:∀pre x d,J pre d->pre.length<(aX s).length->YieldAt F (n-1) Ä l (ke x) d λe c=>
   (e=Ã (Ð true)/\J (pre++[x]) c/\Below n₀ d c)\/(e=Ã (Ð false)/\j (pre++[x]) c))
  (Y:W.cell? ⟨h,0,Ç⟩=Â (Á s)) (u:J [] W):
  CallsIn F n Ä 124 #[.func (.yield l) #[] #[],À (Â ⟨h,0,Ç⟩)] W λe c=>(∃v,e=Ã v)/\
   ((∃t:List gb,t.map (·.1)=aX s/\J t c)\/(∃a:List gb,a.map (·.1) <+:aX s/\j a c)):=by
 refine callsIn_of_wp func124 rfl (y 124) ?_ U;simp only[ntmps124,List.size_toArray,List.length_cons,List.length_nil,Nat.reduceAdd,Nat.reduceSub,Array.replicate_succ,Array.replicate_zero,List.push_toArray,List.append_toArray,List.nil_append,Ñ]
 gi_wp2
 gi_loopw [3,4] (λr f wr=>∃(pre:List gb)(q:ByteArray)(b:Bool),r=Á q/\f=Ð b/\q.size<=100000000/\aX s=pre.map (·.1)++(if b then aX q else [])/\J pre wr/\W.heap.size<=wr.heap.size)
  (λr f _=>vX r f)
 case atStart=>
  exact⟨[],s,true,rfl,rfl,z,by simp,u,Nat.le_refl _⟩
 case round=>
  obtain⟨pre,q,b,rfl,rfl,P,H,D,N⟩:=hrel;cases b with
  | false=>
   gi_wp2
   go_end0
   exact⟨⟨_,rfl⟩,.inl ⟨pre,by simpa using H.symm,D⟩⟩
  | true=>
   simp only[if_true]at H;rcases zI q.data.toList with L|⟨i,L⟩
   .have M:=Sc q L;have B:Hid (aX s=pre.map (·.1)++[q]):=by rw[<-M];exact H
    clear H M
    gi_wp2_with fail
    refine(E q wr L).mono ?_;rintro e Z⟨rfl,k,rfl⟩;have C:J pre (wr.drewN k):=m _ _ _ Ç D (I2 _ _ _) (by simp);obtain⟨fn,O,A,I,V,Q⟩:=p pre ⟨q,P⟩ _ C (by rw[B.o];simp);dsimp only[ke]at V
    gi_wp2
    refine Q.mono ?_;rintro e X (⟨rfl,hJ3,hk3⟩|⟨rfl,hJx3⟩)
    .gi_wp2
     go_roundw
     case rel=>exact⟨pre++[⟨q,P⟩],⟨#[]⟩,false,rfl,rfl,Nat.zero_le _,by rw[B.o];simp,hJ3,Nat.le_trans N hk3.size⟩
     case measure=>simp[vX]
    .gi_wp2
     refine bodyPost_ret (results_none rfl _ _ _) rfl ?_;exact⟨⟨_,rfl⟩,.inr ⟨pre++[⟨q,P⟩],by rw[B.o];simp,hJx3⟩⟩
   .obtain⟨R,M⟩:=zU q i L;have B:Hid (aX s=pre.map (·.1)++(q.extract 0 i::aX (q.extract (i+1) q.size))):=by rw[<-M];exact H
    clear H M;have G:(q.extract 0 i).size<=100000000:=by simp;omega
    have S:(q.extract (i+1) q.size).size<=100000000:=by simp;omega
    have a:(q.extract (i+1) q.size).size<q.size:=by simp;omega
    gi_wp2_with fail
    refine(K q wr i L R P).mono ?_;rintro e Z⟨rfl,k,rfl⟩;have C:J pre (wr.drewN k):=m _ _ _ Ç D (I2 _ _ _) (by simp);obtain⟨fn,O,A,I,V,Q⟩:=p pre ⟨q.extract 0 i,G⟩ _ C (by rw[B.o];simp);dsimp only[ke]at V
    gi_wp2
    refine Q.mono ?_;rintro e X (⟨rfl,hJ3,hk3⟩|⟨rfl,hJx3⟩)
    .gi_wp2
     go_roundw
     case rel=>exact⟨pre++[⟨q.extract 0 i,G⟩],q.extract (i+1) q.size,true,rfl,rfl,S,by rw[B.o];simp,hJ3,Nat.le_trans N hk3.size⟩
     case measure=>simp only[vX];omega
    .gi_wp2
     refine bodyPost_ret (results_none rfl _ _ _) rfl ?_;exact⟨⟨_,rfl⟩,.inr ⟨pre++[⟨q.extract 0 i,G⟩],by rw[B.o];exact⟨aX (q.extract (i+1) q.size),by simp⟩,hJx3⟩⟩
theorem I7(n)(O:1<=n)(A C s)(P:s.size<=100000000)(w:Ï)(B:A<w.heap.size)(N:w.cell? A=Â (Á s)):
  SeqStopsK Fence.wide n Ä 124 #[À A] ke (Below C) (λR=>R.map (·.1)=aX s) (λa=>a.map (·.1) <+:aX s) (aX s).length w:=λl J D W L K _ M E=>
 R9 Fence.wide n (λ_=>trivial) rfl O (λs w h=>callsIn_wide.2 (zq s w h)) (λs w i G H I=>callsIn_wide.2 (FI s w i G H I)) l A C s P J D W K M ((L.cell (p:=A) B).trans N) E
theorem Sa(s w):
  Í Ä 91 #[Á s] w λe A=>e=Ã (.func (.func 124) #[] #[À w.heap.size])/\A=w.alloc (É #[Á s] 9):=by
 go_in;go_wp2;go_ret;exact⟨rfl,rfl⟩
end Go.Proofs.YtelcnplcpboonaaGreatDoor
namespace Go.Proofs.YtelcnplcpboonaaGreatDoor
open Go Go.Shelf Go.RowKit Go.Lib Go.Sort
def OV:Go.Shelf.Ren:=⟨fun|172=>61|244=>82|245=>83|247=>107|279=>108|280=>109|281=>110|282=>111|287=>133|316=>134|171=>62|205=>135|321=>169|322=>170|243=>84|246=>112|283=>136|284=>137|285=>138|286=>139|129=>172|317=>171|318=>173|319=>174|320=>175|337=>209|338=>210|n=>n,fun|9=>9|3=>3|75=>43|76=>44|4=>4|5=>5|167=>168|37=>36|0=>0|85=>169|2=>2|168=>171|53=>205|175=>206|46=>130|210=>209|127=>68|145=>251|143=>249|21=>21|171=>211|173=>214|212=>253|51=>162|20=>20|213=>254|232=>312|233=>313|80=>46|n=>n,fun|15=>2|16=>3|17=>4|18=>6|19=>7|n=>n⟩
theorem xH:Go.Proofs.LaysC.n172 Ä OV:=by repeat' first|kernel_rfl|(intro w;kernel_rfl)|decide|constructor
theorem Rf(s:ByteArray)(A:s.size<=9223372036854775806)(v:Int)(h:Lib.atoiAll s.data.toList=.ok v)(w:Ï):
  Í Ä 61 #[Á s] w λe B=>e=Ã (Î #[È .i64 v,.nilIface])/\(B=w\/∃t,B=Lib.bytesWorld w 5 t):=Any.strconv_Atoi_ok xH s A v h w
theorem Na(s:ByteArray)(B:s.size<=281474976710656)(h:Lib.atoiAll s.data.toList=.«syntax»)(A:Ò)(w:Ï)(E:w.cell? ⟨2,0,Ç⟩=Â A)(C:A=.nilIface\/∃H G,A=Ë H G):
  Í Ä 61 #[Á s] w λe D=>∃N,e=Ã (Î #[È .i64 (0),Ë 171 (À (Â ⟨N,0,Ç⟩))])/\w.heap.size<=N/\D.heap[N]?=Â (É #[Á ⟨#[65,116,111,105]⟩,Á s,A] 209 (0,0))/\Below w w D:=Any.strconv_Atoi_syntax xH s B h A w E C
theorem M9(s:ByteArray)(B:s.size<=281474976710656)(h:Lib.atoiAll s.data.toList=.range)(A:Ò)(w:Ï)(E:w.cell? ⟨3,0,Ç⟩=Â A)(C:A=.nilIface\/∃H G,A=Ë H G):
  Í Ä 61 #[Á s] w λe D=>∃N,e=Ã (Î #[È .i64 (Lib.atoiSat s.data.toList),Ë 171 (À (Â ⟨N,0,Ç⟩))])/\w.heap.size<=N/\D.heap[N]?=Â (É #[Á ⟨#[65,116,111,105]⟩,Á s,A] 209 (0,0))/\Below w w D:=Any.strconv_Atoi_range xH s B h A w E C
