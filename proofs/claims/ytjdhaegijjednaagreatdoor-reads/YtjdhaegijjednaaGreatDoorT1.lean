import Derived.Shelf.Strings.Builder1
import Derived.Shelf.Small.Strs
import Derived.Shelf.Small.Wraps
import Derived.Shelf.Strings.BuilderF
import Derived.Shelf.Strings.BuilderK
import Derived.Shelf.Strconv.Itoa0
import Derived.Shelf.Strconv.Itoa1
import Derived.Shelf.LaysM
import Derived.Shelf.Strconv.Itoa2
import Derived.Shelf.Strconv.Itoa3
import Derived.Shelf.Strconv.Itoa4
import Derived.Shelf.Strconv.ParseIntEmpty
import Derived.Shelf.Strconv.Clone
import Derived.Shelf.Strconv.SyntaxError
import Derived.Shelf.LaysC
import Derived.Shelf.Strconv.ToError
import Derived.Shelf.Strconv.Lower
import Derived.Shelf.Strconv.ParseUint10
import Derived.Shelf.Strconv.ParseUint10Empty
import Derived.Shelf.Strconv.ParseUint10Any
import Derived.Shelf.Strconv.ParseInt10
import Derived.Shelf.Strconv.RangeError
import Derived.Shelf.Strconv.ToErrorRange
import Derived.Shelf.Strconv.ParseUintEmpty
import Derived.Shelf.Strconv.ParseUint10b64
import Derived.Shelf.Strconv.ParseUint10b32
import Derived.Shelf.Strconv.ParseUint10b16
import Derived.Shelf.Strconv.ParseUint10b8
import Derived.Shelf.Strconv.ParseUint10At
import Derived.Shelf.Strconv.ParseInt10At64
import Derived.Shelf.Strconv.ParseInt10At32
import Derived.Shelf.Strconv.ParseInt10At16
import Derived.Shelf.Strconv.ParseInt10At8
import Derived.Shelf.Strconv.ParseInt10All
import Derived.Shelf.Strconv.ParseIntPublic10
import Derived.Shelf.Strconv.ErrVarParseInt
import Derived.Shelf.Strings.Search1
import Derived.Shelf.Strings.Search2
import Derived.Shelf.Strings.Cut
import Derived.Shelf.Strings.Shaped
import Derived.Shelf.Strings.Prefix
import Derived.Test.YtjdhaegijjednaaGreatDoorProg
import GoSem.Claim
import Derived.Lib.IndexMore
import Derived.Lib.Strings
import Derived.Lib.ParseIntBCases
import Derived.WalkKit
import Derived.WalkSpells
import Derived.WalkSmall
import Derived.Lib.AtoiErrMem
import Derived.Lib.ConvBytes
import Derived.Lib.Hide
import Derived.Lib.AtoiAllMem
import Derived.BigCall
import Derived.BigGuard
import Derived.Deep.RegionHeld3
import Derived.Deep.RegionHeld2
import Derived.Deep.DeepCutAuto
import Derived.Deep.QuietTactic
import Derived.BigQuiet
import Derived.MapKept
import Derived.Deep.AppendLies
import Derived.Deep.RegionLaw
set_option linter.all false
set_option maxRecDepth 100000
set_option maxHeartbeats 4000000
namespace Go.Proofs
open Go.Shelf
def Tryz.lays137_ren:Go.Shelf.Ren:=⟨fun|137=>236|217=>262|266=>272|a=>a,fun|9=>9|5=>5|3=>3|a=>a,fun|a=>a⟩
def Tryz.lays137:Go.Proofs.Lays.n137 prog Tryz.lays137_ren:={
 mixed:=by kernel_rfl
 f137:=func236.trans (congrArg some (by kernel_rfl))
 f217:=func262.trans (congrArg some (by kernel_rfl))
 f266:=func272.trans (congrArg some (by kernel_rfl))
 t3:=underlying3
 a3:=Tryz.isAgg3
 z3:=Tryz.sizeOf3
 v3:=Tryz.zeroValue3
 t5:=underlying5
 a5:=Tryz.isAgg5
 z5:=Tryz.sizeOf5
 v5:=Tryz.zeroValue5
 t9:=underlying9
 a9:=Tryz.isAgg9
 z9:=Tryz.sizeOf9
 v9:=Tryz.zeroValue9 }
open Go.RowKit in
def Tryz.strings_IndexByte(b:ByteArray)(a:Int)(c:World) :
  Calls prog 236 #[.string b,.int .u8 a] c λd e=>d=.returned (.int .i64 (Lib.indexByte b.data.toList a.toNat.toUInt8))/\e=c:=Any.strings_IndexByte Tryz.lays137 b a c
def Tryz.lays210_ren:Go.Shelf.Ren:=⟨fun|210=>270|206=>276|a=>a,fun|9=>9|4=>4|3=>3|a=>a,fun|a=>a⟩
def Tryz.lays103_ren:Go.Shelf.Ren:=⟨fun|103=>260|210=>270|206=>276|a=>a,fun|9=>9|4=>4|24=>42|3=>3|a=>a,fun|a=>a⟩
def Tryz.lays103:Go.Proofs.Lays.n103 prog Tryz.lays103_ren:={
 mixed:=by kernel_rfl
 f103:=func260.trans (congrArg some (by kernel_rfl))
 f206:=func276.trans (congrArg some (by kernel_rfl))
 f210:=func270.trans (congrArg some (by kernel_rfl))
 t3:=underlying3
 a3:=Tryz.isAgg3
 z3:=Tryz.sizeOf3
 v3:=Tryz.zeroValue3
 t4:=underlying4
 a4:=Tryz.isAgg4
 z4:=Tryz.sizeOf4
 v4:=Tryz.zeroValue4
 t9:=underlying9
 a9:=Tryz.isAgg9
 z9:=Tryz.sizeOf9
 v9:=Tryz.zeroValue9
 t24:=underlying42
 a24:=Tryz.isAgg42
 z24:=Tryz.sizeOf42
 v24:=Tryz.zeroValue42 }
open Go.RowKit in
def Tryz.strings_CutPrefix(b a:ByteArray)(c:World) :
  Calls prog 260 #[.string b,.string a] c λd e=>d=.returned (.tuple #[.string ⟨(Lib.trimPrefix b.data.toList a.data.toList).toArray⟩,.bool (Lib.hasPrefix b.data.toList a.data.toList)])/\e=c:=Any.strings_CutPrefix Tryz.lays103 b a c
def Tryz.laysM316_ren:Go.Shelf.Ren:=⟨fun|316=>266|a=>a,fun|9=>9|3=>3|4=>4|37=>97|0=>0|127=>319|5=>5|a=>a,fun|a=>a⟩
def Tryz.laysM316:Go.Proofs.LaysM.n316 prog Tryz.laysM316_ren:={
 mixed:=by kernel_rfl
 f316:=func266.trans (congrArg some (by kernel_rfl))
 t0:=underlying0
 a0:=Tryz.isAgg0
 z0:=Tryz.sizeOf0
 v0:=Tryz.zeroValue0
 t3:=underlying3
 a3:=Tryz.isAgg3
 z3:=Tryz.sizeOf3
 v3:=Tryz.zeroValue3
 t4:=underlying4
 a4:=Tryz.isAgg4
 z4:=Tryz.sizeOf4
 v4:=Tryz.zeroValue4
 t9:=underlying9
 a9:=Tryz.isAgg9
 z9:=Tryz.sizeOf9
 v9:=Tryz.zeroValue9
 t37:=underlying97
 a37:=Tryz.isAgg97
 z37:=Tryz.sizeOf97
 v37:=Tryz.zeroValue97
 t127:=underlying319
 a127:=Tryz.isAgg319
 z127:=Tryz.sizeOf319
 v127:=Tryz.zeroValue319
 t5:=underlying5
 a5:=Tryz.isAgg5
 z5:=Tryz.sizeOf5
 v5:=Tryz.zeroValue5
 i0:=by kernel_rfl
 i3:=by kernel_rfl
 i4:=by kernel_rfl
 i5:=by kernel_rfl
 i9:=by kernel_rfl
 i37:=by kernel_rfl
 i127:=by kernel_rfl }
open Go.RowKit in
def Tryz.stringslite_Clone(a:ByteArray)(b:World)(d:a.size<=281474976710656) :
  Calls prog 266 #[.string a] b λc e=>c=.returned (.string a)/\Below b.heap.size b e:=Any.stringslite_Clone Tryz.laysM316 a b d
def Tryz.laysC245_ren:Go.Shelf.Ren:=⟨fun|245=>279|279=>287|280=>288|281=>289|282=>290|316=>266|171=>293|205=>292|243=>294|246=>295|283=>296|284=>297|285=>298|286=>299|129=>301|317=>300|318=>302|319=>303|320=>304|337=>305|338=>306|n=>n,fun|9=>9|3=>3|75=>55|167=>467|4=>4|168=>469|210=>475|37=>97|0=>0|127=>319|145=>479|143=>477|2=>2|171=>481|53=>421|5=>5|173=>484|212=>486|51=>218|20=>20|213=>487|46=>332|232=>490|233=>491|80=>70|n=>n,fun|15=>3|16=>4|17=>5|18=>6|19=>7|n=>n⟩
def Tryz.laysC245:Go.Proofs.LaysC.n245 prog Tryz.laysC245_ren:={
 mixed:=by kernel_rfl
 f129:=func301.trans (congrArg some (by kernel_rfl))
 f171:=func293.trans (congrArg some (by kernel_rfl))
 f205:=func292.trans (congrArg some (by kernel_rfl))
 f243:=func294.trans (congrArg some (by kernel_rfl))
 f245:=func279.trans (congrArg some (by kernel_rfl))
 f246:=func295.trans (congrArg some (by kernel_rfl))
 f279:=func287.trans (congrArg some (by kernel_rfl))
 f280:=func288.trans (congrArg some (by kernel_rfl))
 f281:=func289.trans (congrArg some (by kernel_rfl))
 f282:=func290.trans (congrArg some (by kernel_rfl))
 f283:=func296.trans (congrArg some (by kernel_rfl))
 f284:=func297.trans (congrArg some (by kernel_rfl))
 f285:=func298.trans (congrArg some (by kernel_rfl))
 f286:=func299.trans (congrArg some (by kernel_rfl))
 f316:=func266.trans (congrArg some (by kernel_rfl))
 f317:=func300.trans (congrArg some (by kernel_rfl))
 f318:=func302.trans (congrArg some (by kernel_rfl))
 f319:=func303.trans (congrArg some (by kernel_rfl))
 f320:=func304.trans (congrArg some (by kernel_rfl))
 f337:=func305.trans (congrArg some (by kernel_rfl))
 f338:=func306.trans (congrArg some (by kernel_rfl))
 t0:=underlying0
 a0:=Tryz.isAgg0
 z0:=Tryz.sizeOf0
 v0:=Tryz.zeroValue0
 t2:=underlying2
 a2:=Tryz.isAgg2
 z2:=Tryz.sizeOf2
 v2:=Tryz.zeroValue2
 t3:=underlying3
 a3:=Tryz.isAgg3
 z3:=Tryz.sizeOf3
 v3:=Tryz.zeroValue3
 t4:=underlying4
 a4:=Tryz.isAgg4
 z4:=Tryz.sizeOf4
 v4:=Tryz.zeroValue4
 t5:=underlying5
 a5:=Tryz.isAgg5
 z5:=Tryz.sizeOf5
 v5:=Tryz.zeroValue5
 t9:=underlying9
 a9:=Tryz.isAgg9
 z9:=Tryz.sizeOf9
 v9:=Tryz.zeroValue9
 t20:=underlying20
 a20:=Tryz.isAgg20
 z20:=Tryz.sizeOf20
 v20:=Tryz.zeroValue20
 t37:=underlying97
 a37:=Tryz.isAgg97
 z37:=Tryz.sizeOf97
 v37:=Tryz.zeroValue97
 t46:=underlying332
 a46:=Tryz.isAgg332
 z46:=Tryz.sizeOf332
 v46:=Tryz.zeroValue332
 t51:=underlying218
 a51:=Tryz.isAgg218
 z51:=Tryz.sizeOf218
 v51:=Tryz.zeroValue218
 t53:=underlying421
 a53:=Tryz.isAgg421
 z53:=Tryz.sizeOf421
 v53:=Tryz.zeroValue421
 t75:=underlying55
 a75:=Tryz.isAgg55
 z75:=Tryz.sizeOf55
 v75:=Tryz.zeroValue55
 t127:=underlying319
 a127:=Tryz.isAgg319
 z127:=Tryz.sizeOf319
 v127:=Tryz.zeroValue319
 t143:=underlying477
 a143:=Tryz.isAgg477
 z143:=Tryz.sizeOf477
 v143:=Tryz.zeroValue477
 t145:=underlying479
 a145:=Tryz.isAgg479
 z145:=Tryz.sizeOf479
 v145:=Tryz.zeroValue479
 t167:=underlying467
 a167:=Tryz.isAgg467
 z167:=Tryz.sizeOf467
 v167:=Tryz.zeroValue467
 t168:=underlying469
 a168:=Tryz.isAgg469
 z168:=Tryz.sizeOf469
 v168:=Tryz.zeroValue469
 t171:=underlying481
 a171:=Tryz.isAgg481
 z171:=Tryz.sizeOf481
 v171:=Tryz.zeroValue481
 t173:=underlying484
 a173:=Tryz.isAgg484
 z173:=Tryz.sizeOf484
 v173:=Tryz.zeroValue484
 t210:=underlying475
 a210:=Tryz.isAgg475
 z210:=Tryz.sizeOf475
 v210:=Tryz.zeroValue475
 t212:=underlying486
 a212:=Tryz.isAgg486
 z212:=Tryz.sizeOf486
 v212:=Tryz.zeroValue486
 t213:=underlying487
 a213:=Tryz.isAgg487
 z213:=Tryz.sizeOf487
 t232:=underlying490
 a232:=Tryz.isAgg490
 z232:=Tryz.sizeOf490
 v232:=Tryz.zeroValue490
 t233:=underlying491
 a233:=Tryz.isAgg491
 z233:=Tryz.sizeOf491
 v233:=Tryz.zeroValue491
 g15:=by kernel_rfl
 g16:=by kernel_rfl
 g17:=by kernel_rfl
 g18:=by kernel_rfl
 g19:=by kernel_rfl
 t80:=underlying70
 a80:=Tryz.isAgg70
 z80:=Tryz.sizeOf70
 v80:=Tryz.zeroValue70
 i0:=by kernel_rfl
 i2:=by kernel_rfl
 i3:=by kernel_rfl
 i4:=by kernel_rfl
 i5:=by kernel_rfl
 i9:=by kernel_rfl
 i20:=by kernel_rfl
 i37:=by kernel_rfl
 i46:=by kernel_rfl
 i51:=by kernel_rfl
 i53:=by kernel_rfl
 i75:=by kernel_rfl
 i80:=by kernel_rfl
 i127:=by kernel_rfl
 i143:=by kernel_rfl
 i145:=by kernel_rfl
 i167:=by kernel_rfl
 i168:=by kernel_rfl
 i171:=by kernel_rfl
 i173:=by kernel_rfl
 i210:=by kernel_rfl
 i212:=by kernel_rfl
 i232:=by kernel_rfl
 i233:=by kernel_rfl
 m15:=by kernel_rfl
 m16:=by kernel_rfl
 m17:=by kernel_rfl
 m18:=by kernel_rfl
 m19:=by kernel_rfl
 c0:=by kernel_rfl
 c2:=by kernel_rfl
 c3:=by kernel_rfl
 c4:=by kernel_rfl
 c5:=by kernel_rfl
 c9:=by kernel_rfl
 c20:=by kernel_rfl
 c37:=by kernel_rfl
 c46:=by kernel_rfl
 c51:=by kernel_rfl
 c53:=by kernel_rfl
 c75:=by kernel_rfl
 c80:=by kernel_rfl
 c127:=by kernel_rfl
 c143:=by kernel_rfl
 c145:=by kernel_rfl
 c167:=by kernel_rfl
 c168:=by kernel_rfl
 c171:=by kernel_rfl
 c173:=by kernel_rfl
 c210:=by kernel_rfl
 c212:=by kernel_rfl
 c213:=by kernel_rfl
 c232:=by kernel_rfl
 c233:=by kernel_rfl }
open Go.RowKit in
def Tryz.strconv_toError_syntax(e c:ByteArray)(f bits:Int)(b:Value)(a:World)(j:c.size<=281474976710656)(k:a.cell? ⟨3,0,none⟩=some b)(i:b=.nilIface\/∃m l,b=.iface m l) :
  Calls prog 279 #[.string e,.string c,.int .i64 f,.int .i64 bits,.iface 467 (.int .i64 2)] a λh g=>∃d,h=.returned (.iface 469 (.pointer (some ⟨d,0,none⟩)))/\a.heap.size<=d/\g.heap[d]? = some (.cells #[.string e,.string c,b] 475 (0,0))/\Below a.heap.size a g:=Any.strconv_toError_syntax Tryz.laysC245 e c f bits b a j k i
def Tryz.lays321_ren:Go.Shelf.Ren:=⟨fun|321=>285|a=>a,fun|5=>5|a=>a,fun|a=>a⟩
def Tryz.lays321:Go.Proofs.Lays.n321 prog Tryz.lays321_ren:={
 mixed:=by kernel_rfl
 f321:=func285.trans (congrArg some (by kernel_rfl))
 t5:=underlying5
 a5:=Tryz.isAgg5
 z5:=Tryz.sizeOf5
 v5:=Tryz.zeroValue5 }
open Go.RowKit in
def Tryz.internal_strconv_lower(a:Int)(b:World) :
  Calls prog 285 #[.int .u8 a] b λc d=>c=.returned (.int .u8 (bits .or .u8 a 32))/\d=b:=Any.internal_strconv_lower Tryz.lays321 a b
def Tryz.lays287_ren:Go.Shelf.Ren:=⟨fun|287=>278|321=>285|322=>286|a=>a,fun|9=>9|3=>3|53=>421|75=>55|4=>4|167=>467|5=>5|46=>332|37=>97|0=>0|21=>21|80=>70|a=>a,fun|a=>a⟩
def Tryz.lays287:Go.Proofs.Lays.n287 prog Tryz.lays287_ren:={
 mixed:=by kernel_rfl
 f287:=func278.trans (congrArg some (by kernel_rfl))
 f321:=func285.trans (congrArg some (by kernel_rfl))
 f322:=func286.trans (congrArg some (by kernel_rfl))
 t0:=underlying0
 a0:=Tryz.isAgg0
 z0:=Tryz.sizeOf0
 v0:=Tryz.zeroValue0
 t3:=underlying3
 a3:=Tryz.isAgg3
 z3:=Tryz.sizeOf3
 v3:=Tryz.zeroValue3
 t4:=underlying4
 a4:=Tryz.isAgg4
 z4:=Tryz.sizeOf4
 v4:=Tryz.zeroValue4
 t5:=underlying5
 a5:=Tryz.isAgg5
 z5:=Tryz.sizeOf5
 v5:=Tryz.zeroValue5
 t9:=underlying9
 a9:=Tryz.isAgg9
 z9:=Tryz.sizeOf9
 v9:=Tryz.zeroValue9
 t21:=underlying21
 a21:=Tryz.isAgg21
 z21:=Tryz.sizeOf21
 v21:=Tryz.zeroValue21
 t37:=underlying97
 a37:=Tryz.isAgg97
 z37:=Tryz.sizeOf97
 v37:=Tryz.zeroValue97
 t46:=underlying332
 a46:=Tryz.isAgg332
 z46:=Tryz.sizeOf332
 v46:=Tryz.zeroValue332
 t53:=underlying421
 a53:=Tryz.isAgg421
 z53:=Tryz.sizeOf421
 v53:=Tryz.zeroValue421
 t75:=underlying55
 a75:=Tryz.isAgg55
 z75:=Tryz.sizeOf55
 v75:=Tryz.zeroValue55
 t167:=underlying467
 a167:=Tryz.isAgg467
 z167:=Tryz.sizeOf467
 v167:=Tryz.zeroValue467 }
open Go.RowKit in
def Tryz.internal_strconv_ParseUint_empty(b bits:Int)(a:World) :
  Calls prog 278 #[.string ⟨#[]⟩,.int .i64 b,.int .i64 bits] a λc d=>c=.returned (.tuple #[.int .u64 0,.iface 467 (.int .i64 2)])/\d=a:=Any.internal_strconv_ParseUint_empty Tryz.lays287 b bits a
def Tryz.laysC174_ren:Go.Shelf.Ren:=⟨fun|174=>275|247=>281|245=>279|287=>278|279=>287|280=>288|281=>289|282=>290|321=>285|322=>286|316=>266|171=>293|205=>292|243=>294|246=>295|283=>296|284=>297|285=>298|286=>299|129=>301|317=>300|318=>302|319=>303|320=>304|337=>305|338=>306|n=>n,fun|9=>9|3=>3|2=>2|75=>55|85=>463|4=>4|167=>467|5=>5|53=>421|175=>460|46=>332|168=>469|37=>97|0=>0|210=>475|21=>21|127=>319|145=>479|143=>477|171=>481|173=>484|212=>486|51=>218|20=>20|213=>487|232=>490|233=>491|80=>70|n=>n,fun|15=>3|16=>4|17=>5|18=>6|19=>7|n=>n⟩
def Tryz.laysC174:Go.Proofs.LaysC.n174 prog Tryz.laysC174_ren:={
 mixed:=by kernel_rfl
 f129:=func301.trans (congrArg some (by kernel_rfl))
 f171:=func293.trans (congrArg some (by kernel_rfl))
 f174:=func275.trans (congrArg some (by kernel_rfl))
 f205:=func292.trans (congrArg some (by kernel_rfl))
 f243:=func294.trans (congrArg some (by kernel_rfl))
 f245:=func279.trans (congrArg some (by kernel_rfl))
 f246:=func295.trans (congrArg some (by kernel_rfl))
 f247:=func281.trans (congrArg some (by kernel_rfl))
 f279:=func287.trans (congrArg some (by kernel_rfl))
 f280:=func288.trans (congrArg some (by kernel_rfl))
 f281:=func289.trans (congrArg some (by kernel_rfl))
 f282:=func290.trans (congrArg some (by kernel_rfl))
 f283:=func296.trans (congrArg some (by kernel_rfl))
 f284:=func297.trans (congrArg some (by kernel_rfl))
 f285:=func298.trans (congrArg some (by kernel_rfl))
 f286:=func299.trans (congrArg some (by kernel_rfl))
 f287:=func278.trans (congrArg some (by kernel_rfl))
 f316:=func266.trans (congrArg some (by kernel_rfl))
 f317:=func300.trans (congrArg some (by kernel_rfl))
 f318:=func302.trans (congrArg some (by kernel_rfl))
 f319:=func303.trans (congrArg some (by kernel_rfl))
 f320:=func304.trans (congrArg some (by kernel_rfl))
 f321:=func285.trans (congrArg some (by kernel_rfl))
 f322:=func286.trans (congrArg some (by kernel_rfl))
 f337:=func305.trans (congrArg some (by kernel_rfl))
 f338:=func306.trans (congrArg some (by kernel_rfl))
 t0:=underlying0
 a0:=Tryz.isAgg0
 z0:=Tryz.sizeOf0
 v0:=Tryz.zeroValue0
 t2:=underlying2
 a2:=Tryz.isAgg2
 z2:=Tryz.sizeOf2
 v2:=Tryz.zeroValue2
 t3:=underlying3
 a3:=Tryz.isAgg3
 z3:=Tryz.sizeOf3
 v3:=Tryz.zeroValue3
 t4:=underlying4
 a4:=Tryz.isAgg4
 z4:=Tryz.sizeOf4
 v4:=Tryz.zeroValue4
 t5:=underlying5
 a5:=Tryz.isAgg5
 z5:=Tryz.sizeOf5
 v5:=Tryz.zeroValue5
 t9:=underlying9
 a9:=Tryz.isAgg9
 z9:=Tryz.sizeOf9
 v9:=Tryz.zeroValue9
 t20:=underlying20
 a20:=Tryz.isAgg20
 z20:=Tryz.sizeOf20
 v20:=Tryz.zeroValue20
 t21:=underlying21
 a21:=Tryz.isAgg21
 z21:=Tryz.sizeOf21
 v21:=Tryz.zeroValue21
 t37:=underlying97
 a37:=Tryz.isAgg97
 z37:=Tryz.sizeOf97
 v37:=Tryz.zeroValue97
 t46:=underlying332
 a46:=Tryz.isAgg332
 z46:=Tryz.sizeOf332
 v46:=Tryz.zeroValue332
 t51:=underlying218
 a51:=Tryz.isAgg218
 z51:=Tryz.sizeOf218
 v51:=Tryz.zeroValue218
 t53:=underlying421
 a53:=Tryz.isAgg421
 z53:=Tryz.sizeOf421
 v53:=Tryz.zeroValue421
 t75:=underlying55
 a75:=Tryz.isAgg55
 z75:=Tryz.sizeOf55
 v75:=Tryz.zeroValue55
 t85:=underlying463
 a85:=Tryz.isAgg463
 z85:=Tryz.sizeOf463
 v85:=Tryz.zeroValue463
 t127:=underlying319
 a127:=Tryz.isAgg319
 z127:=Tryz.sizeOf319
 v127:=Tryz.zeroValue319
 t143:=underlying477
 a143:=Tryz.isAgg477
 z143:=Tryz.sizeOf477
 v143:=Tryz.zeroValue477
 t145:=underlying479
 a145:=Tryz.isAgg479
 z145:=Tryz.sizeOf479
 v145:=Tryz.zeroValue479
 t167:=underlying467
 a167:=Tryz.isAgg467
 z167:=Tryz.sizeOf467
 v167:=Tryz.zeroValue467
 t168:=underlying469
 a168:=Tryz.isAgg469
 z168:=Tryz.sizeOf469
 v168:=Tryz.zeroValue469
 t171:=underlying481
 a171:=Tryz.isAgg481
 z171:=Tryz.sizeOf481
 v171:=Tryz.zeroValue481
 t173:=underlying484
 a173:=Tryz.isAgg484
 z173:=Tryz.sizeOf484
 v173:=Tryz.zeroValue484
 t175:=underlying460
 a175:=Tryz.isAgg460
 z175:=Tryz.sizeOf460
 v175:=Tryz.zeroValue460
 t210:=underlying475
 a210:=Tryz.isAgg475
 z210:=Tryz.sizeOf475
 v210:=Tryz.zeroValue475
 t212:=underlying486
 a212:=Tryz.isAgg486
 z212:=Tryz.sizeOf486
 v212:=Tryz.zeroValue486
 t213:=underlying487
 a213:=Tryz.isAgg487
 z213:=Tryz.sizeOf487
 t232:=underlying490
 a232:=Tryz.isAgg490
 z232:=Tryz.sizeOf490
 v232:=Tryz.zeroValue490
 t233:=underlying491
 a233:=Tryz.isAgg491
 z233:=Tryz.sizeOf491
 v233:=Tryz.zeroValue491
 g15:=by kernel_rfl
 g16:=by kernel_rfl
 g17:=by kernel_rfl
 g18:=by kernel_rfl
 g19:=by kernel_rfl
 t80:=underlying70
 a80:=Tryz.isAgg70
 z80:=Tryz.sizeOf70
 v80:=Tryz.zeroValue70
 i0:=by kernel_rfl
 i2:=by kernel_rfl
 i3:=by kernel_rfl
 i4:=by kernel_rfl
 i5:=by kernel_rfl
 i9:=by kernel_rfl
 i20:=by kernel_rfl
 i21:=by kernel_rfl
 i37:=by kernel_rfl
 i46:=by kernel_rfl
 i51:=by kernel_rfl
 i53:=by kernel_rfl
 i75:=by kernel_rfl
 i80:=by kernel_rfl
 i85:=by kernel_rfl
 i127:=by kernel_rfl
 i143:=by kernel_rfl
 i145:=by kernel_rfl
 i167:=by kernel_rfl
 i168:=by kernel_rfl
 i171:=by kernel_rfl
 i173:=by kernel_rfl
 i175:=by kernel_rfl
 i210:=by kernel_rfl
 i212:=by kernel_rfl
 i232:=by kernel_rfl
 i233:=by kernel_rfl
 m15:=by kernel_rfl
 m16:=by kernel_rfl
 m17:=by kernel_rfl
 m18:=by kernel_rfl
 m19:=by kernel_rfl
 c0:=by kernel_rfl
 c2:=by kernel_rfl
 c3:=by kernel_rfl
 c4:=by kernel_rfl
 c5:=by kernel_rfl
 c9:=by kernel_rfl
 c20:=by kernel_rfl
 c21:=by kernel_rfl
 c37:=by kernel_rfl
 c46:=by kernel_rfl
 c51:=by kernel_rfl
 c53:=by kernel_rfl
 c75:=by kernel_rfl
 c80:=by kernel_rfl
 c85:=by kernel_rfl
 c127:=by kernel_rfl
 c143:=by kernel_rfl
 c145:=by kernel_rfl
 c167:=by kernel_rfl
 c168:=by kernel_rfl
 c171:=by kernel_rfl
 c173:=by kernel_rfl
 c175:=by kernel_rfl
 c210:=by kernel_rfl
 c212:=by kernel_rfl
 c213:=by kernel_rfl
 c232:=by kernel_rfl
 c233:=by kernel_rfl }
open Go.RowKit in
def Tryz.strconv_ParseInt_10_at64_ok(a:ByteArray)(f:a.size<=9223372036854775806)(v:Int)(e:Lib.parseIntB 64 a.data.toList=.ok v)(b:World) :
  Calls prog 275 #[.string a,.int .i64 10,.int .i64 64] b λd c=>d=.returned (.tuple #[.int .i64 v,.nilIface])/\(c=b\/∃g,c=Lib.bytesWorld b 5 g):=Any.strconv_ParseInt_10_at64_ok Tryz.laysC174 a f v e b
open Go.RowKit in
def Tryz.strconv_ParseInt_10_at64_syntax(c:ByteArray)(i:c.size<=281474976710656)(g:Lib.parseIntB 64 c.data.toList=.«syntax»)(b:Value)(a:World)(j:a.cell? ⟨3,0,none⟩=some b)(h:b=.nilIface\/∃l k,b=.iface l k) :
  Calls prog 275 #[.string c,.int .i64 10,.int .i64 64] a λf e=>∃d,f=.returned (.tuple #[.int .i64 (0),.iface 469 (.pointer (some ⟨d,0,none⟩))])/\a.heap.size<=d/\e.heap[d]? = some (.cells #[.string ⟨#[80,97,114,115,101,73,110,116]⟩,.string c,b] 475 (0,0))/\Below a.heap.size a e:=Any.strconv_ParseInt_10_at64_syntax Tryz.laysC174 c i g b a j h
open Go.RowKit in
def Tryz.strconv_ParseInt_10_at64_range(a:ByteArray)(i:a.size<=281474976710656)(g:Lib.parseIntB 64 a.data.toList=.range)(c:Value)(b:World)(j:b.cell? ⟨4,0,none⟩=some c)(h:c=.nilIface\/∃l k,c=.iface l k) :
  Calls prog 275 #[.string a,.int .i64 10,.int .i64 64] b λf e=>∃d,f=.returned (.tuple #[.int .i64 (Lib.intSat 64 a.data.toList),.iface 469 (.pointer (some ⟨d,0,none⟩))])/\b.heap.size<=d/\e.heap[d]? = some (.cells #[.string ⟨#[80,97,114,115,101,73,110,116]⟩,.string a,c] 475 (0,0))/\Below b.heap.size b e:=Any.strconv_ParseInt_10_at64_range Tryz.laysC174 a i g c b j h
def Tryz.lays219_ren:Go.Shelf.Ren:=⟨fun|219=>277|217=>262|225=>282|224=>283|267=>284|266=>272|314=>291|n=>n,fun|9=>9|3=>3|4=>4|5=>5|46=>332|146=>472|51=>218|n=>n,fun|1=>2|n=>n⟩
def Tryz.lays145_ren:Go.Shelf.Ren:=⟨fun|145=>261|220=>271|219=>277|217=>262|225=>282|224=>283|267=>284|266=>272|314=>291|n=>n,fun|9=>9|4=>4|59=>454|3=>3|5=>5|46=>332|146=>472|51=>218|n=>n,fun|1=>2|n=>n⟩
def Tryz.lays145:Go.Proofs.Lays.n145 prog Tryz.lays145_ren:={
 mixed:=by kernel_rfl
 f145:=func261.trans (congrArg some (by kernel_rfl))
 f217:=func262.trans (congrArg some (by kernel_rfl))
 f219:=func277.trans (congrArg some (by kernel_rfl))
 f220:=func271.trans (congrArg some (by kernel_rfl))
 f224:=func283.trans (congrArg some (by kernel_rfl))
 f225:=func282.trans (congrArg some (by kernel_rfl))
 f266:=func272.trans (congrArg some (by kernel_rfl))
 f267:=func284.trans (congrArg some (by kernel_rfl))
 f314:=func291.trans (congrArg some (by kernel_rfl))
 t3:=underlying3
 a3:=Tryz.isAgg3
 z3:=Tryz.sizeOf3
 v3:=Tryz.zeroValue3
 t4:=underlying4
 a4:=Tryz.isAgg4
 z4:=Tryz.sizeOf4
 v4:=Tryz.zeroValue4
 t5:=underlying5
 a5:=Tryz.isAgg5
 z5:=Tryz.sizeOf5
 v5:=Tryz.zeroValue5
 t9:=underlying9
 a9:=Tryz.isAgg9
 z9:=Tryz.sizeOf9
 v9:=Tryz.zeroValue9
 t46:=underlying332
 a46:=Tryz.isAgg332
 z46:=Tryz.sizeOf332
 v46:=Tryz.zeroValue332
 t51:=underlying218
 a51:=Tryz.isAgg218
 z51:=Tryz.sizeOf218
 v51:=Tryz.zeroValue218
 t59:=underlying454
 a59:=Tryz.isAgg454
 z59:=Tryz.sizeOf454
 v59:=Tryz.zeroValue454
 t146:=underlying472
 a146:=Tryz.isAgg472
 z146:=Tryz.sizeOf472
 v146:=Tryz.zeroValue472
 g1:=by kernel_rfl }
open Go.RowKit Go.Lib in
def Tryz.strings_Cut(a b:ByteArray)(d:Int)(c:World)(g:a.size<4294967281)(f:c.cell? ⟨2,0,none⟩=some (.int .i64 d)) :
  Calls prog 261 #[.string a,.string b] c λe i=>e=.returned (.tuple #[.string ⟨(Lib.cut a.data.toList b.data.toList).1.toArray⟩,.string ⟨(Lib.cut a.data.toList b.data.toList).2.1.toArray⟩,.bool (Lib.cut a.data.toList b.data.toList).2.2])/\∃h,i=c.drewN h:=Any.strings_Cut Tryz.lays145 a b d c g f
def Tryz.lays101_ren:Go.Shelf.Ren:=⟨fun|101=>274|208=>280|206=>276|a=>a,fun|9=>9|4=>4|3=>3|a=>a,fun|a=>a⟩
def Tryz.lays101:Go.Proofs.Lays.n101 prog Tryz.lays101_ren:={
 mixed:=by kernel_rfl
 f101:=func274.trans (congrArg some (by kernel_rfl))
 f206:=func276.trans (congrArg some (by kernel_rfl))
 f208:=func280.trans (congrArg some (by kernel_rfl))
 t3:=underlying3
 a3:=Tryz.isAgg3
 z3:=Tryz.sizeOf3
 v3:=Tryz.zeroValue3
 t4:=underlying4
 a4:=Tryz.isAgg4
 z4:=Tryz.sizeOf4
 v4:=Tryz.zeroValue4
 t9:=underlying9
 a9:=Tryz.isAgg9
 z9:=Tryz.sizeOf9
 v9:=Tryz.zeroValue9 }
open Go.RowKit Go.Lib in
def Tryz.strings_TrimPrefix(b a:ByteArray)(c:World) :
  Calls prog 274 #[.string b,.string a] c λd e=>d=.returned (.string ⟨(Lib.trimPrefix b.data.toList a.data.toList).toArray⟩)/\e=c:=Any.strings_TrimPrefix Tryz.lays101 b a c
end Go.Proofs
namespace Go.Proofs.YtjdhaegijjednaaGreatDoor
open Go.Proofs.Tryz
def U(p:Prop):Prop:=p
theorem U.b{p:Prop}(h:U p):p:=h
namespace Mar
def cs(a:UInt8):Bool:=(decide (97<=a.toNat)&&decide (a.toNat<=122))||(decide (65<=a.toNat)&&decide (a.toNat<=90))
def b9(a:UInt8):Bool:=decide (48<=a.toNat)&&decide (a.toNat<=57)
def bx(a:UInt8):Bool:=cs a||b9 a||a.toNat==95
def af:List UInt8->List UInt8
 |[]=>[]
 |c::a=>c::a.takeWhile bx
def hA:List (List UInt8):=
 [[99,111,110,115,116],[116,121,112,101,100,101,102],[101,110,117,109],[115,116,114,117,99,116],[117,110,105,111,110],
  [115,119,105,116,99,104],[99,97,115,101],[100,101,102,97,117,108,116],[118,111,105,100],[105,110,116],
  [117,110,115,105,103,110,101,100],[104,121,112,101,114],[98,111,111,108],[111,112,97,113,117,101],[115,116,114,105,110,103],
  [112,114,111,103,114,97,109],[118,101,114,115,105,111,110],[84,82,85,69],[70,65,76,83,69]]
def db(a:List UInt8):Bool:=hA.contains a
def dW(a:List UInt8):Nat:=
 if Lib.hasPrefix a [47,42]then (if 0<=Lib.index (a.drop 2) [42,47]then (Lib.index (a.drop 2) [42,47]).toNat+4 else 0)else 0
def er(a:UInt8):Bool:=a==32||a==9||a==10
def cY:List UInt8->Nat
 |[]=>0
 |a::b=>if er a then 1 else dW (a::b)
def dq:Nat->List UInt8->Nat
 |0,_=>0
 |f+1,a=>if cY a=0 then 0 else cY a+dq f (a.drop (cY a))
def dM(a:List UInt8):Nat:=dq (a.length+1) a
def k4(a b:List UInt8)(g:b≠[])(c:0<=Lib.index a b):(Lib.index a b).toNat+b.length<=a.length:=by
 induction a with
 |nil=>
  cases b with
  |nil=>exact absurd rfl g
  |cons i l=>simp[Lib.index]at c
 |cons f a h=>
  unfold Lib.index at c ⊢;by_cases e:b.isPrefixOf (f::a)=true
  .simp only[e,if_true,↓reduceIte]
   have:=(List.isPrefixOf_iff_prefix.1 e).length_le;simpa using this
  .simp only[e,Ye,↓reduceIte]at c ⊢;by_cases d:(Lib.index a b==-1)=true
   .simp[d]at c
   .simp only[d,Ye,↓reduceIte]at c ⊢;have j:=Lib.index_ge a b;have k:Lib.index a b≠-1:=by simpa using d
    have:=h (by omega);simp only[YC];omega
def kV(a:List UInt8):dW a<=a.length:=by
 unfold dW;split
 .rename_i c;have d:=(List.isPrefixOf_iff_prefix.1 c).length_le;simp at d;split
  .rename_i b;have:=k4 (a.drop 2) [42,47] (by simp) b;simp at this;omega
  .omega
 .omega
def j5(a:List UInt8):cY a<=a.length:=by
 cases a with
 |nil=>simp[cY]
 |cons b d=>
  by_cases c:er b=true
  .simp[cY,c]
  .have:=kV (b::d);simp only[cY,c,Ye,↓reduceIte];exact this
def l7(b:Nat)(a:List UInt8):dq b a<=a.length:=by
 induction b generalizing a with
 |zero=>simp[dq]
 |succ b d=>
  unfold dq;split
  .omega
  .have c:=d (a.drop (cY a));have e:=j5 a;simp at c;omega
structure am where
 f:Nat
 text:List UInt8
 n:Int
 m:Nat
structure M where
 no:Nat
 m:Nat
def c0(a:List UInt8)(b:Nat):Except M am:=
 if 16<a.length then .error ⟨7,b⟩else if db a then .ok ⟨2,a,0,b⟩else .ok ⟨1,a,0,b⟩
def e3(a:List UInt8):Bool:=decide (1<a.length)&&a.getD 0 0==48
def d7(a:List UInt8):Option Int:=
 if e3 (Lib.trimPrefix a [45])then none else
 match Lib.parseIntB 64 a with
 |.ok v=>if -2147483648<=v/\v<=4294967295 then some v else none
 |_=>none
def cE(a:UInt8):Option Nat:=
 if 48<=a.toNat/\a.toNat<=57 then some (a.toNat-48)
 else if 97<=a.toNat/\a.toNat<=102 then some (a.toNat-87)
 else if 65<=a.toNat/\a.toNat<=70 then some (a.toNat-55)
 else none
def b2:Nat->List UInt8->Option Nat
 |acc,[]=>some acc
 |acc,a::c=>match cE a with
  |some b=>b2 (acc*16+b) c
  |none=>none
def fd(a:List UInt8):Option Int:=
 if 8<a.length then none else if a=[]then none else (b2 0 a).map Int.ofNat
def d2(a:List UInt8):Option Int:=if Lib.hasPrefix a [48,120]then fd (a.drop 2)else d7 a
def dk(b:List UInt8)(a:Nat):Except M am:=
 match d2 b with
 |some c=>.ok ⟨3,b,c,a⟩
 |none=>.error ⟨4,a⟩
def e1(a:UInt8):Bool:=[123,125,40,41,91,93,60,62,42,44,59,58,61].contains a
def cd(d:List UInt8)(b:Nat):Except M am:=
 match d with
 |[]=>.ok ⟨0,[],0,b⟩
 |a::c=>
  if cs a then c0 (af (a::c)) b
  else if b9 a||a==45 then dk (af (a::c)) b
  else if e1 a then .ok ⟨4,[a],0,b⟩
  else .error ⟨2,b⟩
def j7{c:UInt8}{b:Nat}(a:cE c=some b):b<16:=by
 unfold cE at a;split at a
 .simp at a;omega
 .split at a
  .simp at a;omega
  .split at a
   .simp at a;omega
   .cases a
end Mar
namespace Mar
def l6{b:UInt8}(a:e1 b=true):cs b=false/\b9 b=false/\(b==45)=false/\bx b=false/\er b=false/\b≠47:=by
 simp only[e1,List.contains_eq_mem,Yg,List.not_mem_nil,or_false,decide_eq_true_eq]at a;rcases a with a|a|a|a|a|a|a|a|a|a|a|a|a<;>subst a<;>decide
end Mar
end Go.Proofs.YtjdhaegijjednaaGreatDoor
namespace Go.Proofs.YtjdhaegijjednaaGreatDoor
open Go.RowKit
open Go.Proofs.Tryz
def ly{a b:Bool}(c:a=b):Ending.returned (.bool a)=.returned (.bool b):=by rw[c]
def tE{c:IntKind}{a b:Int}(d:a=b):Ending.returned (.int c a)=.returned (.int c b):=by rw[d]
def CE{a b:ByteArray}(c:a=b):Ending.returned (.string a)=.returned (.string b):=by rw[c]
def Bc(a:UInt8)(b:World) :
  Calls prog 237 #[.int .u8 a.toNat] b λc d=>c=.returned (.bool (Mar.cs a))/\d=b:=by
 go_in;go_wp2;all_goals
  go_ret
  refine⟨ly ?_,rfl⟩
  unfold Mar.cs
  rw[Bool.eq_iff_iff]
  simp
  try omega
def Bb(a:UInt8)(b:World) :
  Calls prog 240 #[.int .u8 a.toNat] b λc d=>c=.returned (.bool (Mar.b9 a))/\d=b:=by
 go_in;go_wp2;all_goals
  go_ret
  refine⟨ly ?_,rfl⟩
  unfold Mar.b9
  rw[Bool.eq_iff_iff]
  simp
  try omega
def Jd(a:ByteArray)(b:World) :
  Calls prog 263 #[.string a] b λc d=>c=.returned (.bool (Mar.db a.data.toList))/\d=b:=by
 rw[<-ByteArray.toList_eq];go_in;go_wp2;all_goals
  first
   |(exfalso;simp_all;done)
   |(go_ret;refine⟨ly ?_, rfl⟩;simp only[Mar.db, Mar.hA, List.contains_cons, *, Bool.true_or, Bool.false_or, Bool.or_true, List.contains_nil])
end Go.Proofs.YtjdhaegijjednaaGreatDoor
namespace Go.Proofs.YtjdhaegijjednaaGreatDoor
open Go.Proofs.Tryz
abbrev Y2:=@if_neg
abbrev Y4:=@Nat.le_refl
abbrev Y5:=@List.mem_cons_of_mem
abbrev Y8:=@Or.inl
abbrev Y9:=@if_pos
abbrev Ya:=@Or.inr
abbrev Yb:=@List.mem_cons_self
abbrev Yc:=@List.mem_singleton
abbrev Yd:=@List.getElem?_eq_getElem
abbrev Ye:=@Bool.false_eq_true
abbrev Yf:=@List.mem_append_left
abbrev Yg:=@List.mem_cons
abbrev Yh:=@List.mem_of_getElem?
abbrev Yi:=@beq_eq_false_iff_ne
abbrev Yj:=@Nat.lt_or_ge
abbrev Yk:=@List.drop_eq_getElem_cons
abbrev Ym:=@List.mem_append_right
abbrev Yn:=@List.mem_append
abbrev Yo:=@congrArg
abbrev Yp:=@And.intro
abbrev Yq:=@List.length_append
abbrev Yr:=@Nat.lt_of_lt_of_le
abbrev Ys:=@List.getElem?_append_left
abbrev Yt:=@List.take_succ_eq_append_getElem
abbrev Yu:=@Option.some.injEq
abbrev Yv:=@List.length_eq_zero_iff
abbrev Yw:=@List.getElem?_append_right
abbrev Yy:=@List.getElem_mem
abbrev Yz:=@Nat.le_trans
abbrev YA:=@List.getElem?_eq_none
abbrev YB:=@List.getElem?_eq_some_iff
abbrev YC:=@List.length_cons
abbrev YD:=@List.flatMap_cons
abbrev YE:=@List.mem_map
abbrev YF:=@List.length_set
abbrev YG:=@List.take_length
abbrev YH:=@List.append_nil
abbrev YI:=@List.length_drop
abbrev YJ:=@List.nodup_append
abbrev YK:=@List.flatMap_append
abbrev YM:=@List.length_pos_iff
abbrev YN:=@List.append_assoc
abbrev YO:=@Array.getElem?_eq_none
abbrev YP:=@List.getElem?_set
abbrev YQ:=@Option.some.inj
abbrev YR:=@List.drop_eq_nil_of_le
abbrev YS:=@List.foldl_append
abbrev YT:=@List.nil_append
abbrev YU:=@List.length_map
abbrev YV:=@Nat.zero_le
abbrev YW:=@List.length_take
abbrev YX:=@List.cons_append
abbrev YY:=@List.foldl_cons
end Go.Proofs.YtjdhaegijjednaaGreatDoor
namespace Go.Proofs.YtjdhaegijjednaaGreatDoor
open Go.RowKit
open Go.Proofs.Tryz
def jq:∀(b:Fn) (first a:Array Value) (c:World),(Instr.makeFunc b first a).run Tryz.prog c=.ok (.func b first a) c:=λ_ _ _ _=>rfl
def jr:∀(b:TypeId) (a:World),(Instr.makeMap b none).run Tryz.prog a=.ok (.map (some a.heap.size)) (a.alloc (.map #[] 0)):=λ_ _=>rfl
def wh(b c:TypeId)(d:∀a,(Instr.typeAssert .nilIface b c true).run Tryz.prog a=.ok (.tuple #[.pointer none,.bool false]) a):∀a,(Instr.typeAssert .nilIface b c true).run Tryz.prog a=.ok (.tuple #[.pointer none,.bool false]) a:=d
def el(d:TypeId)(b:Nat)(c e:TypeId)(f:∀a,(Instr.typeAssert (.iface d (.pointer (some ⟨b,0,none⟩))) c e true).run Tryz.prog a=.ok (.tuple #[.pointer none,.bool false]) a):∀a,(Instr.typeAssert (.iface d (.pointer (some ⟨b,0,none⟩))) c e true).run Tryz.prog a=.ok (.tuple #[.pointer none,.bool false]) a:=f
def mw(d:TypeId)(b:Nat)(c e:TypeId)(f:∀a,(Instr.typeAssert (.iface d (.pointer (some ⟨b,0,none⟩))) c e true).run Tryz.prog a=.ok (.tuple #[.pointer (some ⟨b,0,none⟩),.bool true]) a):∀a,(Instr.typeAssert (.iface d (.pointer (some ⟨b,0,none⟩))) c e true).run Tryz.prog a=.ok (.tuple #[.pointer (some ⟨b,0,none⟩),.bool true]) a:=f
def rl(d:TypeId)(e:∀(b c:Value) (a:World),(Instr.field d (.agg #[b,c]) 0).run Tryz.prog a=.ok b a):∀(b c:Value) (a:World),(Instr.field d (.agg #[b,c]) 0).run Tryz.prog a=.ok b a:=e
section
variable {a:UInt8}
def Z{a:Prop}(b:a):U a:=b
def ws(a:ByteArray)(b:World)(f:a.size<=281474976710656) :
  Calls prog 242 #[.string a] b λc d=>c=.returned (.string a)/\Below b.heap.size b d:=by
 go_in;go_wp2_with (go_at_call 266;refine(Tryz.stringslite_Clone _ _ f).mono ?_;rintro c d ⟨rfl,e⟩);go_ret;exact⟨rfl,e⟩
def yE(e:ByteArray)(b:Nat)(p:1<=b)(j:b<=e.size)(h:∀c (f:c<e.size),1<=c->c<b->Mar.bx e[c]=true)
  (i:∀k:b<e.size,Mar.bx e[b]=false):Mar.af e.data.toList=e.data.toList.take b:=by
 obtain⟨⟨d⟩⟩:=e;replace j:b<=d.length:=j;replace h:∀c (f:c<d.length),1<=c->c<b->Mar.bx d[c]=true:=h;replace i:∀k:b<d.length,Mar.bx d[b]=false:=i;show Mar.af d=d.take b;cases d with
 |nil=>simp[Mar.af]
 |cons a g=>
  obtain⟨b,rfl⟩:∃o,b=o+1:=⟨b-1,by omega⟩;simp only[Mar.af,List.take_succ_cons,List.cons.injEq,true_and];simp only[YC]at j;have m:∀l∈g.take b,Mar.bx l=true:=by
   intro l n;obtain⟨c,f,rfl⟩:=List.getElem_of_mem n;have q:c<b:=by simp at f;omega
   have:=h (c+1) (by simp at f ⊢;omega) (by omega) (by omega);simpa using this
  conv=>lhs;rw[<-List.take_append_drop b g]
  rw[List.takeWhile_append_of_pos m];have:(g.drop b).takeWhile Mar.bx=[]:=by
   by_cases k:b<g.length
   .rw[Yk k];have:=i (by simp;omega);simp only[List.getElem_cons_succ]at this;rw[List.takeWhile_cons_of_neg (by simp[this])]
   .rw[List.drop_of_length_le (by omega)];rfl
  rw[this,YH]
def IK(b:Mar.cs a=true):Mar.bx a=true:=by simp[Mar.bx,b]
def IJ(b:Mar.b9 a=true):Mar.bx a=true:=by simp[Mar.bx,b]
def IL(b:((a.toNat:Int)==95)=true):Mar.bx a=true:=by
 have:a.toNat=95:=by simp at b;omega
 simp[Mar.bx,this]
def IM(b:¬Mar.cs a=true)(c:¬Mar.b9 a=true)(d:((a.toNat:Int)==95)=false):Mar.bx a=false:=by
 have:¬a.toNat=95:=by simp at d;omega
 simp at b c;simp[Mar.bx,b,c,this]
def xp(b:ByteArray)(a:Nat):b.extract 0 a=⟨(b.data.toList.take a).toArray⟩:=by
 apply ByteArray.ext;simp only[ByteArray.data_extract];apply Array.ext';simp[Array.toList_extract,List.extract]
def Ow(b:ByteArray)(i:World)(w:b.size<=281474976710656)(u:0<b.size) :
  Calls prog 239 #[.string b] i λd j=>d=.returned (.string ⟨(Mar.af b.data.toList).toArray⟩)/\Below i.heap.size i j:=by
 go_in;go_wp2;go_loop [3] (λh=>∃c:Nat,1<=c/\c<=b.size/\h=.int .i64 c/\∀a (e:a<b.size),1<=a->a<c->Mar.bx b[a]=true) (λh=>b.size-(intOf h).toNat);case atStart=>exact⟨1,by omega,by omega,rfl,by omega⟩
 case round=>
  obtain⟨c,k,l,rfl,p⟩:=hrel;have f:U (∀a (e:a<b.size),1<=a->a<c->Mar.bx b[a]=true):=p;have m:(b.extract 0 c).size<=281474976710656:=by simp;omega
  by_cases q:c<b.size
  .have s:Mar.bx b[c]=true->U (∀a (e:a<b.size),1<=a->a<c+1->Mar.bx b[a]=true):=by
    intro r a e o v;by_cases d:a=c
    .subst d;exact r
    .exact f.b a e o (by omega)
   have iK:=Z s;go_wp2_with (first
     |(go_at_call 237;refine(Bc _ _).mono ?_;rintro d j ⟨rfl,rfl⟩)
     |(go_at_call 240;refine(Bb _ _).mono ?_;rintro d j ⟨rfl,rfl⟩)
     |(go_at_call 242;refine(ws _ _ m).mono ?_;rintro d t ⟨rfl,g⟩))
   .exact⟨⟨c+1,by omega,by omega,by go_num,(iK.b (IK ‹_›)).b⟩,by simp[intOf];omega⟩
   .exact⟨⟨c+1,by omega,by omega,by go_num,(iK.b (IJ ‹_›)).b⟩,by simp[intOf];omega⟩
   .exact⟨⟨c+1,by omega,by omega,by go_num,(iK.b (IL ‹_›)).b⟩,by simp[intOf];omega⟩
   .go_ret;refine⟨CE ?_,g⟩;rw[xp,yE b c k l f.b (λ_=>IM ‹_› ‹_› ‹_›)]
  .go_wp2_with (go_at_call 242;refine(ws _ _ m).mono ?_;rintro d t ⟨rfl,g⟩);go_ret;refine⟨CE ?_,g⟩;rw[xp,yE b c k l f.b (λn=>absurd n q)]
end
section
variable {b:Nat}{a:List UInt8}
def Gv(b:(!Lib.hasPrefix a [47,42])=true):Mar.dW a=0:=by
 simp at b;simp[Mar.dW,b]
def DQ{b:List UInt8}(c:(!Lib.hasPrefix a b)=false):Lib.trimPrefix a b=a.drop b.length:=by
 simp at c;simp[Lib.trimPrefix,c]
def Gx(b:(!Lib.hasPrefix a [47,42])=false)(c:(!(Lib.cut (Lib.trimPrefix a [47,42]) [42,47]).snd.snd)=true):Mar.dW a=0:=by
 rw[DQ b]at c;simp at b;unfold Lib.cut at c;by_cases d:0<=Lib.index (a.drop 2) [42,47]
 .simp[d]at c
 .simp[Mar.dW,b,d]
def Gy(b:(!Lib.hasPrefix a [47,42])=false)(d:(!(Lib.cut (Lib.trimPrefix a [47,42]) [42,47]).snd.snd)=false) :
  2+((Lib.cut (Lib.trimPrefix a [47,42]) [42,47]).fst.length:Int)+2=(Mar.dW a:Int):=by
 rw[DQ b]at d ⊢;simp at b;unfold Lib.cut at d ⊢;by_cases c:0<=Lib.index (a.drop 2) [42,47]
 .have:=Mar.k4 (a.drop 2) [42,47] (by simp) c;simp at this;simp[Mar.dW,b,c];omega
 .simp[c]at d
def GI(a b:List UInt8):(Lib.cut a b).fst.length<=a.length:=by
 unfold Lib.cut;split<;>simp;omega
def yZ(a b:List UInt8):(Lib.trimPrefix a b).length<=a.length:=by
 unfold Lib.trimPrefix;split<;>simp
def Gz(a:ByteArray)(f:Int)(d:World)(j:a.size<4294967281)(h:d.cell? ⟨2,0,none⟩=some (.int .i64 f)) :
  Calls prog 235 #[.string a] d λc e=>c=.returned (.int .i64 (Mar.dW a.data.toList))/\∃b,e=d.drewN b:=by
 have k:a.size=a.data.toList.length:=by simp
 have g:(⟨(Lib.trimPrefix a.data.toList [47,42]).toArray⟩:ByteArray).size<4294967281:=by
  have:=yZ a.data.toList [47,42];show (Lib.trimPrefix a.data.toList [47,42]).toArray.size<_;simp only[List.size_toArray];omega
 have i:((Lib.cut (Lib.trimPrefix a.data.toList [47,42]) [42,47]).fst.length:Int)<=4294967281:=by
  have:=yZ a.data.toList [47,42];have:=GI (Lib.trimPrefix a.data.toList [47,42]) [42,47];omega
 go_in;go_wp2_with (first
  |(go_at_call 260;refine(Tryz.strings_CutPrefix _ _ _).mono ?_;rintro c e ⟨rfl,rfl⟩)
  |(go_at_call 261;refine(Tryz.strings_Cut _ _ f _ g h).mono ?_;rintro c e ⟨rfl,b,rfl⟩))
 .go_ret;exact⟨tE (by rw[Gv ‹_›];rfl),0,rfl⟩
 .go_ret;exact⟨tE (by rw[Gx ‹_› ‹_›];rfl),b,rfl⟩
 .go_ret;exact⟨tE (Gy ‹_› ‹_›),b,rfl⟩
def FQ(a:UInt8):(0<=Lib.indexByte [32,9,10] ((a.toNat:Int).toNat.toUInt8))↔Mar.er a=true:=by
 have:((a.toNat:Int).toNat.toUInt8)=a:=by simp
 rw[this];unfold Mar.er;simp only[Lib.indexByte];by_cases c:a=32
 .subst c;decide
 .by_cases d:a=9
  .subst d;decide
  .by_cases e:a=10
   .subst e;decide
   .have f:((32:UInt8)==a)=false:=by simp;exact λb=>c b.symm
    have g:((9:UInt8)==a)=false:=by simp;exact λb=>d b.symm
    have h:((10:UInt8)==a)=false:=by simp;exact λb=>e b.symm
    simp[f,g,h,c,d,e]
def wN(a:UInt8):(0<=Lib.indexByte [32,9,10] a)↔Mar.er a=true:=by
 have:=FQ a;have b:((a.toNat:Int).toNat.toUInt8)=a:=by simp
 rwa[b]at this
def xo(a:ByteArray)(b:Nat):(a.extract b a.size).data.toList=a.data.toList.drop b:=by
 have c:a.size=a.data.toList.length:=by simp
 simp only[ByteArray.data_extract,Array.toList_extract,List.extract];rw[List.take_of_length_le (by simp)]
def xv{b:Nat}(c:b<a.length)(d:Mar.er a[b]=true):Mar.cY (a.drop b)=1:=by
 rw[Yk c];simp[Mar.cY,d]
def xw{b:Nat}(c:b<a.length)(d:¬Mar.er a[b]=true):Mar.cY (a.drop b)=Mar.dW (a.drop b):=by
 rw[Yk c];simp[Mar.cY,d]
def Dk{c:Nat}(e:(a.drop c).length<b)(d:Mar.cY (a.drop c)=0):Mar.dq b (a.drop c)=0:=by
 cases b with
 |zero=>rfl
 |succ b=>simp[Mar.dq,d]
def Dj{k c:Nat}(g:(a.drop k).length<b)(e:Mar.cY (a.drop k)=c)(h:c≠0) :
  ∃d,(a.drop (k+c)).length<d/\Mar.dq b (a.drop k)=c+Mar.dq d (a.drop (k+c)):=by
 cases b with
 |zero=>omega
 |succ b=>
  have f:=Mar.j5 (a.drop k);rw[e]at f;refine⟨b,?_,?_⟩
  .simp at g f ⊢;omega
  .simp[Mar.dq,e,h,List.drop_drop]
def Py(a:ByteArray)(y:Int)(l:World)(I:a.size<4294967281)(E:l.cell? ⟨2,0,none⟩=some (.int .i64 y)) :
  Calls prog 182 #[.string a] l λs m=>s=.returned (.int .i64 (Mar.dM a.data.toList))/\∃d,m=l.drewN d:=by
 have p:U (a.size=a.data.toList.length):=by simp[U]
 go_in;go_wp2;go_loopw [3] (λv m=>∃c b d:Nat,c<=a.size/\v=.int .i64 c/\m=l.drewN d/\(a.data.toList.drop c).length<b/\Mar.dM a.data.toList=c+Mar.dq b (a.data.toList.drop c)) (λv _=>a.size-(intOf v).toNat)
 case atStart=>exact⟨0,a.data.toList.length+1,0,by omega,rfl,rfl,by simp,by simp[Mar.dM]⟩
 case round=>
  obtain⟨c,b,d,H,rfl,rfl,A,F⟩:=hrel;have x:U ((a.data.toList.drop c).length<b):=A;have o:U (Mar.dM a.data.toList=c+Mar.dq b (a.data.toList.drop c)):=F;by_cases D:c<a.size
  .have C:c<a.data.toList.length:=by rw[<-p.b];exact D
   have t:=Gz (a.extract c a.size) y (l.drewN d) (by simp;omega) (by simpa using E);rw[xo]at t;have u:=Mar.kV (a.data.toList.drop c);simp only[YI]at u;rw[<-p.b]at u;obtain⟨e,q⟩:∃e,U (Mar.dW (a.data.toList.drop c)=e):=⟨_,rfl⟩;rw[q.b]at t u;have z:=Z t;have n:=Z C;have hS:∀h:Nat,Mar.cY (a.data.toList.drop c)=h->h≠0->U (∃f,(a.data.toList.drop (c+h)).length<f/\Mar.dM a.data.toList=(c+h:Nat)+Mar.dq f (a.data.toList.drop (c+h))):=by
    intro h B i;obtain⟨f,j,k⟩:=Dj x.b B i;exact⟨f,j,by rw[o.b,k];omega⟩
   have Fin:=Z hS;have G:a[c]=a.data.toList[c]'(n.b):=by simp;rfl
   have r:=Z G;go_wp2_with (first
    |(go_at_call 235;refine z.b.mono ?_;rintro s m ⟨rfl,w,rfl⟩)
    |(go_at_call 236;refine(Tryz.strings_IndexByte _ _ _).mono ?_;rintro s m ⟨rfl,rfl⟩))
   .obtain⟨f,j,k⟩:=(Fin.b 1 (xv n.b (by rw[<-r.b];exact(wN _).1 ‹_›)) (by omega)).b;exact⟨⟨c+1,f,d+w,by omega,by go_num,rfl,j,k⟩,by simp[intOf];omega⟩
   .go_ret;have i:e=0:=by have:=beq_iff_eq.1 (‹((e:Int)==0)=true›);omega
    have g:¬Mar.er a[c]=true:=λg=>by have:=(wN _).2 g;omega
    refine⟨tE ?_,d+w,rfl⟩;rw[o.b,Dk x.b (by rw[xw n.b (by rw[<-r.b];exact g),q.b,i])];rfl
   .have i:e≠0:=by have:=Yi.1 (‹((e:Int)==0)=false›);omega
    have g:¬Mar.er a[c]=true:=λg=>by have:=(wN _).2 g;omega
    obtain⟨f,j,k⟩:=(Fin.b e (by rw[xw n.b (by rw[<-r.b];exact g),q.b]) i).b;exact⟨⟨c+e,f,d+w,by omega,by go_num,rfl,j,k⟩,by simp[intOf];omega⟩
  .go_wp2;go_ret;refine⟨tE ?_,d,rfl⟩;have:a.data.toList.drop c=[]:=List.drop_of_length_le (by rw[<-p.b];omega);rw[o.b,this];have:∀b,Mar.dq b []=0:=by intro b;cases b<;>simp[Mar.dq,Mar.cY]
   simp[this]
end
end Go.Proofs.YtjdhaegijjednaaGreatDoor
namespace Go.Proofs.YtjdhaegijjednaaGreatDoor
open Go.RowKit
open Go.Lib (occAt)
open Go.Proofs.Tryz
section
variable {b a:List UInt8}{c:Nat}
def LW(a:c+1<b.length):occAt b [42,47] c=(b[c]==42&&b[c+1]==47):=by
 unfold Lib.occAt;rw[Yk (by omega:c<b.length),Yk a];simp[List.isPrefixOf,Bool.beq_comm]
def Gu(f:c+1<b.length)(e:∀a,a<c->occAt b [42,47] a=false)(d:occAt b [42,47] c=true):Lib.index b [42,47]=c:=Lib.index_first (by omega) d e
def Gw(f:∀a,a<c->occAt b [42,47] a=false)(i:b.length<=c+1):Lib.index b [42,47] = -1:=by
 refine Lib.index_none (λa h=>?_);rcases Yj a c with e|e
 .exact f a e
 .cases g:occAt b [42,47] a with
  |false=>rfl
  |true=>
   rcases Lib.occAt_room g with d|d
   .simp at d;omega
   .cases d
def Gt{b:Nat}(c:b+1<a.length)(d:a[b]=47)(e:a[b+1]=42):Mar.dW (a.drop b)=if 0<=Lib.index (a.drop (b+2)) [42,47]then (Lib.index (a.drop (b+2)) [42,47]).toNat+4 else 0:=by
 have f:Lib.hasPrefix (a.drop b) [47,42]=true:=by
  unfold Lib.hasPrefix;rw[Yk (by omega:b<a.length),Yk c,d,e];rfl
 unfold Mar.dW;rw[Y9 f,List.drop_drop]
def xd{b:Nat}(f:b<a.length)(e:∀(c:b+1<a.length),¬(a[b]=47/\a[b+1]=42)):Mar.dW (a.drop b)=0:=by
 have g:Lib.hasPrefix (a.drop b) [47,42]=false:=by
  unfold Lib.hasPrefix;rw[Yk f];rcases Yj (b+1) a.length with c|c
  .rw[Yk c];have:=e c;cases d:([47,42]:List UInt8).isPrefixOf (a[b]::a[b+1]::a.drop (b+1+1))with
   |false=>rfl
   |true=>
    simp only[List.isPrefixOf,Bool.and_eq_true,beq_iff_eq,Bool.and_true]at d;exact absurd ⟨d.1.symm,d.2.symm⟩ this
  .rw[List.drop_eq_nil_iff.2 (by omega:a.length<=b+1)];simp[List.isPrefixOf]
 unfold Mar.dW;rw[g];rfl
def dU(a:List UInt8)(b:Nat):Nat:=b+Mar.dM (a.drop b)
def Px{a:List UInt8}:∀{b g:Nat},a.length<b->a.length<g->Mar.dq b a=Mar.dq g a:=by
 intro b;induction b generalizing a with
 |zero=>intro g d;omega
 |succ b c=>
  intro g f h;cases g with
  |zero=>omega
  |succ g=>
   simp only[Mar.dq];split
   .rfl
   .rename_i e;have i:=Mar.j5 a;rw[c (g:=g) (by simp;omega) (by simp;omega)]
def AO{b:Nat}(c:Mar.cY (a.drop b)=0):dU a b=b:=by
 unfold dU Mar.dM;rw[Dk (by omega) c];rfl
def Iq{k b:Nat}(c:Mar.cY (a.drop k)=b)(g:b≠0):dU a k=dU a (k+b):=by
 unfold dU Mar.dM;obtain⟨h,d,e⟩:=Dj (l:=a) (k:=k) (f:=(a.drop k).length+1) (by omega) c g;rw[e,Px d (by omega:(a.drop (k+b)).length<(a.drop (k+b)).length+1)];omega
def Ip{b:Nat}(c:a.length<=b):dU a b=b:=by
 refine AO ?_;rw[List.drop_eq_nil_iff.2 c];rfl
end
end Go.Proofs.YtjdhaegijjednaaGreatDoor
namespace Go.Proofs.YtjdhaegijjednaaGreatDoor
open Go.Lib (parseUintM parseUintB parseIntB)
open Go.Proofs.Tryz
def ew:Nat->List UInt8->Option Nat
 |acc,[]=>some acc
 |acc,a::b=>if Mar.b9 a then ew (acc*10+(a.toNat-48)) b else none
def cA(a:List UInt8)(c:Bool):Option Int:=
 if 2<a.length/\a.getD 0 0=48/\a.getD 1 0=120 then (if c=true\/10<a.length then none else (Mar.b2 0 (a.drop 2)).map Int.ofNat)
 else if a=[]\/10<a.length\/(1<a.length/\a.getD 0 0=48)then none
 else match ew 0 a with
  |none=>none
  |some b=>if c then (if b<=2147483648 then some (-(b:Int))else none)else (if b<=4294967295 then some (b:Int)else none)
def oo(a:UInt8):Mar.b9 a=true↔48<=a.toNat/\a.toNat<=57:=by simp[Mar.b9]
def Mt:∀(d:List UInt8) (a:Nat),a*10 ^ d.length+10 ^ d.length<=10000000000000000000->parseUintM 18446744073709551615 a d=match ew a d with|some u=>.ok u|none=>.syntax:=by
 intro d;induction d with
 |nil=>intro a _;rfl
 |cons c b i=>
  intro a f;have m:1<=10 ^ b.length:=Nat.one_le_pow _ _ (by omega);rw[YC,Nat.pow_succ]at f;by_cases e:48<=c.toNat/\c.toNat<=57
  .have l:a*10<=a*(10 ^ b.length*10):=Nat.mul_le_mul_left _ (by omega);have k:a<1000000000000000000:=by omega
   have h:(a*10+(c.toNat-48))*10 ^ b.length+10 ^ b.length<=10000000000000000000:=by
    have g:(a*10+(c.toNat-48))*10 ^ b.length+10 ^ b.length=(a*10+(c.toNat-48)+1)*10 ^ b.length:=by rw[Nat.add_mul (a*10+(c.toNat-48)) 1];omega
    have j:a*(10 ^ b.length*10)+10 ^ b.length*10=(a*10+10)*10 ^ b.length:=by rw[Nat.add_mul];congr 1;rw[Nat.mul_comm (10 ^ b.length) 10,Nat.mul_assoc];rw[Nat.mul_comm]
    rw[g];refine Yz (Nat.mul_le_mul_right _ (by omega:a*10+(c.toNat-48)+1<=a*10+10)) ?_;omega
   simp only[parseUintM,ew];rw[Y9 e,Y2 (by omega),Y2 (by omega),Y9 ((oo c).2 e)];exact i _ h
  .simp only[parseUintM,ew];rw[Y2 e,Y2 (λf=>e ((oo c).1 f))]
def Ms:∀(c:List UInt8) (b d:Nat),parseUintM 18446744073709551615 b c=.ok d->b*10 ^ c.length<=d:=by
 intro c;induction c with
 |nil=>intro b d a;cases a;simp
 |cons h e g=>
  intro b d a;simp only[parseUintM]at a;split at a
  .split at a
   .cases a
   .split at a
    .cases a
    .have:=g _ _ a;rw[YC,Nat.pow_succ];have f:b*(10 ^ e.length*10)=b*10*10 ^ e.length:=by rw[Nat.mul_comm (10 ^ e.length) 10,Nat.mul_assoc]
     rw[f];exact Yz (Nat.mul_le_mul_right _ (by omega)) this
  .cases a
def Ct{c:List UInt8}(f:10<c.length)(h:c.getD 0 0≠48){e:Nat}(a:parseUintB 64 c=.ok e):10000000000<=e:=by
 cases c with
 |nil=>simp at f
 |cons b d=>
  have i:b≠48:=by simpa using h
  unfold Lib.parseUintB at a;rw[Y2 (by simp)]at a;have a:parseUintM 18446744073709551615 0 (b::d)=.ok e:=a;simp only[parseUintM]at a;split at a
  .rename_i l;have k:1<=b.toNat-48:=by
    have:b.toNat≠48:=λg=>i (UInt8.toNat_inj.1 (by simpa using g));omega
   split at a
   .cases a
   .split at a
    .cases a
    .have:=Ms _ _ _ a;have j:10 ^ 10<=10 ^ d.length:=Nat.pow_le_pow_right (by omega) (by simp at f;omega);have:1*10 ^ d.length<=(0*10+(b.toNat-48))*10 ^ d.length:=Nat.mul_le_mul_right _ (by omega);omega
  .cases a
def DT{a:List UInt8}(b:a≠[])(c:¬10<a.length):parseUintB 64 a=match ew 0 a with|some u=>.ok u|none=>.syntax:=by
 unfold Lib.parseUintB;rw[Y2 b];refine Mt a 0 ?_;have:10 ^ a.length<=10 ^ 10:=Nat.pow_le_pow_right (by omega) (by omega);omega
def Ai:∀(c:List UInt8) (a d:Nat),ew a c=some d->d<(a+1)*10 ^ c.length:=by
 intro c;induction c with
 |nil=>intro a d b;cases b;simp
 |cons g e i=>
  intro a d b;simp only[ew]at b;split at b
  .rename_i f;have f:=(oo g).1 f;have:=i _ _ b;rw[YC,Nat.pow_succ];refine Yr this ?_;have h:(a+1)*(10 ^ e.length*10)=((a+1)*10)*10 ^ e.length:=by rw[Nat.mul_comm (10 ^ e.length) 10,Nat.mul_assoc]
   rw[h];exact Nat.mul_le_mul_right _ (by omega)
  .cases b
def vt(a:List UInt8):Mar.e3 a=true↔(1<a.length/\a.getD 0 0=48):=by simp[Mar.e3]
def Cf{a:UInt8}{b:List UInt8}(u:Mar.b9 a=true):Mar.d2 (a::b)=cA (a::b) false:=by
 have x:=(oo a).1 u;have o:¬(a.toNat=43\/a.toNat=45):=by omega
 have w:a≠45:=λc=>by subst c;simp at x
 by_cases h:Lib.hasPrefix (a::b) [48,120]=true
 .obtain⟨d,A⟩:=List.isPrefixOf_iff_prefix.1 h;have c:a::b=48::120::d:=by rw[<-A];rfl
  rw[c];unfold Mar.d2 cA;rw[c]at h;rw[Y9 h];unfold Mar.fd;simp only[List.drop_succ_cons,List.drop_zero,YC];cases d with
  |nil=>simp
  |cons e d=>
   have q:2<(e::d).length+1+1/\(48::120::e::d).getD 0 0=48/\(48::120::e::d).getD 1 0=120:=⟨by simp,rfl,rfl⟩;by_cases l:8<(e::d).length
   .rw[Y9 l,Y9 q,Y9 (Ya (by omega))]
   .rw[Y2 l,Y2 (by simp),Y9 q,Y2 (by simp;simp at l;omega)]
 .have C:Lib.hasPrefix (a::b) [48,120]=false:=by simpa using h
  have z:¬(2<(a::b).length/\(a::b).getD 0 0=48/\(a::b).getD 1 0=120):=by
   rintro⟨t,m,n⟩;cases b with
   |nil=>simp at t
   |cons e b=>
    simp at m n;subst m n;exact h rfl
  have B:Lib.trimPrefix (a::b) [45]=a::b:=by
   unfold Lib.trimPrefix Lib.hasPrefix;rw[Y2];simp only[List.isPrefixOf,Bool.and_true,beq_iff_eq];exact λc=>w c.symm
  unfold Mar.d2 cA Mar.d7;rw[Y2 (by rw[C];simp),Y2 z,B];by_cases j:Mar.e3 (a::b)=true
  .rw[Y9 j,Y9 (Ya (Ya ((vt _).1 j)))]
  .rw[Y2 j];have p:¬(1<(a::b).length/\(a::b).getD 0 0=48):=λf=>j ((vt _).2 f);by_cases i:10<(a::b).length
   .rw[Y9 (Ya (Y8 i))];have s:(a::b).getD 0 0≠48:=λc=>p ⟨by omega,c⟩;unfold Lib.parseIntB;simp only[Y2 o];cases k:parseUintB 64 (a::b)with
    |«syntax»=>rfl
    |range=>rfl
    |ok r=>
     have:=Ct i s k;simp only;split
     .rename_i v g;split at g
      .cases g
      .split at g
       .cases g
       .cases g
        rw[Y2 (by omega:¬a.toNat=45),Y2 (by omega)]
     .rfl
   .rw[Y2 (by simp only[reduceCtorEq,false_or];rintro(f|f);exact i f;exact p f)];unfold Lib.parseIntB;simp only[Y2 o];rw[DT (by simp) i];cases y:ew 0 (a::b)with
    |none=>rfl
    |some r=>
     have E:=Ai _ _ _ y;have:10 ^ (a::b).length<=10 ^ 10:=Nat.pow_le_pow_right (by omega) (by omega);simp only;have D:¬a.toNat=45:=by omega
     simp only[D,not_false_eq_true,true_and,false_and,if_false]
     rw[Y2 (by omega)];simp only[Ye,if_false]
     by_cases k:r<=4294967295
     .rw[Y9 (by omega),Y9 k]
     .rw[Y2 (by omega),Y2 k]
def Ce(a:List UInt8):Mar.d2 (45::a)=cA a true:=by
 have p:Lib.hasPrefix (45::a) [48,120]=false:=by simp[Lib.hasPrefix,List.isPrefixOf]
 have o:Lib.trimPrefix (45::a) [45]=a:=by simp[Lib.trimPrefix,Lib.hasPrefix,List.isPrefixOf]
 unfold Mar.d2 Mar.d7;rw[Y2 (by rw[p];simp),o];by_cases e:Mar.e3 a=true
 .rw[Y9 e];have c:=(vt _).1 e;unfold cA;by_cases f:2<a.length/\a.getD 0 0=48/\a.getD 1 0=120
  .rw[Y9 f,Y9 (Y8 rfl)]
  .rw[Y2 f,Y9 (Ya (Ya c))]
 .rw[Y2 e];have c:¬(1<a.length/\a.getD 0 0=48):=λb=>e ((vt _).2 b);have f:¬(2<a.length/\a.getD 0 0=48/\a.getD 1 0=120):=λb=>c ⟨by omega,b.2.1⟩;unfold cA;rw[Y2 f];unfold Lib.parseIntB;have m:(45:UInt8).toNat=45:=rfl;simp only[m,or_true,if_true]
  by_cases h:a=[]
  .subst h;rfl
  .by_cases d:10<a.length
   .rw[Y9 (Ya (Y8 d))];have l:a.getD 0 0≠48:=λk=>c ⟨by omega,k⟩;cases g:parseUintB 64 a with
    |«syntax»=>rfl
    |range=>rfl
    |ok i=>
     have:=Ct d l g;simp only[not_true_eq_false,false_and,if_false,true_and]
     by_cases j:2 ^ (64-1)<i
     .rw[Y9 j]
     .rw[Y2 j];simp only;rw[Y2 (by omega)]
   .rw[Y2 (by rintro(b|b|b);exact h b;exact d b;exact c b),DT h d];cases n:ew 0 a with
    |none=>rfl
    |some i=>
     have q:=Ai _ _ _ n;have:10 ^ a.length<=10 ^ 10:=Nat.pow_le_pow_right (by omega) (by omega);simp only[not_true_eq_false,false_and,if_false,true_and]
     rw[Y2 (by omega)];simp only[if_true]
     by_cases g:i<=2147483648
     .rw[Y9 (by omega),Y9 g]
     .rw[Y2 (by omega),Y2 g]
end Go.Proofs.YtjdhaegijjednaaGreatDoor
namespace Go.Proofs.YtjdhaegijjednaaGreatDoor
open Go.RowKit
open Go.Proofs.Tryz
def pL(a:UInt8)(b:World) :
  Calls prog 137 #[.int .u8 a.toNat] b λc d=>c=.returned (.bool (Mar.cs a))/\d=b:=by
 go_in;go_wp2;all_goals
  go_ret
  refine⟨ly ?_,rfl⟩
  unfold Mar.cs
  rw[Bool.eq_iff_iff]
  simp
  try omega
def lY(a:UInt8)(b:World) :
  Calls prog 138 #[.int .u8 a.toNat] b λc d=>c=.returned (.bool (Mar.b9 a))/\d=b:=by
 go_in;go_wp2;all_goals
  go_ret
  refine⟨ly ?_,rfl⟩
  unfold Mar.b9
  rw[Bool.eq_iff_iff]
  simp
  try omega
def Bh(a:ByteArray)(b:World) :
  Calls prog 139 #[.string a] b λc d=>c=.returned (.bool (Mar.db a.data.toList))/\d=b:=by
 rw[<-ByteArray.toList_eq];go_in;go_wp2;all_goals
  first
   |(exfalso;simp_all;done)
   |(go_ret;refine⟨ly ?_, rfl⟩;simp only[Mar.db, Mar.hA, List.contains_cons, *, Bool.true_or, Bool.false_or, Bool.or_true, List.contains_nil])
def kg(b:UInt8)(a:Nat)(d:a<256):((b.toNat:Int)==(a:Int))=(b==UInt8.ofNat a):=by
 rw[Bool.eq_iff_iff];simp only[beq_iff_eq];constructor
 .intro c;apply UInt8.toNat_inj.1;simp;omega
 .intro c;subst c;simp;omega
def sW(a:List UInt8)(k:Nat)(a1:k<=a.length)(c1:a.length<=1000000)(B:World) :
  Calls prog 136 #[.string ⟨a.toArray⟩,.int .i64 k] B λe a4=>e=.returned (.int .i64 (dU a k))/\a4=B:=by
 go_in;go_wp2_with fail;go_loopw [1] (λf A=>∃b:Nat,f=.int .i64 b/\b<=a.length/\U (dU a k=dU a b)/\A=B) (λf _=>a.length-(intOf f).toNat)
 case atStart=>exact⟨k,rfl,a1,rfl,rfl⟩
 case round=>
  obtain⟨b,rfl,b8,v,rfl⟩:=hrel;rcases Yj b a.length with h|P
  .have b2:(0:Int)<=(b:Int):=by omega
   have b3:(b:Int)<(a.length:Int):=by omega
   have a8:(⟨a.toArray⟩:ByteArray)[b]'(by simp[ByteArray.size];exact h)=a[b]:=rfl;have u:Mar.cY (a.drop b)≠0->U (dU a k=dU a (b+Mar.cY (a.drop b))):=λd=>v.b.trans (Iq rfl d);have n:Mar.cY (a.drop b)=0->U (dU a k=b):=λd=>v.b.trans (AO d);by_cases g:Mar.er a[b]=true
   .have o:=u (by rw[xv h g];omega);rw[xv h g]at o;have N:a[b].toNat=32\/a[b].toNat=9\/a[b].toNat=10:=by
     simp only[Mar.er,Bool.or_eq_true,beq_iff_eq]at g;rcases g with(d|d)|d<;>(rw[d];simp)
    rcases N with d|d|d
    .have m:(a[b].toNat:Int)=32:=by omega
     go_wp2;exact⟨⟨b+1,by go_num,h,o,trivial⟩,by simp[intOf];omega⟩
    .have m:(a[b].toNat:Int)=9:=by omega
     go_wp2;exact⟨⟨b+1,by go_num,h,o,trivial⟩,by simp[intOf];omega⟩
    .have m:(a[b].toNat:Int)=10:=by omega
     go_wp2;exact⟨⟨b+1,by go_num,h,o,trivial⟩,by simp[intOf];omega⟩
   .have R:=xw h g;rw[R]at u n;have c3:((a[b].toNat:Int)==32)=false:=by
     simp only[Mar.er,Bool.or_eq_true,beq_iff_eq,not_or]at g;have:a[b].toNat≠32:=λe=>g.1.1 (UInt8.toNat_inj.1 (by simpa using e));simp;omega
    have c4:((a[b].toNat:Int)==9)=false:=by
     simp only[Mar.er,Bool.or_eq_true,beq_iff_eq,not_or]at g;have:a[b].toNat≠9:=λe=>g.1.2 (UInt8.toNat_inj.1 (by simpa using e));simp;omega
    have c2:((a[b].toNat:Int)==10)=false:=by
     simp only[Mar.er,Bool.or_eq_true,beq_iff_eq,not_or]at g;have:a[b].toNat≠10:=λe=>g.2 (UInt8.toNat_inj.1 (by simpa using e));simp;omega
    by_cases s:a[b]=47
    .have K:((a[b].toNat:Int) != 47)=false:=by rw[s];rfl
     rcases Yj (b+1) a.length with m|m
     .have b9:(0:Int)<=(b:Int)+1:=by omega
      have c0:(b:Int)+1<(a.length:Int):=by omega
      have a2:¬((a.length:Int)<=(b:Int)+1):=by omega
      have a9:(⟨a.toArray⟩:ByteArray)[b+1]'(by simp[ByteArray.size];exact m)=a[b+1]:=rfl;by_cases r:a[b+1]=42
      .have J:((a[b+1].toNat:Int) != 42)=false:=by rw[r];rfl
       have O:=Gt m s r;rw[O]at u n;have I:=Z u;have H:=Z n;have na:(a.drop (b+2)).length=a.length-(b+2):=YI;go_wp2_with fail;go_loopw [6] (λy A=>∃f c:Nat,U (c=b+2+f)/\y=.int .i64 (c:Int)/\c<=a.length/\U (∀i,i<f->Lib.occAt (a.drop (b+2)) [42,47] i=false)/\A=wr) (λy _=>a.length-(intOf y).toNat)
       case atStart=>exact⟨0,b+2,rfl,rfl,by omega,(λi d=>by omega),rfl⟩
       case round=>
        obtain⟨f,c,l,rfl,b1,w,rfl⟩:=hrel;rcases Yj (c+1) a.length with E|E
        .have b5:(0:Int)<=(c:Int):=by omega
         have b6:(c:Int)<(a.length:Int):=by omega
         have b7:(0:Int)<=(c:Int)+1:=by omega
         have S:(c:Int)+1<(a.length:Int):=by omega
         have a0:¬((a.length:Int)<=(c:Int)+1):=by omega
         have a6:(⟨a.toArray⟩:ByteArray)[c]'(by simp[ByteArray.size];omega)=a[c]:=rfl;have a7:(⟨a.toArray⟩:ByteArray)[c+1]'(by simp[ByteArray.size];exact E)=a[c+1]:=rfl;have z:Lib.occAt (a.drop (b+2)) [42,47] f=(a[c]==42&&a[c+1]==47):=by
          have a3:=l.b;subst a3;rw[LW (by rw[na];omega)];simp only[List.getElem_drop];rfl
         have C:Lib.occAt (a.drop (b+2)) [42,47] f=false->U (∀i,i<f+1->Lib.occAt (a.drop (b+2)) [42,47] i=false):=by
          intro d i b4;rcases Yj i f with D|D
          .exact w.b i D
          .have:i=f:=by omega
           rw[this];exact d
         by_cases p:a[c]=42
         .have L:((a[c].toNat:Int) != 42)=false:=by rw[p];rfl
          by_cases q:a[c+1]=47
          .have M:((a[c+1].toNat:Int) != 47)=false:=by rw[q];rfl
           have t:Lib.index (a.drop (b+2)) [42,47]=f:=Gu (by have:=l.b;rw[na];omega) w.b (by rw[z,p,q];rfl);have F:=I.b (by rw[t,Y9 (by omega)];omega);rw[t,Y9 (by omega)]at F;have G:U (dU a k=dU a (c+2)):=by
            show _=_;rw[F.b];have:=l.b;congr 1;simp;omega
           go_wp2;refine⟨⟨c+2,by go_num,by omega,G,trivial⟩,by have:=l.b;simp[intOf];omega⟩
          .have M:((a[c+1].toNat:Int) != 47)=true:=by
            have:a[c+1].toNat≠47:=λe=>q (UInt8.toNat_inj.1 (by simpa using e));simp;omega
           have x:=C (by rw[z];simp[q]);go_wp2;exact⟨⟨f+1,c+1,(by have:=l.b;show _=_;omega),by go_num,by omega,x,trivial⟩,by simp[intOf];omega⟩
         .have L:((a[c].toNat:Int) != 42)=true:=by
           have:a[c].toNat≠42:=λe=>p (UInt8.toNat_inj.1 (by simpa using e));simp;omega
          have x:=C (by rw[z];simp[p]);go_wp2;exact⟨⟨f+1,c+1,(by have:=l.b;show _=_;omega),by go_num,by omega,x,trivial⟩,by simp[intOf];omega⟩
        .have S:¬((c:Int)+1<(a.length:Int)):=by omega
         have a0:(a.length:Int)<=(c:Int)+1:=by omega
         have t:Lib.index (a.drop (b+2)) [42,47] = -1:=Gw w.b (by have:=l.b;rw[na];omega);have j:=H.b (by rw[t];rfl);go_wp2;go_ret;exact⟨by rw[j.b];rfl,rfl⟩
      .have J:((a[b+1].toNat:Int) != 42)=true:=by
        have:a[b+1].toNat≠42:=λe=>r (UInt8.toNat_inj.1 (by simpa using e));simp;omega
       have j:=n (xd h (λ_ d=>r d.2));go_wp2;go_ret;exact⟨by rw[j.b];rfl,rfl⟩
     .have a2:(a.length:Int)<=(b:Int)+1:=by omega
      have j:=n (xd h (λa5=>by omega));go_wp2;go_ret;exact⟨by rw[j.b];rfl,rfl⟩
    .have K:((a[b].toNat:Int) != 47)=true:=by
      have:a[b].toNat≠47:=λe=>s (UInt8.toNat_inj.1 (by simpa using e));simp;omega
     have j:=n (xd h (λ_ d=>s d.1));go_wp2;go_ret;exact⟨by rw[j.b];rfl,rfl⟩
  .have j:U (dU a k=b):=v.b.trans (Ip P);have b0:¬((b:Int)<(a.length:Int)):=by omega
   go_wp2;go_ret;exact⟨by rw[j.b];rfl,rfl⟩
def pH(b:Option Nat):Int:=match b with
 |some a=>(a:Int)
 |none=>-1
def II(a:UInt8)(i:World) :
  Calls prog 213 #[.int .u8 a.toNat] i λj k=>j=.returned (.int .i64 (pH (Mar.cE a)))/\k=i:=by
 have l:=a.toNat_lt;go_in;by_cases c:48<=a.toNat/\a.toNat<=57
 .have b:U (pH (Mar.cE a)=(a.toNat:Int)-48):=by
   show _=_;unfold Mar.cE;rw[Y9 c];show ((a.toNat-48:Nat):Int)=_;omega
  have e:(48:Int)<=a.toNat:=by omega
  have f:(a.toNat:Int)<=57:=by omega
  have g:IntKind.u8.wrap ((a.toNat:Int)-48)=(a.toNat:Int)-48:=by rw[IntKind.wrap_u8];omega
  go_wp2;go_ret;exact⟨by rw[b.b];rfl,rfl⟩
 .by_cases d:97<=a.toNat/\a.toNat<=102
  .have b:U (pH (Mar.cE a)=(a.toNat:Int)-97+10):=by
    show _=_;unfold Mar.cE;rw[Y2 c,Y9 d];show ((a.toNat-87:Nat):Int)=_;omega
   have e:(97:Int)<=a.toNat:=by omega
   have f:(a.toNat:Int)<=102:=by omega
   have g:IntKind.u8.wrap ((a.toNat:Int)-97)=(a.toNat:Int)-97:=by rw[IntKind.wrap_u8];omega
   go_wp2;all_goals (first|(exfalso;omega)|(go_ret;exact⟨by rw[b.b];rfl,rfl⟩))
  .by_cases h:65<=a.toNat/\a.toNat<=70
   .have b:U (pH (Mar.cE a)=(a.toNat:Int)-65+10):=by
     show _=_;unfold Mar.cE;rw[Y2 c,Y2 d,Y9 h];show ((a.toNat-55:Nat):Int)=_;omega
    have e:(65:Int)<=a.toNat:=by omega
    have f:(a.toNat:Int)<=70:=by omega
    have g:IntKind.u8.wrap ((a.toNat:Int)-65)=(a.toNat:Int)-65:=by rw[IntKind.wrap_u8];omega
    go_wp2;all_goals (first|(exfalso;omega)|(go_ret;exact⟨by rw[b.b];rfl,rfl⟩))
   .have b:U (pH (Mar.cE a) = -1):=by
     show _=_;unfold Mar.cE;rw[Y2 c,Y2 d,Y2 h];rfl
    go_wp2;all_goals (first|(exfalso;omega)|(go_ret;exact⟨by rw[b.b];rfl,rfl⟩))
def EH(d:World)(b:Option Int)(c:Ending)(e:World):Prop:=e=d/\∃a,c=.returned (.tuple #[.int .i64 a,.bool b.isSome])/\∀v,b=some v->a=v
def IE{b:List UInt8}{a acc:Nat}(c:a<b.length):Mar.b2 acc (b.drop a)=match Mar.cE b[a]with|some d=>Mar.b2 (acc*16+d) (b.drop (a+1))|none=>none:=by
 rw[Yk c];rfl
def xh{b:List UInt8}{a acc:Nat}(c:a<b.length):ew acc (b.drop a)=if Mar.b9 b[a]then ew (acc*10+(b[a].toNat-48)) (b.drop (a+1))else none:=by
 rw[Yk c];rfl
def vv(a:List UInt8)(h:Bool)(J:a.length<=2000)(F:World) :
  Calls prog 140 #[.string ⟨a.toArray⟩,.bool h] F (EH F (cA a h)):=by
 go_in;match a,J with
 |[],J=>
  have e:U (cA [] h=none):=by show _=_;unfold cA;simp
  go_wp2;go_ret2;exact⟨rfl,0,by rw[e.b];rfl,λv d=>by rw[e.b]at d;cases d⟩
 |[g],J=>
  have s:¬([g]=[]\/10 < [g].length\/(1 < [g].length/\[g].getD 0 0=48)):=by simp
  have r:¬(2 < [g].length/\[g].getD 0 0=48/\[g].getD 1 0=120):=by simp
  have b1:([g].length:Int)=1:=rfl;generalize A:[g]=a at *
  have c4:¬((2:Int)<(a.length:Int)):=by omega
  have b4:((a.length:Int)==0)=false:=by rw[b1];rfl
  have c5:¬((10:Int)<(a.length:Int)):=by omega
  have c6:¬((1:Int)<(a.length:Int)):=by omega
  have q:U (cA a h=match ew 0 a with|none=>none|some o=>if h then (if o<=2147483648 then some (-(o:Int))else none)else (if o<=4294967295 then some (o:Int)else none)):=by
   show _=_;unfold cA;rw[Y2 r,Y2 s];cases ew 0 a<;>rfl
  have a8:a.length<=10:=by omega
  go_wp2_with fail;go_loopw [6,9] (λg n B=>∃b c:Nat,n=.int .i64 b/\g=.int .i64 c/\b<=a.length/\c<10 ^ b/\U (ew 0 a=ew c (a.drop b))/\B=F) (λ_ n _=>a.length-(intOf n).toNat)
  case atStart=>exact⟨0,0,rfl,rfl,by omega,by simp,rfl,rfl⟩
  case round=>
   obtain⟨b,c,rfl,rfl,a0,P,k,rfl⟩:=hrel;have a1:10 ^ b<=10 ^ 10:=Nat.pow_le_pow_right (by omega) (by omega);rcases Yj b a.length with m|S
   .have a2:(0:Int)<=(b:Int):=by omega
    have E:(b:Int)<(a.length:Int):=by omega
    have R:(⟨a.toArray⟩:ByteArray)[b]'(by simp[ByteArray.size];exact m)=a[b]:=rfl;have i:=Z (lY a[b]);have j:=xh (acc:=c) m;cases l:Mar.b9 a[b]with
    |false=>
     rw[l]at j i;have e:U (cA a h=none):=by show _=_;rw[q.b,k.b,j];rfl
     go_wp2_with fail;refine(i.b _).mono ?_;rintro p C ⟨rfl,rfl⟩;go_wp2;go_ret2;exact⟨rfl,0,by rw[e.b];rfl,λv d=>by rw[e.b]at d;cases d⟩
    |true=>
     rw[l]at j i;have a7:=(oo a[b]).1 l;have w:U (ew 0 a=ew (c*10+(a[b].toNat-48)) (a.drop (b+1))):=by show _=_;rw[k.b,j];rfl
     have a5:IntKind.u8.wrap ((a[b].toNat:Int)-48)=(a[b].toNat:Int)-48:=by rw[IntKind.wrap_u8];omega
     have M:IntKind.i64.wrap (10*(c:Int))=10*(c:Int):=by rw[IntKind.wrap_i64];omega
     have N:IntKind.i64.wrap (10*(c:Int)+((a[b].toNat:Int)-48))=((c*10+(a[b].toNat-48):Nat):Int):=by rw[IntKind.wrap_i64];omega
     have y:c*10+(a[b].toNat-48)<10 ^ (b+1):=by rw[Nat.pow_succ];omega
     go_wp2_with fail;refine(i.b _).mono ?_;rintro p C ⟨rfl,rfl⟩;go_wp2;exact⟨⟨b+1,c*10+(a[b].toNat-48),by go_num,by congr 1<;>omega,m,y,w,trivial⟩,by simp[intOf];omega⟩
   .have z:b=a.length:=by omega
    subst z;have t:U (ew 0 a=some c):=by show _=_;rw[k.b,List.drop_length];rfl
    have E:¬((a.length:Int)<(a.length:Int)):=by omega
    cases h with
    |true=>
     have e:U (cA a true=if c<=2147483648 then some (-(c:Int))else none):=by show _=_;rw[q.b,t.b];rfl
     go_wp2;go_ret2;by_cases f:c<=2147483648
     .refine⟨rfl,-(c:Int),?_,λv d=>?_⟩
      .rw[e.b,Y9 f];simp;omega
      .rw[e.b,Y9 f]at d;injection d
     .refine⟨rfl,-(c:Int),?_,λv d=>?_⟩
      .rw[e.b,Y2 f];simp;omega
      .rw[e.b,Y2 f]at d;cases d
    |false=>
     have e:U (cA a false=if c<=4294967295 then some (c:Int)else none):=by show _=_;rw[q.b,t.b];rfl
     go_wp2;go_ret2;by_cases f:c<=4294967295
     .refine⟨rfl,(c:Int),?_,λv d=>?_⟩
      .rw[e.b,Y9 f];simp;omega
      .rw[e.b,Y9 f]at d;injection d
     .refine⟨rfl,(c:Int),?_,λv d=>?_⟩
      .rw[e.b,Y2 f];simp;omega
      .rw[e.b,Y2 f]at d;cases d
 |g::x::b6,J=>
  generalize A:g::x::b6=a at *
  have b9:2<=a.length:=by rw[<-A];simp
  have a2:(0:Int)<(a.length:Int):=by omega
  have E:(1:Int)<(a.length:Int):=by omega
  have c0:(⟨a.toArray⟩:ByteArray)[0]'(by simp[ByteArray.size];omega)=g:=by subst A;rfl
  have c1:(⟨a.toArray⟩:ByteArray)[1]'(by simp[ByteArray.size];omega)=x:=by subst A;rfl
  have H:a.getD 0 0=g:=by subst A;rfl
  have a6:a.getD 1 0=x:=by subst A;rfl
  have b4:((a.length:Int)==0)=false:=by rw[Yi];omega
  have b2:a≠[]:=by subst A;simp
  by_cases D:g=48
  .have a9:((g.toNat:Int)==48)=true:=by rw[D];rfl
   have s:a=[]\/10<a.length\/(1<a.length/\a.getD 0 0=48):=Ya (Ya ⟨by omega,H.trans D⟩);by_cases O:2<a.length
   .have K:(2:Int)<(a.length:Int):=by omega
    by_cases I:x=120
    .have b0:((x.toNat:Int)==120)=true:=by rw[I];rfl
     have r:2<a.length/\a.getD 0 0=48/\a.getD 1 0=120:=⟨O,H.trans D,a6.trans I⟩;have L:U (cA a h=if h=true\/10<a.length then none else (Mar.b2 0 (a.drop 2)).map Int.ofNat):=by show _=_;unfold cA;rw[Y9 r]
     cases h with
     |true=>
      have e:U (cA a true=none):=by show _=_;rw[L.b,Y9 (Y8 rfl)]
      go_wp2;go_ret2;exact⟨rfl,0,by rw[e.b];rfl,λv d=>by rw[e.b]at d;cases d⟩
     |false=>
      by_cases G:10<a.length
      .have e:U (cA a false=none):=by show _=_;rw[L.b,Y9 (Ya G)]
       have a3:(10:Int)<(a.length:Int):=by omega
       go_wp2;go_ret2;exact⟨rfl,0,by rw[e.b];rfl,λv d=>by rw[e.b]at d;cases d⟩
      .have a4:U (cA a false=(Mar.b2 0 (a.drop 2)).map Int.ofNat):=by show _=_;rw[L.b,Y2 (by rintro(d|d);cases d;exact G d)]
       have a3:¬((10:Int)<(a.length:Int)):=by omega
       go_wp2_with fail;go_loopw [6,7] (λb7 n B=>∃b c:Nat,n=.int .i64 b/\b7=.int .i64 c/\2<=b/\b<=a.length/\c<16 ^ (b-2)/\U (Mar.b2 0 (a.drop 2)=Mar.b2 c (a.drop b))/\B=F) (λ_ n _=>a.length-(intOf n).toNat)
       case atStart=>exact⟨2,0,rfl,rfl,by omega,by omega,by simp,rfl,rfl⟩
       case round=>
        obtain⟨b,c,rfl,rfl,c3,a0,P,k,rfl⟩:=hrel;have a1:16 ^ (b-2)<=16 ^ 8:=Nat.pow_le_pow_right (by omega) (by omega);rcases Yj b a.length with m|S
        .have c7:(0:Int)<=(b:Int):=by omega
         have b5:(b:Int)<(a.length:Int):=by omega
         have R:(⟨a.toArray⟩:ByteArray)[b]'(by simp[ByteArray.size];exact m)=a[b]:=rfl;have i:=Z (II a[b]);have j:=IE (acc:=c) m;cases l:Mar.cE a[b]with
         |none=>
          rw[l]at j i;have e:U (cA a false=none):=by show _=_;rw[a4.b,k.b,j];rfl
          go_wp2_with fail;refine(i.b _).mono ?_;rintro p C ⟨rfl,rfl⟩;have b3:pH none = -1:=rfl;go_wp2;go_ret2;exact⟨rfl,0,by rw[e.b];rfl,λv d=>by rw[e.b]at d;cases d⟩
         |some u=>
          rw[l]at j i;have c2:=Mar.j7 l;have w:U (Mar.b2 0 (a.drop 2)=Mar.b2 (c*16+u) (a.drop (b+1))):=by show _=_;rw[k.b,j]
          have M:IntKind.i64.wrap (16*(c:Int))=16*(c:Int):=by rw[IntKind.wrap_i64];omega
          have N:IntKind.i64.wrap (16*(c:Int)+(u:Int))=((c*16+u:Nat):Int):=by rw[IntKind.wrap_i64];omega
          have y:c*16+u<16 ^ (b+1-2):=by
           have p:b+1-2=(b-2)+1:=by omega
           rw[p,Nat.pow_succ];omega
          have b8:¬((u:Int)<0):=by omega
          go_wp2_with fail;refine(i.b _).mono ?_;rintro p C ⟨rfl,rfl⟩;have b3:pH (some u)=(u:Int):=rfl;go_wp2;exact⟨⟨b+1,c*16+u,by go_num,by congr 1<;>omega,by omega,m,y,w,trivial⟩,by simp[intOf];omega⟩
        .have z:b=a.length:=by omega
         subst z;have e:U (cA a false=some (c:Int)):=by show _=_;rw[a4.b,k.b,List.drop_length];rfl
         have b5:¬((a.length:Int)<(a.length:Int)):=by omega
         go_wp2;go_ret2;exact⟨rfl,(c:Int),by rw[e.b];rfl,λv d=>by rw[e.b]at d;injection d⟩
    .have b0:((x.toNat:Int)==120)=false:=by
      have:x.toNat≠120:=λp=>I (UInt8.toNat_inj.1 (by simpa using p));rw[Yi];omega
     have r:¬(2<a.length/\a.getD 0 0=48/\a.getD 1 0=120):=λd=>I (a6.symm.trans d.2.2);have e:U (cA a h=none):=by show _=_;unfold cA;rw[Y2 r,Y9 s]
     go_wp2;all_goals (go_ret2;exact⟨rfl,0,by rw[e.b];rfl,λv d=>by rw[e.b]at d;cases d⟩)
   .have K:¬((2:Int)<(a.length:Int)):=by omega
    have r:¬(2<a.length/\a.getD 0 0=48/\a.getD 1 0=120):=λd=>O d.1;have e:U (cA a h=none):=by show _=_;unfold cA;rw[Y2 r,Y9 s]
    go_wp2;all_goals (go_ret2;exact⟨rfl,0,by rw[e.b];rfl,λv d=>by rw[e.b]at d;cases d⟩)
  .have a9:((g.toNat:Int)==48)=false:=by
    have:g.toNat≠48:=λp=>D (UInt8.toNat_inj.1 (by simpa using p));rw[Yi];omega
   have r:¬(2<a.length/\a.getD 0 0=48/\a.getD 1 0=120):=λd=>D (H.symm.trans d.2.1);by_cases G:10<a.length
   .have a3:(10:Int)<(a.length:Int):=by omega
    have K:(2:Int)<(a.length:Int):=by omega
    have s:a=[]\/10<a.length\/(1<a.length/\a.getD 0 0=48):=Ya (Y8 G);have e:U (cA a h=none):=by show _=_;unfold cA;rw[Y2 r,Y9 s]
    go_wp2;all_goals (go_ret2;exact⟨rfl,0,by rw[e.b];rfl,λv d=>by rw[e.b]at d;cases d⟩)
   .have a3:¬((10:Int)<(a.length:Int)):=by omega
    have s:¬(a=[]\/10<a.length\/(1<a.length/\a.getD 0 0=48)):=by
     rintro(d|d|d)
     .exact b2 d
     .exact G d
     .exact D (H.symm.trans d.2)
    by_cases O:2<a.length
    .have K:(2:Int)<(a.length:Int):=by omega
     have q:U (cA a h=match ew 0 a with|none=>none|some o=>if h then (if o<=2147483648 then some (-(o:Int))else none)else (if o<=4294967295 then some (o:Int)else none)):=by
      show _=_;unfold cA;rw[Y2 r,Y2 s];cases ew 0 a<;>rfl
     have a8:a.length<=10:=by omega
     go_wp2_with fail;go_loopw [6,9] (λg n B=>∃b c:Nat,n=.int .i64 b/\g=.int .i64 c/\b<=a.length/\c<10 ^ b/\U (ew 0 a=ew c (a.drop b))/\B=F) (λ_ n _=>a.length-(intOf n).toNat)
     case atStart=>exact⟨0,0,rfl,rfl,by omega,by simp,rfl,rfl⟩
     case round=>
      obtain⟨b,c,rfl,rfl,a0,P,k,rfl⟩:=hrel;have a1:10 ^ b<=10 ^ 10:=Nat.pow_le_pow_right (by omega) (by omega);rcases Yj b a.length with m|S
      .have a2:(0:Int)<=(b:Int):=by omega
       have E:(b:Int)<(a.length:Int):=by omega
       have R:(⟨a.toArray⟩:ByteArray)[b]'(by simp[ByteArray.size];exact m)=a[b]:=rfl;have i:=Z (lY a[b]);have j:=xh (acc:=c) m;cases l:Mar.b9 a[b]with
       |false=>
        rw[l]at j i;have e:U (cA a h=none):=by show _=_;rw[q.b,k.b,j];rfl
        go_wp2_with fail;refine(i.b _).mono ?_;rintro p C ⟨rfl,rfl⟩;go_wp2;go_ret2;exact⟨rfl,0,by rw[e.b];rfl,λv d=>by rw[e.b]at d;cases d⟩
       |true=>
        rw[l]at j i;have a7:=(oo a[b]).1 l;have w:U (ew 0 a=ew (c*10+(a[b].toNat-48)) (a.drop (b+1))):=by show _=_;rw[k.b,j];rfl
        have a5:IntKind.u8.wrap ((a[b].toNat:Int)-48)=(a[b].toNat:Int)-48:=by rw[IntKind.wrap_u8];omega
        have M:IntKind.i64.wrap (10*(c:Int))=10*(c:Int):=by rw[IntKind.wrap_i64];omega
        have N:IntKind.i64.wrap (10*(c:Int)+((a[b].toNat:Int)-48))=((c*10+(a[b].toNat-48):Nat):Int):=by rw[IntKind.wrap_i64];omega
        have y:c*10+(a[b].toNat-48)<10 ^ (b+1):=by rw[Nat.pow_succ];omega
        go_wp2_with fail;refine(i.b _).mono ?_;rintro p C ⟨rfl,rfl⟩;go_wp2;exact⟨⟨b+1,c*10+(a[b].toNat-48),by go_num,by congr 1<;>omega,m,y,w,trivial⟩,by simp[intOf];omega⟩
      .have z:b=a.length:=by omega
       subst z;have t:U (ew 0 a=some c):=by show _=_;rw[k.b,List.drop_length];rfl
       have E:¬((a.length:Int)<(a.length:Int)):=by omega
       cases h with
       |true=>
        have e:U (cA a true=if c<=2147483648 then some (-(c:Int))else none):=by show _=_;rw[q.b,t.b];rfl
        go_wp2;go_ret2;by_cases f:c<=2147483648
        .refine⟨rfl,-(c:Int),?_,λv d=>?_⟩
         .rw[e.b,Y9 f];simp;omega
         .rw[e.b,Y9 f]at d;injection d
        .refine⟨rfl,-(c:Int),?_,λv d=>?_⟩
         .rw[e.b,Y2 f];simp;omega
         .rw[e.b,Y2 f]at d;cases d
       |false=>
        have e:U (cA a false=if c<=4294967295 then some (c:Int)else none):=by show _=_;rw[q.b,t.b];rfl
        go_wp2;go_ret2;by_cases f:c<=4294967295
        .refine⟨rfl,(c:Int),?_,λv d=>?_⟩
         .rw[e.b,Y9 f];simp;omega
         .rw[e.b,Y9 f]at d;injection d
        .refine⟨rfl,(c:Int),?_,λv d=>?_⟩
         .rw[e.b,Y2 f];simp;omega
         .rw[e.b,Y2 f]at d;cases d
    .have K:¬((2:Int)<(a.length:Int)):=by omega
     have q:U (cA a h=match ew 0 a with|none=>none|some o=>if h then (if o<=2147483648 then some (-(o:Int))else none)else (if o<=4294967295 then some (o:Int)else none)):=by
      show _=_;unfold cA;rw[Y2 r,Y2 s];cases ew 0 a<;>rfl
     have a8:a.length<=10:=by omega
     go_wp2_with fail;go_loopw [6,9] (λg n B=>∃b c:Nat,n=.int .i64 b/\g=.int .i64 c/\b<=a.length/\c<10 ^ b/\U (ew 0 a=ew c (a.drop b))/\B=F) (λ_ n _=>a.length-(intOf n).toNat)
     case atStart=>exact⟨0,0,rfl,rfl,by omega,by simp,rfl,rfl⟩
     case round=>
      obtain⟨b,c,rfl,rfl,a0,P,k,rfl⟩:=hrel;have a1:10 ^ b<=10 ^ 10:=Nat.pow_le_pow_right (by omega) (by omega);rcases Yj b a.length with m|S
      .have a2:(0:Int)<=(b:Int):=by omega
       have E:(b:Int)<(a.length:Int):=by omega
       have R:(⟨a.toArray⟩:ByteArray)[b]'(by simp[ByteArray.size];exact m)=a[b]:=rfl;have i:=Z (lY a[b]);have j:=xh (acc:=c) m;cases l:Mar.b9 a[b]with
       |false=>
        rw[l]at j i;have e:U (cA a h=none):=by show _=_;rw[q.b,k.b,j];rfl
        go_wp2_with fail;refine(i.b _).mono ?_;rintro p C ⟨rfl,rfl⟩;go_wp2;go_ret2;exact⟨rfl,0,by rw[e.b];rfl,λv d=>by rw[e.b]at d;cases d⟩
       |true=>
        rw[l]at j i;have a7:=(oo a[b]).1 l;have w:U (ew 0 a=ew (c*10+(a[b].toNat-48)) (a.drop (b+1))):=by show _=_;rw[k.b,j];rfl
        have a5:IntKind.u8.wrap ((a[b].toNat:Int)-48)=(a[b].toNat:Int)-48:=by rw[IntKind.wrap_u8];omega
        have M:IntKind.i64.wrap (10*(c:Int))=10*(c:Int):=by rw[IntKind.wrap_i64];omega
        have N:IntKind.i64.wrap (10*(c:Int)+((a[b].toNat:Int)-48))=((c*10+(a[b].toNat-48):Nat):Int):=by rw[IntKind.wrap_i64];omega
        have y:c*10+(a[b].toNat-48)<10 ^ (b+1):=by rw[Nat.pow_succ];omega
        go_wp2_with fail;refine(i.b _).mono ?_;rintro p C ⟨rfl,rfl⟩;go_wp2;exact⟨⟨b+1,c*10+(a[b].toNat-48),by go_num,by congr 1<;>omega,m,y,w,trivial⟩,by simp[intOf];omega⟩
      .have z:b=a.length:=by omega
       subst z;have t:U (ew 0 a=some c):=by show _=_;rw[k.b,List.drop_length];rfl
       have E:¬((a.length:Int)<(a.length:Int)):=by omega
       cases h with
       |true=>
        have e:U (cA a true=if c<=2147483648 then some (-(c:Int))else none):=by show _=_;rw[q.b,t.b];rfl
        go_wp2;go_ret2;by_cases f:c<=2147483648
        .refine⟨rfl,-(c:Int),?_,λv d=>?_⟩
         .rw[e.b,Y9 f];simp;omega
         .rw[e.b,Y9 f]at d;injection d
        .refine⟨rfl,-(c:Int),?_,λv d=>?_⟩
         .rw[e.b,Y2 f];simp;omega
         .rw[e.b,Y2 f]at d;cases d
       |false=>
        have e:U (cA a false=if c<=4294967295 then some (c:Int)else none):=by show _=_;rw[q.b,t.b];rfl
        go_wp2;go_ret2;by_cases f:c<=4294967295
        .refine⟨rfl,(c:Int),?_,λv d=>?_⟩
         .rw[e.b,Y9 f];simp;omega
         .rw[e.b,Y9 f]at d;injection d
        .refine⟨rfl,(c:Int),?_,λv d=>?_⟩
         .rw[e.b,Y2 f];simp;omega
         .rw[e.b,Y2 f]at d;cases d
def fe(e:World)(d b:Int)(c:Ending)(f:World):Prop:=
 ∃a,e.heap.size<=a/\c=.panicked [{ v:=.iface 143 (.pointer (some ⟨a,0,none⟩)),recovered:=false }]/\
  f.heap[a]? = some (.cells #[.int .i64 d,.int .i64 b] 179)
def Fp(a:World)(c b:Int):fe a c b (.panicked [{ v:=.iface 143 (.pointer (some ⟨a.heap.size,0,none⟩)),recovered:=false }]) (a.alloc (.cells #[.int .i64 c,.int .i64 b] 179)):=
 ⟨_,Y4 _,rfl,by show (a.heap.push _)[a.heap.size]? = _;simp⟩
def aJ{w:World}{o:Obj}{a:Nat}(b:a=w.heap.size):(w.alloc o).heap[a]? = some o:=by
 subst b;show (w.heap.push _)[w.heap.size]? = _;simp
def aq{d:Program}{e:Func}{a:Ending->World->Prop}{g:Array Value}{c:World}{b:List PanicEntry}
  (f:a (.panicked b) c):bodyPost d e a (.panic b) { tmps:=g,defers:=[] } c:=⟨rfl,f⟩
def gL(c b:Int)(a:World) :
  Calls prog 70 #[.int .i64 c,.int .i64 b] a λd e=>
   d=.returned (.pointer (some ⟨a.heap.size,0,none⟩))/\e=a.alloc (.cells #[.int .i64 c,.int .i64 b] 179):=by
 go_in;go_wp2;go_ret;exact⟨rfl,rfl⟩
def qg(e nh c:Int)(a:World)(f:nh<=e) :
  Calls prog 201 #[.int .i64 e,.int .i64 nh,.int .i64 c] a λd b=>fe a 5 c d b/\Below a.heap.size a b:=by
 go_in;go_wp2_with (go_at_call 70;refine(gL _ _ _).mono ?_;rintro d b ⟨rfl,rfl⟩);exact aq ⟨Fp _ _ _,(Below.refl _ _).alloc (Y4 _) _⟩
def qh(a nh c:Int)(b:World)(f:¬nh<=a) :
  Calls prog 201 #[.int .i64 a,.int .i64 nh,.int .i64 c] b λd e=>d=.returned (.tuple #[])/\e=b:=by
 go_in;go_wp2;go_end0;exact⟨rfl,rfl⟩
abbrev cq(a:Mar.am):Value:=.agg #[.int .i64 a.f,.string ⟨a.text.toArray⟩,.int .i64 a.n,.int .i64 a.m]
def qI(d:World)(c:Except Mar.M Mar.am)(a:Ending)(e:World):Prop:=
 match c with
 |.ok f=>a=.returned (cq f)
 |.error b=>fe d b.no b.m a e
def wf(a:ByteArray):(⟨a.data.toList.toArray⟩:ByteArray)=a:=by
 obtain⟨⟨b⟩⟩:=a;rfl
def mE{c:World}{a:Mar.am}{v:Value}{d:World}(b:v=cq a):qI c (.ok a) (.returned v) d:=by
 show Ending.returned v=_;rw[b]
def Lv(a:ByteArray)(b:Nat)(c:World)(j:a.size<=281474976710656) :
  Calls prog 238 #[.string a,.int .i64 b] c λf d=>qI c (Mar.c0 a.data.toList b) f d/\Below c.heap.size c d:=by
 have e:U (a.size=a.data.toList.length):=by simp[U]
 by_cases i:16<a.size
 .go_in;go_wp2_with (go_at_call 70;refine(gL _ _ _).mono ?_;rintro f d ⟨rfl,rfl⟩);refine aq ⟨?_,((Below.refl _ _).alloc (Y4 _) _).alloc (by simp) _⟩;have:Mar.c0 a.data.toList b=.error ⟨7,b⟩:=by rw[Mar.c0,Y9 (by rw[<-e.b];exact i)]
  rw[this];exact⟨_,by omega,rfl,aJ (by simp)⟩
 .go_in;go_wp2_with (go_at_call 263;refine(Jd _ _).mono ?_;rintro f d ⟨rfl,rfl⟩)
  .have h:Mar.db a.data.toList=true:=‹_›;have g:Mar.c0 a.data.toList b=.ok ⟨2,a.data.toList,0,b⟩:=by rw[Mar.c0,Y2 (by rw[<-e.b];exact i),Y9 h]
   refine bodyPost_ret (v:=.agg #[.int .i64 2,.string a,.int .i64 0,.int .i64 b]) (by simp[results,results238,go_sem]) rfl ⟨?_,(Below.refl _ _).alloc (Y4 _) _⟩;rw[g];exact mE (by simp only[cq,wf];rfl)
  .have h:Mar.db a.data.toList=false:=‹_›;have g:Mar.c0 a.data.toList b=.ok ⟨1,a.data.toList,0,b⟩:=by rw[Mar.c0,Y2 (by rw[<-e.b];exact i),Y2 (by simp[h])]
   refine bodyPost_ret (v:=.agg #[.int .i64 1,.string a,.int .i64 0,.int .i64 b]) (by simp[results,results238,go_sem]) rfl ⟨?_,(Below.refl _ _).alloc (Y4 _) _⟩;rw[g];exact mE (by simp only[cq,wf];rfl)
section
variable {d e:Nat}{a:List UInt8}{b c:World}
structure Gl(b:World):Prop where
 ak:∃m,b.cell? ⟨2,0,none⟩=some (.int .i64 m)
 p1:∃te pe,b.cell? ⟨3,0,none⟩=some (.iface te pe)
 po:∃te pe,b.cell? ⟨4,0,none⟩=some (.iface te pe)
def li{v:Value}(a:b.cell? ⟨d,e,none⟩=some v):d<b.heap.size:=by
 unfold World.cell? at a;by_cases c:d<b.heap.size
 .exact c
 .simp[YO (Nat.le_of_not_lt c)]at a
def qY{a:Nat}{v:Value}(h:Below a b c)(g:a=b.heap.size)(f:b.cell? ⟨d,e,none⟩=some v):c.cell? ⟨d,e,none⟩=some v:=by
 rw[h.cell (p:=⟨d,e,none⟩) (by rw[g];exact li f)];exact f
def Gl.t(h:Gl b)(a:Below b.heap.size b c):Gl c:=by
 obtain⟨⟨l,i⟩,⟨e,d,j⟩,⟨f,g,k⟩⟩:=h;exact⟨⟨l,qY a rfl i⟩,⟨e,d,qY a rfl j⟩,⟨f,g,qY a rfl k⟩⟩
def EY(a:ByteArray)(b:World)(l:Gl b)(g:a.size<=281474976710656) :
  Calls prog 275 #[.string a,.int .i64 10,.int .i64 64] b λd c=>
   Below b.heap.size b c/\((∃v,Lib.parseIntB 64 a.data.toList=.ok v/\d=.returned (.tuple #[.int .i64 v,.nilIface]))\/
    ((∀v,Lib.parseIntB 64 a.data.toList≠.ok v)/\∃(v:Int) (h:TypeId) (n:Value),d=.returned (.tuple #[.int .i64 v,.iface h n]))):=by
 obtain⟨_,⟨q,o,j⟩,⟨r,p,k⟩⟩:=l;cases e:Lib.parseIntB 64 a.data.toList with
 |ok v=>
  refine(Tryz.strconv_ParseInt_10_at64_ok a (by omega) v e b).mono ?_;rintro d c ⟨rfl,m⟩;refine⟨?_,Y8 ⟨v,rfl,rfl⟩⟩;rcases m with rfl|⟨h,rfl⟩
  .exact Below.refl _ _
  .exact Lib.bytesWorld_below _ _ _
 |«syntax»=>
  refine(Tryz.strconv_ParseInt_10_at64_syntax a g e _ b j (Ya ⟨_,_,rfl⟩)).mono ?_;rintro d c ⟨i,rfl,_,_,f⟩;exact⟨f,Ya ⟨by simp,_,_,_,rfl⟩⟩
 |range=>
  refine(Tryz.strconv_ParseInt_10_at64_range a g e _ b k (Ya ⟨_,_,rfl⟩)).mono ?_;rintro d c ⟨i,rfl,_,_,f⟩;exact⟨f,Ya ⟨by simp,_,_,_,rfl⟩⟩
def AU(a:List UInt8)(b:0<(⟨a.toArray⟩:ByteArray).size):(⟨a.toArray⟩:ByteArray)[0]'b=a.getD 0 0:=by
 cases a with
 |nil=>exact absurd b (by decide)
 |cons c d=>rfl
def LK(d:1<(a.length:Int))(c:0<(⟨a.toArray⟩:ByteArray).size)(b:((((⟨a.toArray⟩:ByteArray)[0]'c).toNat:Int)==48)=true):Mar.e3 a=true:=by
 rw[AU]at b;have:(a.getD 0 0)=48:=by
  have:=beq_iff_eq.1 b;apply UInt8.toNat_inj.1;simp at this ⊢;omega
 unfold Mar.e3;rw[this];simp;omega
def ye(e:1<(a.length:Int))(d:0<(⟨a.toArray⟩:ByteArray).size)(b:((((⟨a.toArray⟩:ByteArray)[0]'d).toNat:Int)==48)=false):Mar.e3 a=false:=by
 rw[AU]at b;have:(a.getD 0 0==48)=false:=by
  rw[Yi]at b ⊢;intro c;rw[c]at b;exact b rfl
 unfold Mar.e3;rw[this];simp
def yf(b:(a.length:Int)<=1):Mar.e3 a=false:=by
 unfold Mar.e3;rw[decide_eq_false (by omega)];rfl
def GK(b:Mar.e3 (Lib.trimPrefix a [45])=true):Mar.d7 a=none:=by rw[Mar.d7,Y9 b]
def uB{v:Int}(b:Mar.e3 (Lib.trimPrefix a [45])=false)(c:Lib.parseIntB 64 a=.ok v) :
  Mar.d7 a=if -2147483648<=v/\v<=4294967295 then some v else none:=by rw[Mar.d7,Y2 (by simp[b]),c]
def Ak(c:Mar.e3 (Lib.trimPrefix a [45])=false)(d:∀v,Lib.parseIntB 64 a≠.ok v):Mar.d7 a=none:=by
 rw[Mar.d7,Y2 (by simp[c])];cases b:Lib.parseIntB 64 a with
 |ok v=>exact absurd b (d v)
 |«syntax»=>rfl
 |range=>rfl
def uA{v:Int}{d:Bool}(b:Mar.d7 a=if -2147483648<=v/\v<=4294967295 then some v else none)
  (h:d=decide (-2147483648<=v/\v<=4294967295)) :
  ∃g:Int,Ending.returned (.tuple #[.int .i64 v,.bool d])=.returned (.tuple #[.int .i64 g,.bool (Mar.d7 a).isSome])/\∀e,Mar.d7 a=some e->g=e:=by
 subst h;by_cases c:-2147483648<=v/\v<=4294967295
 .rw[Y9 c]at b;refine⟨v,by rw[b,decide_eq_true c];rfl,?_⟩;rw[b];intro e f;exact YQ f
 .rw[Y2 c]at b;refine⟨v,by rw[b,decide_eq_false c];rfl,?_⟩;rw[b];intro e f;cases f
def GL(g:ByteArray)(b:World)(k:Gl b)(l:g.size<=281474976710656) :
  Calls prog 265 #[.string g] b λh c=>
   (∃i:Int,h=.returned (.tuple #[.int .i64 i,.bool (Mar.d7 g.data.toList).isSome])/\∀v,Mar.d7 g.data.toList=some v->i=v)/\Below b.heap.size b c:=by
 have j:=Z (EY g b k l);go_in;go_wp2_with (first
  |(go_at_call 274;refine(Tryz.strings_TrimPrefix _ _ _).mono ?_;rintro h c ⟨rfl,rfl⟩)
  |(go_at_call 275;refine j.b.mono ?_;rintro h c ⟨f,⟨v,e,rfl⟩|⟨e,v,n,m,rfl⟩⟩))
 .go_ret2;have a:=GK (LK ‹_› _ ‹_›);refine⟨⟨0,?_,?_⟩,Below.refl _ _⟩
  .rw[a];rfl
  .rw[a];intro v d;cases d
 .go_ret2;have a:=uB (ye ‹_› _ ‹_›) e;exact⟨uA a (by rename_i d;simp[d]),f⟩
 .go_ret2;have a:=uB (ye ‹_› _ ‹_›) e;exact⟨uA a (by simp;omega),f⟩
 .go_ret2;have a:=Ak (ye ‹_› _ ‹_›) e;refine⟨⟨v,?_,?_⟩,f⟩
  .rw[a];rfl
  .rw[a];intro v d;cases d
 .go_ret2;have a:=uB (yf ‹_›) e;exact⟨uA a (by rename_i d;simp[d]),f⟩
 .go_ret2;have a:=uB (yf ‹_›) e;exact⟨uA a (by simp;omega),f⟩
 .go_ret2;have a:=Ak (yf ‹_›) e;refine⟨⟨v,?_,?_⟩,f⟩
  .rw[a];rfl
  .rw[a];intro v d;cases d
end
def xz:Option Nat->Value
 |some v=>.tuple #[.int .u64 v,.nilIface]
 |none=>.tuple #[.int .u64 0,.iface 467 (.int .i64 2)]
def MA:∀a:Nat,a<8->16 ^ (a+1)<=4294967296
 |0,_|1,_|2,_|3,_|4,_|5,_|6,_|7,_=>by decide
 |a+8,b=>by omega
def JX(b:UInt8) :
  (∀e,Mar.cE b=some e->¬(48<=b.toNat/\b.toNat<=57)->97<=bits .or .u8 (b.toNat:Int) 32/\bits .or .u8 (b.toNat:Int) 32<=102/\bits .or .u8 (b.toNat:Int) 32=(e:Int)+87)/\
  (Mar.cE b=none->¬(48<=b.toNat/\b.toNat<=57)->bits .or .u8 (b.toNat:Int) 32<97\/102<bits .or .u8 (b.toNat:Int) 32):=by
 have key:∀a:Fin 256,bits .or .u8 ((a.val:Nat):Int) 32=((a.val ||| 32:Nat):Int):=by decide +kernel
 have l:∀a:Fin 256,¬(48<=a.val/\a.val<=57)->(97<=a.val/\a.val<=102->(a.val ||| 32)=a.val)/\(65<=a.val/\a.val<=70->(a.val ||| 32)=a.val+32)/\
  (¬(97<=a.val/\a.val<=102)->¬(65<=a.val/\a.val<=70)->(a.val ||| 32)<97\/102<(a.val ||| 32)):=by decide +kernel
 have g:=b.toNat_lt;have k:=key ⟨b.toNat,g⟩;simp only at k;rw[k];refine⟨?_,?_⟩
 .intro e c d;obtain⟨h,i,_⟩:=l ⟨b.toNat,g⟩ d;simp only at h i;unfold Mar.cE at c;rw[Y2 d]at c;split at c
  .rename_i f;have:=h f;simp at c;omega
  .split at c
   .rename_i f;have:=i f;simp at c;omega
   .cases c
 .intro c d;obtain⟨_,_,j⟩:=l ⟨b.toNat,g⟩ d;simp only at j;unfold Mar.cE at c;rw[Y2 d]at c;split at c
  .cases c
  .split at c
   .cases c
   .rename_i m n;have:=j m n;omega
def EZ(d:ByteArray)(a1:d.size≠0)(b6:d.size<=8)(i:World) :
  Calls prog 278 #[.string d,.int .i64 16,.int .i64 32] i λo A=>o=.returned (xz (Mar.b2 0 d.data.toList))/\A=Lib.bytesWorld i 5 d:=by
 have b4:d.toList.isEmpty=false:=by
  rw[<-decide_eq_emptyBytes];exact decide_eq_false (λK=>a1 (by rw[K];rfl))
 have L:=Lib.run_convert_string_bytes (P:=prog) i 9 97 5 d (u:=.string) (by kernel_rfl) (by kernel_rfl) (by kernel_rfl);have p:∀n,n<d.size->(Lib.bytesWorld i 5 d).cell? ⟨i.heap.size,n,none⟩=some (.int .u8 (d.data.toList.getD n 0).toNat):=λn O=>Lib.bytesWorld_cell i 5 d n O;obtain⟨W1,C⟩:∃W1,W1=Lib.bytesWorld i 5 d:=⟨_,rfl⟩;rw[<-C]at L p ⊢;clear C;obtain⟨c,x⟩:∃c,c=d.data.toList:=⟨_,rfl⟩;have b1:c.length=d.size:=by rw[x,Lib.size_eq]
 rw[<-x]at p ⊢;clear x;go_in;go_wp2;go_loop [12,13,101] (λa6 a5 z=>∃(a e:Nat) (g:Int),a6=.bool false/\a5=.int .u64 g/\z=.int .i64 a/\a<=d.size/\U (g=(e:Int)/\e<16 ^ a/\Mar.b2 0 c=Mar.b2 e (c.drop a)))
  (λ_ _ z=>d.size-(intOf z).toNat)
 case atStart=>exact⟨0,0,0,rfl,rfl,rfl,by omega,rfl,by omega,rfl⟩
 case round=>
  obtain⟨a,e,g,rfl,rfl,rfl,b5,G⟩:=hrel;obtain⟨q,r,f⟩:=G.b;clear G;by_cases S:a<d.size
  .have H:16 ^ (a+1)<=4294967296:=MA a (by omega);have I:16 ^ (a+1)=16 ^ a*16:=rfl;have a8:0<=g:=by omega
   have a9:g*16+15<4294967296:=by omega
   have B:=Z (Yp H I);clear H I;have D:=p a S;have E:c.drop a=c[a]'(by omega)::c.drop (a+1):=Yk (by omega);have F:c.getD a 0=c[a]'(by omega):=by simp[List.getD,Yd (show a<c.length by omega)]
   rw[E]at f;rw[F]at D;generalize c[a]'(by omega)=b at D f;have b2:b.toNat<256:=b.toNat_lt;clear p E F;by_cases l:48<=b.toNat/\b.toNat<=57
   .obtain⟨M,N⟩:=l;have hF:Mar.b2 e (b::c.drop (a+1))=Mar.b2 (e*16+(b.toNat-48)) (c.drop (a+1)):=by simp[Mar.b2,Mar.cE,M,N]
    have w:U (g*16+((b.toNat:Int)-48)=((e*16+(b.toNat-48):Nat):Int)/\e*16+(b.toNat-48)<16 ^ (a+1)/\Mar.b2 0 c=Mar.b2 (e*16+(b.toNat-48)) (c.drop (a+1))):=
     Lib.hid ⟨by omega,by have:=B.b.2;omega,f.trans hF⟩
    clear hF f q r;go_wp2;exact⟨⟨a+1,_,g*16+((b.toNat:Int)-48),rfl,rfl,by go_num,by omega,w⟩,by simp[intOf];omega⟩
   .obtain⟨v,y⟩:∃v,bits .or .u8 (b.toNat:Int) 32=v:=⟨_,rfl⟩;have m:=JX b;have j:(b.toNat:Int)<48\/57<(b.toNat:Int):=by omega
    rw[y]at m;have a7:=Z y;cases h:Mar.cE b with
    |some k=>
     have b3:=Mar.j7 h;have b0:((b.toNat:Int)==95)=false:=by
      rw[Yi];intro o;have J:b=95:=UInt8.toNat_inj.1 (by show b.toNat=95;omega);subst J;have a0:Mar.cE 95=none:=by decide
      rw[a0]at h;cases h
     obtain⟨s,b7,a4⟩:=m.1 k h l;have hF:Mar.b2 e (b::c.drop (a+1))=Mar.b2 (e*16+k) (c.drop (a+1)):=by simp[Mar.b2,h]
     have w:U (g*16+(v-97+10)=((e*16+k:Nat):Int)/\e*16+k<16 ^ (a+1)/\Mar.b2 0 c=Mar.b2 (e*16+k) (c.drop (a+1))):=
      Lib.hid ⟨by omega,by have:=B.b.2;omega,f.trans hF⟩
     clear hF f q r h m a4 l;rcases j with j|j;all_goals
      go_wp2_with (go_at_call 285;refine(Tryz.internal_strconv_lower _ _).mono ?_;rintro o A ⟨rfl,rfl⟩)
      exact⟨⟨a+1,_,g*16+(v-97+10),rfl,rfl,by go_num,by omega,w⟩,by simp[intOf];omega⟩
    |none=>
     have s:=m.2 h l;have hF:Mar.b2 e (b::c.drop (a+1))=none:=by simp[Mar.b2,h]
     rw[hF]at f;have a2:=bits_lo_u8 .or (b.toNat:Int) 32;have a3:=bits_hi_u8 .or (b.toNat:Int) 32;rw[y]at a2 a3;have t:=Z f;clear hF f q r h m l;rcases j with j|j;all_goals rcases s with s|s
     all_goals
      go_wp2_with (go_at_call 285;refine(Tryz.internal_strconv_lower _ _).mono ?_;rintro o A ⟨rfl,rfl⟩)
     all_goals go_ret2
     all_goals exact⟨by rw[t.b];rfl,rfl⟩
  .have R:a=d.size:=by omega
   subst R;have hF:Mar.b2 e (c.drop d.size)=some e:=by rw[YR (by omega)];rfl
   rw[hF]at f;have t:=Z f;subst q;clear r hF f;go_wp2;go_ret2;exact⟨by rw[t.b];rfl,rfl⟩
section
variable {at':Nat}{a:List UInt8}{b:Option Int}
def AV:∀(a:List UInt8) (b v:Nat),Mar.b2 b a=some v->v<(b+1)*16 ^ a.length
 |[],b,v,d=>by simp[Mar.b2]at d;simp;omega
 |c::e,b,v,d=>by
  unfold Mar.b2 at d;cases f:Mar.cE c with
  |none=>rw[f]at d;cases d
  |some g=>
   rw[f]at d;have j:=Mar.j7 f;have:=AV e _ _ d;have h:(b*16+g+1)*16 ^ e.length<=(b+1)*16*16 ^ e.length:=Nat.mul_le_mul_right _ (by omega);have i:(b+1)*16 ^ (e.length+1)=(b+1)*16*16 ^ e.length:=by rw[Nat.pow_succ,Nat.mul_assoc,Nat.mul_comm 16]
   simp only[YC];omega
def ID{v:Nat}(b:Mar.b2 0 a=some v)(c:a.length<=8):v<4294967296:=by
 have d:=AV a 0 v b;have e:16 ^ a.length<=16 ^ 8:=Nat.pow_le_pow_right (by omega) c;omega
def Fa(b:ByteArray)(e:World)(r:Gl e)(m:b.size<=8) :
  Calls prog 273 #[.string b,.int .i64 16,.int .i64 32] e λd f=>
   Below e.heap.size e f/\((∃v:Nat,b.size≠0/\Mar.b2 0 b.data.toList=some v/\v<4294967296/\d=.returned (.tuple #[.int .u64 v,.nilIface]))\/
    ((b.size=0\/Mar.b2 0 b.data.toList=none)/\∃(u:TypeId) (t:Value),d=.returned (.tuple #[.int .u64 0,.iface u t]))):=by
 obtain⟨_,⟨x,w,o⟩,_⟩:=r;by_cases k:b.size=0
 .have:b=⟨#[]⟩:=by
   obtain⟨⟨a⟩⟩:=b;have:a=[]:=List.eq_nil_of_length_eq_zero k;subst this;rfl
  subst this;go_in;go_wp2_with (first
   |(go_at_call 278;refine(Tryz.internal_strconv_ParseUint_empty _ _ _).mono ?_;rintro d f ⟨rfl,rfl⟩)
   |(go_at_call 279;refine(Tryz.strconv_toError_syntax _ _ _ _ _ _ (by decide) o (Ya ⟨_,_,rfl⟩)).mono ?_;rintro d f ⟨q,rfl,_,_,l⟩))
  go_ret2;exact⟨l,Ya ⟨Y8 rfl,_,_,rfl⟩⟩
 .have c:=EZ b k m e;have h:=Lib.bytesWorld_below e 5 b;have p:=qY h rfl o;obtain⟨W1,n⟩:∃W1,W1=Lib.bytesWorld e 5 b:=⟨_,rfl⟩;rw[<-n]at c h p;clear n;have i:=Z h;clear h;cases g:Mar.b2 0 b.data.toList with
  |some v=>
   rw[g]at c;simp only[xz]at c;have s:=ID g (by rw[<-Lib.size_eq];exact m);have j:=Z c;clear c g;go_in;go_wp2_with (go_at_call 278;refine j.b.mono ?_;rintro d f ⟨rfl,rfl⟩);go_ret2;exact⟨i.b,Y8 ⟨v,k,rfl,s,rfl⟩⟩
  |none=>
   rw[g]at c;simp only[xz]at c;have j:=Z c;clear c g;go_in;go_wp2_with (first
    |(go_at_call 278;refine j.b.mono ?_;rintro d f ⟨rfl,rfl⟩)
    |(go_at_call 279;refine(Tryz.strconv_toError_syntax _ _ _ _ _ _ (by omega) p (Ya ⟨_,_,rfl⟩)).mono ?_;rintro d f ⟨q,rfl,_,_,l⟩))
   go_ret2;exact⟨i.b.trans (l.mono i.b.size),Ya ⟨by simp,_,_,rfl⟩⟩
def IF(b:a.length=0\/Mar.b2 0 a=none):Mar.fd a=none:=by
 unfold Mar.fd;split
 .rfl
 .split
  .rfl
  .rename_i c;rcases b with b|b
   .exact absurd (List.eq_nil_of_length_eq_zero b) c
   .rw[b];rfl
def IG{v:Nat}(e:a.length<=8)(b:a.length≠0)(d:Mar.b2 0 a=some v):Mar.fd a=some (v:Int):=by
 unfold Mar.fd;rw[Y2 (by omega),Y2 (by intro c;rw[c]at b;exact b rfl),d];rfl
def IH(a:ByteArray)(e:World)(o:Gl e)(r:a.size<=281474976710656) :
  Calls prog 264 #[.string a] e λh k=>
   (∃j:Int,h=.returned (.tuple #[.int .i64 j,.bool (Mar.fd a.data.toList).isSome])/\∀v,Mar.fd a.data.toList=some v->j=v)/\Below e.heap.size e k:=by
 have f:U (a.size=a.data.toList.length):=by simp[U]
 by_cases n:8<a.size
 .have b:Mar.fd a.data.toList=none:=by rw[Mar.fd,Y9 (by rw[<-f.b];exact n)]
  rw[b];go_in;go_wp2;go_ret2;exact⟨⟨0,rfl,λv c=>by cases c⟩,Below.refl _ _⟩
 .have l:=Z (Fa a e o (by omega));go_in;go_wp2_with (go_at_call 273;refine l.b.mono ?_;rintro h k ⟨i,⟨v,m,d,q,rfl⟩|⟨d,t,s,rfl⟩⟩)
  .have g:=Z d;clear d;go_region;go_wp2;go_ret2;have b:=IG (by rw[<-f.b];omega) (by rw[<-f.b];exact m) g.b;exact⟨⟨v,by rw[b];rfl,λp c=>by rw[b]at c;exact YQ c⟩,i.drew⟩
  .have g:=Z d;clear d;go_region;go_wp2;go_ret2;have b:=IF (by rw[<-f.b];exact g.b);exact⟨⟨0,by rw[b];rfl,λp c=>by rw[b]at c;cases c⟩,i.drew⟩
def LM(b:Lib.hasPrefix a [48,120]=true):Mar.d2 a=Mar.fd (Lib.trimPrefix a [48,120]):=by
 simp[Mar.d2,b,Lib.trimPrefix]
def LL(b:Lib.hasPrefix a [48,120]=false):Mar.d2 a=Mar.d7 a:=by
 simp[Mar.d2,b]
def qU{c e:World}(f:Below c.heap.size c e):(∀a b,a<c.heap.size->e.cell? ⟨a,b,none⟩=c.cell? ⟨a,b,none⟩)/\(∀a b,a<c.heap.size->e.frozen? ⟨a,b,none⟩=c.frozen? ⟨a,b,none⟩):=
 ⟨λa b d=>f.cell (p:=⟨a,b,none⟩) d,λa b d=>f.frozen (p:=⟨a,b,none⟩) d⟩
def Ca(c:Mar.d2 a=b)(d:b.isNone=true):Mar.dk a at'=.error ⟨4,at'⟩:=by
 cases b with
 |none=>rw[Mar.dk,c]
 |some v=>cases d
def Cb{c:Int}(d:Mar.d2 a=b)(e:b.isSome=true)(f:∀v,b=some v->c=v):Mar.dk a at'=.ok ⟨3,a,c,at'⟩:=by
 cases b with
 |none=>cases e
 |some v=>rw[Mar.dk,d,f v rfl]
def LQ(c:ByteArray)(at':Nat)(h:World)(r:Gl h)(s:c.size<=281474976710656) :
  Calls prog 241 #[.string c,.int .i64 at'] h λf e=>qI h (Mar.dk c.data.toList at') f e/\Below h.heap.size h e:=by
 have o:∀b,Gl (h.alloc b):=λb=>r.t ((Below.refl _ _).alloc (Y4 _) _);have q:(⟨(Lib.trimPrefix c.data.toList [48,120]).toArray⟩:ByteArray).size<=281474976710656:=by
  have:=yZ c.data.toList [48,120];show (Lib.trimPrefix c.data.toList [48,120]).toArray.size<=_;simp only[List.size_toArray];have:=Lib.size_eq c;omega
 cases p:Lib.hasPrefix c.data.toList [48,120]with
 |true=>
  have a:=LM p;have i:=Z a;clear a;go_in;go_wp2_with (first
   |(go_at_call 260;refine(Tryz.strings_CutPrefix _ _ _).mono ?_;rintro f e ⟨rfl,rfl⟩)
   |(go_at_call 264;refine(IH _ _ (o _) q).mono ?_;rintro f e ⟨⟨n,rfl,a⟩,d⟩;obtain⟨l,m⟩:=qU d;have j:=d.size;simp at j;have k:=Z a;clear a)
   |(go_at_call 70;refine(gL _ _ _).mono ?_;rintro f e ⟨rfl,rfl⟩))
  .have g:=Ca (at':=at') i.b ‹_›;refine aq ⟨?_,?_⟩
   .rw[g];exact⟨_,by omega,rfl,aJ rfl⟩
   .exact(((Below.refl _ _).alloc (Y4 _) _).trans (d.mono (by simp))).alloc (by omega) _
  .have g:=Cb (at':=at') i.b (by simpa using ‹Option.isNone _=false›) k.b;refine bodyPost_ret (v:=.agg #[.int .i64 3,.string c,.int .i64 n,.int .i64 at']) (by simp[results,results241,go_sem,l,m,j]) rfl ⟨?_,?_⟩
   .rw[g];exact mE (by simp only[cq,wf];rfl)
   .exact((((((Below.refl _ _).alloc (Y4 _) _).trans (d.mono (by simp))).setCell (Y4 _) _).setCell (Y4 _) _).setCell (Y4 _) _).setCell (Y4 _) _
 |false=>
  have a:=LL p;have i:=Z a;clear a;go_in;go_wp2_with (first
   |(go_at_call 260;refine(Tryz.strings_CutPrefix _ _ _).mono ?_;rintro f e ⟨rfl,rfl⟩)
   |(go_at_call 265;refine(GL _ _ (o _) s).mono ?_;rintro f e ⟨⟨n,rfl,a⟩,d⟩;obtain⟨l,m⟩:=qU d;have j:=d.size;simp at j;have k:=Z a;clear a)
   |(go_at_call 70;refine(gL _ _ _).mono ?_;rintro f e ⟨rfl,rfl⟩))
  .have g:=Ca (at':=at') i.b ‹_›;refine aq ⟨?_,?_⟩
   .rw[g];exact⟨_,by omega,rfl,aJ rfl⟩
   .exact(((Below.refl _ _).alloc (Y4 _) _).trans (d.mono (by simp))).alloc (by omega) _
  .have g:=Cb (at':=at') i.b (by simpa using ‹Option.isNone _=false›) k.b;refine bodyPost_ret (v:=.agg #[.int .i64 3,.string c,.int .i64 n,.int .i64 at']) (by simp[results,results241,go_sem,l,m,j]) rfl ⟨?_,?_⟩
   .rw[g];exact mE (by simp only[cq,wf];rfl)
   .exact((((((Below.refl _ _).alloc (Y4 _) _).trans (d.mono (by simp))).setCell (Y4 _) _).setCell (Y4 _) _).setCell (Y4 _) _).setCell (Y4 _) _
end
def qI.cases{f:World}{b:Except Mar.M Mar.am}{d:Ending}{g:World}(e:qI f b d g) :
  (∃c,b=.ok c/\d=.returned (cq c))\/(∃a,b=.error a/\fe f a.no a.m d g):=by
 cases b with
 |ok c=>exact Y8 ⟨c,rfl,e⟩
 |error a=>exact Ya ⟨a,rfl,e⟩
def CW(a:UInt8):(0<=Lib.indexByte [123,125,40,41,91,93,60,62,42,44,59,58,61] a)↔Mar.e1 a=true:=by
 have key:∀b:Fin 256,(0<=Lib.indexByte [123,125,40,41,91,93,60,62,42,44,59,58,61] (UInt8.ofNat b.val))↔Mar.e1 (UInt8.ofNat b.val)=true:=by decide +kernel
 have:=key ⟨a.toNat,a.toNat_lt⟩;simpa using this
def CK(l:List UInt8):(Mar.af l).length<=l.length:=by
 cases l with
 |nil=>simp[Mar.af]
 |cons b a=>
  simp only[Mar.af,YC];have:=(List.takeWhile_sublist (p:=Mar.bx) (l:=a)).length_le;omega
def AE{a:UInt8}(c:((a.toNat:Int)==45)=true):(a==45)=true:=by
 have:=beq_iff_eq.1 c;have b:a=45:=UInt8.toNat_inj.1 (by show a.toNat=45;omega);rw[b];rfl
def BU{a:UInt8}(b:((a.toNat:Int)==45)=false):(a==45)=false:=by
 rw[Yi]at b ⊢;intro c;subst c;exact b rfl
def Ma(a:ByteArray)(b:0<a.size):a.extract 0 1=⟨[a[0]].toArray⟩:=by
 rw[xp];obtain⟨⟨c⟩⟩:=a;cases c with
 |nil=>exact absurd b (by decide)
 |cons d e=>rfl
def Ib(a:ByteArray)(b:Nat)(m:World)(C:Gl m)(F:a.size<=281474976710656) :
  Calls prog 183 #[.string a,.int .i64 b] m λf n=>qI m (Mar.cd a.data.toList b) f n/\Below m.heap.size m n:=by
 have D:∀z,Gl (m.alloc z):=λz=>C.t ((Below.refl _ _).alloc (Y4 _) _);by_cases s:a.size=0
 .have:a=⟨#[]⟩:=by
   obtain⟨⟨w⟩⟩:=a;have:w=[]:=List.eq_nil_of_length_eq_zero s;subst this;rfl
  subst this;go_in;go_wp2;refine bodyPost_ret (v:=.agg #[.int .i64 0,.string ⟨#[]⟩,.int .i64 0,.int .i64 b]) (by simp[results,results183,go_sem]) rfl ⟨mE rfl,(Below.refl _ _).alloc (Y4 _) _⟩
 .have x:0<a.size:=by omega
  have J:a.toList.isEmpty=false:=by
   rw[<-decide_eq_emptyBytes];exact decide_eq_false (λr=>s (by rw[r];rfl))
  have B:Mar.cd a.data.toList b=(if Mar.cs a[0]then Mar.c0 (Mar.af a.data.toList) b
    else if Mar.b9 a[0]||a[0]==45 then Mar.dk (Mar.af a.data.toList) b else if Mar.e1 a[0]then .ok ⟨4,[a[0]],0,b⟩else .error ⟨2,b⟩):=by
   obtain⟨⟨w⟩⟩:=a;cases w with
   |nil=>exact absurd rfl s
   |cons I K=>rfl
  have y:(⟨(Mar.af a.data.toList).toArray⟩:ByteArray).size<=281474976710656:=by
   have:=CK a.data.toList;show (Mar.af a.data.toList).toArray.size<=_;simp only[List.size_toArray];have:=Lib.size_eq a;omega
  have i:=Z B;go_in;go_wp2_with (first
   |(go_at_call 237;refine(Bc _ _).mono ?_;rintro f n ⟨rfl,rfl⟩)
   |(go_at_call 240;refine(Bb _ _).mono ?_;rintro f n ⟨rfl,rfl⟩)
   |(go_at_call 239;refine(Ow _ _ F x).mono ?_;rintro f G ⟨rfl,d⟩;have E:=Z ((D _).t d))
   |(go_at_call 238;refine(Lv _ _ _ y).mono ?_;rintro f H ⟨u,t⟩;have e:=d.trans (t.mono d.size);obtain⟨k,l⟩:=qU e;have h:=e.size;simp at h;rcases u.cases with⟨j,g,rfl⟩|⟨p,g,o,A,rfl,q⟩)
   |(go_at_call 241;refine(LQ _ _ _ E.b y).mono ?_;rintro f H ⟨u,t⟩;have e:=d.trans (t.mono d.size);obtain⟨k,l⟩:=qU e;have h:=e.size;simp at h;rcases u.cases with⟨j,g,rfl⟩|⟨p,g,o,A,rfl,q⟩)
   |(go_at_call 236;refine(Tryz.strings_IndexByte _ _ _).mono ?_;rintro f n ⟨rfl,rfl⟩)
   |(go_at_call 242;refine(ws _ _ (by simp;omega)).mono ?_;rintro f G ⟨rfl,d⟩;obtain⟨k,l⟩:=qU d;have h:=d.size;simp at h)
   |(go_at_call 70;refine(gL _ _ _).mono ?_;rintro f n ⟨rfl,rfl⟩))
  .have c:Mar.cd a.data.toList b=.ok j:=by rw[i.b];rw[Y9 (by assumption)];exact g
   refine bodyPost_ret (v:=cq j) (by simp[results,results183,go_sem,k,l,h]) rfl ⟨?_,?_⟩
   .rw[c];exact mE rfl
   .exact((((((Below.refl _ _).alloc (Y4 _) _).trans (e.mono (by simp))).setCell (Y4 _) _).setCell (Y4 _) _).setCell (Y4 _) _).setCell (Y4 _) _
  .have c:Mar.cd a.data.toList b=.error p:=by rw[i.b];rw[Y9 (by assumption)];exact g
   refine aq ⟨?_,((Below.refl _ _).alloc (Y4 _) _).trans (e.mono (by simp))⟩;rw[c];exact⟨o,by have:=d.size;simp at this;omega,rfl,q⟩
  .have c:Mar.cd a.data.toList b=.ok j:=by rw[i.b];rw[Y2 (by simp[*]),Y9 (by simp[*])];exact g
   refine bodyPost_ret (v:=cq j) (by simp[results,results183,go_sem,k,l,h]) rfl ⟨?_,?_⟩
   .rw[c];exact mE rfl
   .exact((((((Below.refl _ _).alloc (Y4 _) _).trans (e.mono (by simp))).setCell (Y4 _) _).setCell (Y4 _) _).setCell (Y4 _) _).setCell (Y4 _) _
  .have c:Mar.cd a.data.toList b=.error p:=by rw[i.b];rw[Y2 (by simp[*]),Y9 (by simp[*])];exact g
   refine aq ⟨?_,((Below.refl _ _).alloc (Y4 _) _).trans (e.mono (by simp))⟩;rw[c];exact⟨o,by have:=d.size;simp at this;omega,rfl,q⟩
  .have c:Mar.cd a.data.toList b=.ok j:=by rw[i.b];rw[Y2 (by simp[*]),Y9 (by simp[AE (by assumption)])];exact g
   refine bodyPost_ret (v:=cq j) (by simp[results,results183,go_sem,k,l,h]) rfl ⟨?_,?_⟩
   .rw[c];exact mE rfl
   .exact((((((Below.refl _ _).alloc (Y4 _) _).trans (e.mono (by simp))).setCell (Y4 _) _).setCell (Y4 _) _).setCell (Y4 _) _).setCell (Y4 _) _
  .have c:Mar.cd a.data.toList b=.error p:=by rw[i.b];rw[Y2 (by simp[*]),Y9 (by simp[AE (by assumption)])];exact g
   refine aq ⟨?_,((Below.refl _ _).alloc (Y4 _) _).trans (e.mono (by simp))⟩;rw[c];exact⟨o,by have:=d.size;simp at this;omega,rfl,q⟩
  .have c:Mar.cd a.data.toList b=.ok ⟨4,[a[0]],0,b⟩:=by rw[i.b];rw[Y2 (by simp[*]),Y2 (by simp[BU (by assumption), *]),Y9 ((CW _).1 (by assumption))]
   refine bodyPost_ret (v:=.agg #[.int .i64 4,.string (a.extract 0 1),.int .i64 0,.int .i64 b]) (by simp[results,results183,go_sem,k,l,h]) rfl ⟨?_,?_⟩
   .rw[c];exact mE (by simp only[cq,Ma a x];rfl)
   .exact((((((Below.refl _ _).alloc (Y4 _) _).trans (d.mono (by simp))).setCell (Y4 _) _).setCell (Y4 _) _).setCell (Y4 _) _).setCell (Y4 _) _
  .have c:Mar.cd a.data.toList b=.error ⟨2,b⟩:=by
    rw[i.b];rw[Y2 (by simp[*]),Y2 (by simp[BU (by assumption), *]),Y2 (λr=>by have:=(CW _).2 r;omega)]
   refine aq ⟨?_,((Below.refl _ _).alloc (Y4 _) _).alloc (by simp) _⟩;rw[c];exact⟨_,by omega,rfl,aJ (by simp)⟩
section
variable {d:List Nat}{j:TypeId}{a b w g:World}{c:Nat}{h e f:Value}{p:Addr}
structure ai(d:List Nat)(w g:World):Prop where
 os:g.os=w.os
 c2:g.tape=w.tape
 c1:g.output=w.output
 F:w.heap.size<=g.heap.size
 i:∀k,k<w.heap.size->k ∉ d->g.heap[k]? = w.heap[k]?
def ah(d:List Nat)(w:World):ai d w w:=⟨rfl,rfl,rfl,Y4 _,λ_ _ _=>rfl⟩
def br(d:List Nat)(a:Below w.heap.size w g):ai d w g:=⟨a.os,a.tape,a.output,a.size,λc b _=>a.block c b⟩
def ai.a{f:World}(c:ai d a b)(e:ai d b f):ai d a f:=
 ⟨e.os.trans c.os,e.c2.trans c.c2,e.c1.trans c.c1,Yz c.F e.F,λi g h=>(e.i i (Yr g c.F) h).trans (c.i i g h)⟩
def ai.l{M':List Nat}(c:ai d a b)(h:∀j∈d,j∈M'):ai M' a b:=
 ⟨c.os,c.c2,c.c1,c.F,λe g i=>c.i e g (λf=>i (h e f))⟩
def ai.m5(c:ai d a b)(e:Nat):ai d a (b.drewN e):=⟨c.os,c.c2,c.c1,c.F,c.i⟩
def ai.ae(c:ai d a b):ai d a b.drew:=⟨c.os,c.c2,c.c1,c.F,c.i⟩
def ai.d(c:ai d a b)(e:Obj):ai d a (b.alloc e):=
 c.a (br d ((Below.refl _ _).alloc (Y4 _) _))
def ai.O(e:ai d a b)(g:p.block∈d)(h:Value):ai d a (b.setCell p h):=
 e.a ⟨rfl,rfl,rfl,by simp[World.setCell],λi _ f=>Below.heap_setCell _ _ _ _ (λc=>f (c▸g))⟩
def ai.bs(c:ai d a b)(i:a.heap.size<=p.block)(h:Value):ai d a (b.setCell p h):=
 ⟨c.os,c.c2,c.c1,Yz c.F (by simp[World.setCell]),λg e f=>(Below.heap_setCell _ _ _ _ (by omega)).trans (c.i g e f)⟩
def gz(S:Nat)(d:ByteArray)(c:Nat)(b f e a h:Value)(w:World):Prop:=
 w.heap[S]? = some (.cells #[.string d,.int .i64 c,b,f,e,a,h] 222)
def gz.cb{S:Nat}{i:ByteArray}{g a:Value}(b:gz S i c g f e a h w) :
  w.cell? ⟨S,0,none⟩=some (.string i)/\w.cell? ⟨S,1,none⟩=some (.int .i64 c)/\w.cell? ⟨S,2,none⟩=some g/\w.cell? ⟨S,3,none⟩=some f/\
  w.cell? ⟨S,4,none⟩=some e/\w.cell? ⟨S,5,none⟩=some a/\w.cell? ⟨S,6,none⟩=some h/\S<w.heap.size/\∀k,w.frozen? ⟨S,k,none⟩=false:=by
 unfold gz at b;have j:S<w.heap.size:=by
  by_cases d:S<w.heap.size
  .exact d
  .simp[YO (Nat.le_of_not_lt d)]at b
 refine⟨?_,?_,?_,?_,?_,?_,?_,j,?_⟩<;>simp[World.cell?,World.frozen?,b]
def bu{b i:Nat}{cs:Array Value}{a:Nat×Nat}(c:w.heap[b]? = some (.cells cs j a))(v:Value) :
  (w.setCell ⟨b,i,none⟩ v).heap[b]? = some (.cells (cs.setIfInBounds i v) j a):=by
 simp[World.setCell,Array.getElem?_modify,c]
def yF{b:Nat}{m a k' t' n' a':Value}{c:Nat×Nat}(d:w.heap[b]? = some (.cells #[m,f,e,a] j c)) :
  ((((w.setCell ⟨b,0,none⟩ k').setCell ⟨b,1,none⟩ t').setCell ⟨b,2,none⟩ n').setCell ⟨b,3,none⟩ a').heap[b]? = some (.cells #[k',t',n',a'] j c):=by
 have g:=bu (i:=0) d k';have h:=bu (i:=1) g t';have k:=bu (i:=2) h n';have l:=bu (i:=3) k a';exact l
def iE{b:Nat}{c a:Value}(d:w.heap[b]? = some (.cells #[c,f,e,a] j)) :
  w.cell? ⟨b,0,none⟩=some c/\w.cell? ⟨b,1,none⟩=some f/\w.cell? ⟨b,2,none⟩=some e/\w.cell? ⟨b,3,none⟩=some a/\∀g,w.frozen? ⟨b,g,none⟩=false:=by
 refine⟨?_,?_,?_,?_,?_⟩<;>simp[World.cell?,World.frozen?,d]
def xu{b:List UInt8}{e:Mar.am}(a:Mar.cd b c=.ok e):e.text.length<=b.length:=by
 cases b with
 |nil=>simp only[Mar.cd,Except.ok.injEq]at a;subst a;simp
 |cons g f=>
  have d:=CK (g::f);unfold Mar.cd at a;simp only at a;split at a
  .unfold Mar.c0 at a;split at a
   .cases a
   .split at a<;>(simp only[Except.ok.injEq]at a;subst a;exact d)
  .split at a
   .unfold Mar.dk at a;split at a
    .simp only[Except.ok.injEq]at a;subst a;exact d
    .cases a
   .split at a
    .simp only[Except.ok.injEq]at a;subst a;simp
    .cases a
def lz(a:List UInt8)(c:Nat):Except Mar.M (Mar.am×Nat):=
 match Mar.cd (a.drop (c+Mar.dM (a.drop c))) (c+Mar.dM (a.drop c))with
 |.ok b=>.ok (b,c+Mar.dM (a.drop c)+b.text.length)
 |.error d=>.error d
def Gl.h(k:Gl w)(p:ai d w g)(l:2 ∉ d)(m:3 ∉ d)(n:4 ∉ d):Gl g:=by
 have key:∀b v,b ∉ d->w.cell? ⟨b,0,none⟩=some v->g.cell? ⟨b,0,none⟩=some v:=by
  intro b v o c;have:=p.i b (li c) o;unfold World.cell? at c ⊢;rw[this];exact c
 obtain⟨⟨q,h⟩,⟨a,b,i⟩,⟨e,f,j⟩⟩:=k;exact⟨⟨q,key _ _ l h⟩,⟨a,b,key _ _ m i⟩,⟨e,f,key _ _ n j⟩⟩
def gz.f9{S:Nat}{n:ByteArray}{m a:Value}(k:gz S n c m f e a h w)(l:Gl w) :
  2≠S/\3≠S/\4≠S:=by
 obtain⟨b,_⟩:=k.cb;obtain⟨⟨o,g⟩,⟨_,_,i⟩,⟨_,_,j⟩⟩:=l;refine⟨?_,?_,?_⟩
 .intro d;rw[d]at g;rw[g]at b;cases b
 .intro d;rw[d]at i;rw[i]at b;cases b
 .intro d;rw[d]at j;rw[j]at b;cases b
def OD{S:Nat}{l:ByteArray}{k a:Value}(d:gz S l c k f e a h w)(j:Gl w)(nq:Nat)(v:Value){p:Nat}(r:v=.int .i64 p) :
  ai [S] w (((w.alloc (.cells #[.int .i64 0,.string ⟨#[]⟩,.int .i64 0,.int .i64 0] 154)).drewN nq).setCell ⟨S,1,none⟩ v)/\
  gz S l p k f e a h (((w.alloc (.cells #[.int .i64 0,.string ⟨#[]⟩,.int .i64 0,.int .i64 0] 154)).drewN nq).setCell ⟨S,1,none⟩ v)/\
  Gl (((w.alloc (.cells #[.int .i64 0,.string ⟨#[]⟩,.int .i64 0,.int .i64 0] 154)).drewN nq).setCell ⟨S,1,none⟩ v)/\
  w.heap.size<(((w.alloc (.cells #[.int .i64 0,.string ⟨#[]⟩,.int .i64 0,.int .i64 0] 154)).drewN nq).setCell ⟨S,1,none⟩ v).heap.size/\
  (((w.alloc (.cells #[.int .i64 0,.string ⟨#[]⟩,.int .i64 0,.int .i64 0] 154)).drewN nq).setCell ⟨S,1,none⟩ v).heap[w.heap.size]? = some (.cells #[.int .i64 0,.string ⟨#[]⟩,.int .i64 0,.int .i64 0] 154):=by
 subst r;have q:S<w.heap.size:=d.cb.2.2.2.2.2.2.2.1;have g:=((Below.refl w.heap.size w).alloc (Y4 _) (.cells #[.int .i64 0,.string ⟨#[]⟩,.int .i64 0,.int .i64 0] 154));have b:=((br [S] g).m5 nq).O (p:=⟨S,1,none⟩) (by simp) (.int .i64 p);refine⟨b,?_,?_,?_,?_⟩
 .exact bu (i:=1) ((g.block S q).trans d) _
 .obtain⟨m,n,o⟩:=d.f9 j;exact j.h b (by simp[m]) (by simp[n]) (by simp[o])
 .have:=b.F;simp[World.setCell]
 .exact(Below.heap_setCell _ _ _ _ (by simp;omega)).trans (aJ rfl)
def OC(S:Nat)(d:ByteArray)(c:Nat)(q f e a h:Value)(w:World)(a9:gz S d c q f e a h w)(a1:Gl w)(f5:c<=d.size)(h3:d.size<=4000000000) :
  Calls prog 117 #[.pointer (some ⟨S,0,none⟩)] w λs g=>ai [S] w g /\
   ((∃i p,lz d.data.toList c=.ok (i,p)/\p<=d.size/\s=.returned (cq i)/\gz S d p q f e a h g)\/
    (∃k,lz d.data.toList c=.error k/\fe w k.no k.m s g)):=by
 obtain⟨c0,c1,c2,c3,c4,c5,c6,g9,d9⟩:=a9.cb;obtain⟨f0,a5⟩:=a1.ak;have a6:=λI=>qY (((Below.refl w.heap.size w).alloc (Y4 _) I).drew) rfl a5;have N:=Z a6;clear a5 a6;have m:(d.extract c d.size).size<4294967281:=by simp;omega
 go_in;have a7:c+Mar.dM (d.data.toList.drop c)<=d.size:=by
  have:=Mar.l7 ((d.data.toList.drop c).length+1) (d.data.toList.drop c);simp only[YI]at this;have:=Lib.size_eq d;unfold Mar.dM;simp only[YI];omega
 have a0:(d.extract c d.size).data.toList=d.data.toList.drop c:=xo d c;have u:=λl e6=>Py (d.extract c d.size) f0 l m e6;rw[a0]at u;obtain⟨o,B⟩:∃o,U (Mar.dM (d.data.toList.drop c)=o):=⟨_,rfl⟩;rw[B.b]at u a7;have O:=Z u;clear u a0;have b9:U (IntKind.i64.wrap ((c:Int)+(o:Int))=((c+o:Nat):Int)):=by
  show IntKind.i64.wrap ((c:Int)+(o:Int))=_;have:=IntKind.wrap_i64 ((c:Int)+(o:Int));rw[this];omega
 go_upto_region 1 with fail;go_cut [] (λwc=>ai [S] w wc/\gz S d (c+o) q f e a h wc/\Gl wc/\w.heap.size<wc.heap.size/\wc.heap[w.heap.size]? = some (.cells #[.int .i64 0,.string ⟨#[]⟩,.int .i64 0,.int .i64 0] 154));case first=>
  go_region_with (first|(go_at_call 182;refine(O.b _ ?_).mono ?_;exact N.b _;rintro s g ⟨rfl,nq,rfl⟩));all_goals (go_wp2_with fail)
  all_goals go_meet
  all_goals exact OD a9 a1 _ _ (by rw[b9.b])
 case rest=>
  rename World=>j;obtain⟨p,A⟩:∃p,U (c+o=p):=⟨_,rfl⟩;rw[A.b]at hcut a7;obtain⟨a3,b0,a2,E,a8⟩:=hcut;obtain⟨c7,c8,c9,d0,d1,d2,d3,e5,g3⟩:=b0.cb;obtain⟨b1,b2,b3,b4,e0⟩:=iE a8;have h1:¬j.heap.size=S:=by omega
  have h2:¬S=j.heap.size:=by omega
  have g6:(0:Int)<=p:=by omega
  have g7:(p:Int)<=d.size:=by omega
  have e9:(d.extract p d.size).size<=281474976710656:=by simp;omega
  have D:=λl e2=>Ib (d.extract p d.size) p l e2 e9;rw[xo]at D;have L:=Z (a2.t ((Below.refl j.heap.size j).drew));have M:=Z (λI=>a2.t (((Below.refl j.heap.size j).alloc (Y4 _) I).drew));have z:=Z a3;clear c0 c1 c2 c3 c4 c5 c6 d9 a3;have hT:∀(k:Mar.M) (b:Nat) (l:World),Mar.cd (d.data.toList.drop p) p=.error k->j.heap.size<=b->Below j.heap.size j l->l.heap[b]? = some (.cells #[.int .i64 k.no,.int .i64 k.m] 179)->
    ai [S] w l/\((∃i p,lz d.data.toList c=.ok (i,p)/\p<=d.size/\Ending.panicked [{ v:=.iface 143 (.pointer (some ⟨b,0,none⟩)),recovered:=false }]=.returned (cq i)/\gz S d p q f e a h l)\/
     (∃k,lz d.data.toList c=.error k/\fe w k.no k.m (.panicked [{ v:=.iface 143 (.pointer (some ⟨b,0,none⟩)),recovered:=false }]) l)):=by
   intro k b l e1 d5 r d6;refine⟨z.b.a (br _ r),Ya ⟨k,?_,b,Yz (Nat.le_of_lt E) d5,rfl,d6⟩⟩;unfold lz;rw[B.b,A.b,e1]
  have J:=Z hT;have K:=Z D;clear D hT;go_wp2_with fail;go_cut [3] (λf1 b5=>∃b i,f1=.pointer (some ⟨b,0,none⟩)/\j.heap.size<=b/\Mar.cd (d.data.toList.drop p) p=.ok i/\
   Below j.heap.size j b5/\b5.heap[b]? = some (.cells #[.int .i64 i.f,.string ⟨i.text.toArray⟩,.int .i64 i.n,.int .i64 i.m] 154))
  case first=>
   go_region_held2 (λg=>g.cell? ⟨S,0,none⟩=some (.string d)/\g.cell? ⟨S,1,none⟩=some (.int .i64 p)) (go_keep)
    (first|(go_at_call 183;refine(K.b _ ?_).mono ?_;(first|exact L.b|exact M.b _);rintro s l ⟨e3,n⟩;rcases e3.cases with⟨i,m,rfl⟩|⟨k,m,b,R,rfl,d7⟩;rotate_left;exact aq (J.b k b l m (by first|exact R|(have:=R;simp at this;omega)) (by first|exact((Below.refl j.heap.size j).drew).trans n|exact(((Below.refl j.heap.size j).alloc (Y4 _) _).drew).trans (n.mono (by simp))) d7);have P:=Z m;clear m;obtain⟨g1,g5⟩:=qU n;have H:=n.size;simp at H;have h5:=(n.cell (p:=⟨S,0,none⟩) (by simp;omega));have h6:=(n.cell (p:=⟨S,1,none⟩) (by simp;omega))))
   all_goals (go_wp2_with fail)
   all_goals go_meet
   .exact⟨l.heap.size,i,rfl,H,P.b,(((Below.refl j.heap.size j).drew).trans n).alloc H _,aJ rfl⟩
   .refine⟨j.heap.size,i,rfl,Y4 _,P.b,?_,?_⟩
    .exact((((((((Below.refl j.heap.size j).alloc (Y4 _) _).drew).trans (n.mono (by simp))).setCell (Y4 _) _).setCell (Y4 _) _).setCell (Y4 _) _).setCell (Y4 _) _)
    .exact yF ((n.block j.heap.size (by simp)).trans (aJ rfl))
  case rest=>
   rename World=>f2;obtain⟨b,i,rfl,f6,m,r,C⟩:=hcut;obtain⟨h7,h8,h9,i0,g4⟩:=iE C;have a4:=z.b.a (br [S] r);have G:gz S d p q f e a h f2:=(r.block S e5).trans b0;have F:=(r.block w.heap.size E).trans a8;obtain⟨c7,c8,c9,d0,d1,d2,d3,h0,g2⟩:=G.cb;obtain⟨b1,b2,b3,b4,e0⟩:=iE F;have e4:p+i.text.length<=d.size:=by
    have:=xu m;simp only[YI]at this;have:=Lib.size_eq d;omega
   have g8:(p:Int)+i.text.length<=d.size:=by omega
   have b8:=Z m;have f3:=Z C;have f4:=Z F;have b6:=Z G;have b7:=Z a4;have f7:¬b=S:=by omega
   have f8:¬S=b:=by omega
   have h4:¬w.heap.size=S:=by omega
   have e8:¬S=w.heap.size:=by omega
   have f9:¬b=w.heap.size:=by omega
   have g0:¬w.heap.size=b:=by omega
   clear m C F G a4 r K J L M z N O;go_wp2;go_region;go_wp2;have d8:lz d.data.toList c=.ok (i,p+i.text.length):=by
    unfold lz;rw[B.b,A.b,b8.b]
   refine bodyPost_ret (v:=cq i) (by simp[results,results117,go_sem,b1,b2,b3,b4,E]) rfl ⟨?_,Y8 ⟨i,_,d8,e4,rfl,?_⟩⟩
   .exact(((((b7.b.O (by simp) _).bs (Y4 _) _).bs (Y4 _) _).bs (Y4 _) _).bs (Y4 _) _).ae
   .have d4:=bu (i:=1) b6.b (.int .i64 ((p+i.text.length:Nat):Int));have t:∀(y:World) (x:Nat) (v:Value),y.heap[S]? = some (.cells #[.string d,.int .i64 ((p+i.text.length:Nat):Int),q,f,e,a,h] 222)->
      (y.setCell ⟨w.heap.size,x,none⟩ v).heap[S]? = some (.cells #[.string d,.int .i64 ((p+i.text.length:Nat):Int),q,f,e,a,h] 222):=
     λy x v e7=>(Below.heap_setCell y ⟨w.heap.size,x,none⟩ v S e8).trans e7
    rw[<-Int.natCast_add];exact t _ 3 _ (t _ 2 _ (t _ 1 _ (t _ 0 _ d4)))
end
def Sc(S:Nat)(c:ByteArray)(b:Nat)(h:Option Mar.am)(d:World):Prop:=
 b<=c.size/\match h with
 |some a=>gz S c b (.int .i64 a.f) (.string ⟨a.text.toArray⟩) (.int .i64 a.n) (.int .i64 a.m) (.bool true) d
 |none=>∃f i g e,gz S c b f i g e (.bool false) d
def Sc.t{S:Nat}{e:ByteArray}{c:Nat}{b:Option Mar.am}{w f:World}(a:Sc S e c b w)(d:Below w.heap.size w f):Sc S e c b f:=by
 obtain⟨h,a⟩:=a;refine⟨h,?_⟩;cases b with
 |some l=>exact(d.block S (gz.cb (w:=w) a).2.2.2.2.2.2.2.1).trans a
 |none=>
  obtain⟨i,k,j,g,a⟩:=a;exact⟨i,k,j,g,(d.block S a.cb.2.2.2.2.2.2.2.1).trans a⟩
def ea(b:List UInt8)(a:Nat):Option Mar.am->Except Mar.M (Mar.am×Nat)
 |some c=>.ok (c,a)
 |none=>lz b a
def Jh{S:Nat}{a b:World}{d:Obj}(c:ai [S] (a.alloc d) b)(i j k l m e f g h:Value) :
  ai [S] a (((((((((b.setCell ⟨S,2,none⟩ i).setCell ⟨S,3,none⟩ j).setCell ⟨S,4,none⟩ k).setCell ⟨S,5,none⟩ l).setCell ⟨S,6,none⟩ m).setCell ⟨a.heap.size,0,none⟩ e).setCell ⟨a.heap.size,1,none⟩ f).setCell ⟨a.heap.size,2,none⟩ g).setCell ⟨a.heap.size,3,none⟩ h):=
 ((((((((((((ah _ _).d _).a c).O (by simp) _).O (by simp) _).O (by simp) _).O (by simp) _).O (by simp) _).bs (Y4 _) _).bs (Y4 _) _).bs (Y4 _) _).bs (Y4 _) _)
def OB{S b:Nat}{l:ByteArray}{k:Nat}{y E z n u:Value}{m:World}(w:¬S=b)(o:gz S l k y E z n u m){f g h i j:Value}(A B C D:Value) :
  gz S l k f g h i j (((((((((m.setCell ⟨S,2,none⟩ f).setCell ⟨S,3,none⟩ g).setCell ⟨S,4,none⟩ h).setCell ⟨S,5,none⟩ i).setCell ⟨S,6,none⟩ j).setCell ⟨b,0,none⟩ A).setCell ⟨b,1,none⟩ B).setCell ⟨b,2,none⟩ C).setCell ⟨b,3,none⟩ D):=by
 have p:=bu (i:=2) o f;have q:=bu (i:=3) p g;have r:=bu (i:=4) q h;have s:=bu (i:=5) r i;have t:=bu (i:=6) s j;have c:∀(d:World) (a:Nat) (v:Value) (e:Option Obj),d.heap[S]? = e->(d.setCell ⟨b,a,none⟩ v).heap[S]? = e:=
  λd a v e x=>(Below.heap_setCell d ⟨b,a,none⟩ v S w).trans x
 exact c _ 3 _ _ (c _ 2 _ _ (c _ 1 _ _ (c _ 0 _ _ t)))
def zz(S:Nat)(d:ByteArray)(e:Nat)(j:Option Mar.am)(a:World)(c:Sc S d e j a)(N:Gl a)(R:d.size<=4000000000) :
  Calls prog 72 #[.pointer (some ⟨S,0,none⟩)] a λl p=>ai [S] a p /\
   ((∃b k,ea d.data.toList e j=.ok (b,k)/\l=.returned (cq b)/\Sc S d k (some b) p)\/
    (∃f,ea d.data.toList e j=.error f/\fe a f.no f.m l p)):=by
 obtain⟨q,c⟩:=c;cases j with
 |some b=>
  have s:gz S d e (.int .i64 b.f) (.string ⟨b.text.toArray⟩) (.int .i64 b.n) (.int .i64 b.m) (.bool true) a:=c;obtain⟨D,E,F,G,H,I,J,m,M⟩:=s.cb;have z:=Z s;go_in;go_wp2;refine bodyPost_ret (v:=cq b) (by simp[results,results72,go_sem]) rfl ⟨?_,Y8 ⟨b,e,rfl,rfl,q,?_⟩⟩
  .exact(ah _ _).d _
  .exact(Below.heap_alloc a _ S m).trans z.b
 |none=>
  obtain⟨a0,a6,a1,B,c⟩:=c;obtain⟨D,E,F,G,H,I,J,m,M⟩:=c.cb;have t:=λg=>(Below.refl a.heap.size a).alloc (Y4 _) g;have u:=λg=>OC S d e a0 a6 a1 B (.bool false) (a.alloc g) ((Below.heap_alloc a g S m).trans c) (N.t (t g)) q R;have w:=Z u;go_in;go_wp2_with (go_at_call 117;refine(w.b _).mono ?_;rintro l b8 ⟨h,⟨b,k,i,P,rfl,o⟩|⟨f,i,C,K,rfl,L⟩⟩;obtain⟨a8,a9,b0,b1,b2,b3,b4,b7,b5⟩:=o.cb;have n:=(h.i a.heap.size (by simp) (by simp;omega)).trans (aJ rfl);obtain⟨a2,a3,a4,a5,b6⟩:=iE n;have a7:=Z n;have x:=Z o;have y:=Z h;have A:=Z i;clear n o h i)
  .have r:¬S=a.heap.size:=by omega
   have O:¬a.heap.size=S:=by omega
   refine bodyPost_ret (v:=cq b) (by simp[results,results72,go_sem,r,O,a2,a3,a4,a5]) rfl ⟨?_,Y8 ⟨b,k,A.b,rfl,P,?_⟩⟩
   .exact Jh y.b _ _ _ _ _ _ _ _ _
   .exact OB r x.b _ _ _ _
  .refine aq ⟨((ah _ _).d _).a h,Ya ⟨f,i,C,?_,rfl,L⟩⟩;simp at K;omega
def ER(S:Nat)(c:ByteArray)(h:Nat)(f:Option Mar.am)(w:World)(t:Sc S c h f w)(G:Gl w)(L:c.size<=4000000000) :
  Calls prog 118 #[.pointer (some ⟨S,0,none⟩)] w λo r=>ai [S] w r /\
   ((∃a g,ea c.data.toList h f=.ok (a,g)/\o=.returned (cq a)/\Sc S c g none r)\/
    (∃d,ea c.data.toList h f=.error d/\fe w d.no d.m o r)):=by
 have b1:S<w.heap.size:=by
  obtain⟨_,j⟩:=t;cases f with
  |some a=>exact(gz.cb (w:=w) j).2.2.2.2.2.2.2.1
  |none=>obtain⟨b5,b7,b6,a1,j⟩:=j;exact j.cb.2.2.2.2.2.2.2.1
 have J:¬S=w.heap.size:=by omega
 have b4:¬w.heap.size=S:=by omega
 have x:=λb=>zz S c h f (w.alloc b) (Sc.t t ((Below.refl w.heap.size w).alloc (Y4 _) b)) (G.t ((Below.refl w.heap.size w).alloc (Y4 _) b)) L;have y:=Z x;go_in;go_wp2_with (go_at_call 72;refine(y.b _).mono ?_;rintro o n ⟨e,⟨a,g,k,rfl,K,s⟩|⟨d,k,C,E,rfl,F⟩⟩;have q:gz S c g (.int .i64 a.f) (.string ⟨a.text.toArray⟩) (.int .i64 a.n) (.int .i64 a.m) (.bool true) n:=s;obtain⟨a2,a3,a4,a5,a6,a7,a8,I,a9⟩:=q.cb;have p:=(e.i w.heap.size (by simp) (by simp;omega)).trans (aJ rfl);obtain⟨N,O,P,R,b0⟩:=iE p;have u:=e.F;simp at u;have H:w.heap.size<n.heap.size:=u;have b2:¬w.heap.size=n.heap.size:=(by omega);have b3:¬S=n.heap.size:=(by omega);have a0:=Z p;have z:=Z q;have A:=Z e;have B:=Z k;clear p s q e k)
 .refine bodyPost_ret (v:=cq a) (by simp[results,results118,go_sem,H,N,O,P,R]) rfl ⟨?_,Y8 ⟨a,g,B.b,rfl,K,?_⟩⟩
  .exact((((((((ah _ _).d _).a A.b).O (by simp) _).bs (Y4 _) _).bs (Y4 _) _).bs (Y4 _) _).bs (Y4 _) _).d _
  .refine⟨.int .i64 a.f,.string ⟨a.text.toArray⟩,.int .i64 a.n,.int .i64 a.m,(Below.heap_alloc _ _ S (by simp[World.setCell];exact I)).trans ?_⟩;have D:=bu (i:=6) z.b (.bool false);have i:∀(m:World) (l:Nat) (v:Value) (b:Option Obj),m.heap[S]? = b->(m.setCell ⟨w.heap.size,l,none⟩ v).heap[S]? = b:=
    λm l v b M=>(Below.heap_setCell m ⟨w.heap.size,l,none⟩ v S J).trans M
   exact i _ 3 _ _ (i _ 2 _ _ (i _ 1 _ _ (i _ 0 _ _ D)))
 .refine aq ⟨((ah _ _).d _).a e,Ya ⟨d,k,C,?_,rfl,F⟩⟩;simp at E;omega
section
variable {h e i:List Nat}{f b:Nat}{a:List (Nat×Obj)}{c g:World}
inductive Ty where
 |plain (k:Nat)
 |named (t:List UInt8) (at':Nat)
 |opaq (n:Int) (fixed:Bool)
 |str (n:Int) (fixed:Bool)
 |arr (of:Ty) (n:Int) (fixed:Bool)
 |opt (of:Ty)
 |void
def bW:Ty->Value
 |.plain e=>.iface 372 (.agg #[.int .i64 e])
 |.named f d=>.iface 260 (.agg #[.string ⟨f.toArray⟩,.int .i64 d])
 |.opaq b a=>.iface 377 (.agg #[.int .i64 b,.bool a])
 |.str b a=>.iface 380 (.agg #[.int .i64 b,.bool a])
 |.arr c b a=>.iface 382 (.agg #[bW c,.int .i64 b,.bool a])
 |.opt c=>.iface 385 (.agg #[bW c])
 |.void=>.iface 444 (.agg #[])
structure aF where
 t:List UInt8
 m:Nat
 k:Ty
structure es where
 t:List UInt8
 m:Nat
 cc:Ty
 b3:Ty
 num:Int
structure eH where
 t:List UInt8
 m:Nat
 u:List es
 num:Int
inductive ao where
 |const (t:List UInt8) (at':Nat) (v:Int)
 |typedef (d:aF)
 |enum (t:List UInt8) (at':Nat) (ms:List (List UInt8×Nat×Int))
 |struct (t:List UInt8) (at':Nat) (ms:List aF)
 |union (t:List UInt8) (at':Nat) (sel:aF) (arms:List (List Int×aF))
 |prog (t:List UInt8) (at':Nat) (vs:List eH) (num:Int)
def bm(e:List Nat)(a:List (Nat×Obj))(c:World):Prop:=∀b∈a,c.heap[b.1]? = some b.2/\b.1 ∉ e
abbrev ll(b:List UInt8)(a:Nat):List Value:=[.string ⟨b.toArray⟩,.int .i64 a]
abbrev hk(a:aF):List Value:=[.string ⟨a.t.toArray⟩,.int .i64 a.m,bW a.k]
def fv(a:List (Nat×Obj))(g:TypeId)(v:Value)(b:Nat)(c:List Value):Prop:=
 (v=.slice none 0 0/\b=0/\c=[])\/∃f d e,v=.slice (some ⟨f,0,none⟩) b d/\(b<=d/\b<=1000)/\(f,Obj.cells e g)∈a/\e.toList.take c.length=c
def qA(a:List (Nat×Obj))(b:Nat)(c:List UInt8×Nat×Int):Prop:=(b,Obj.cells #[.string ⟨c.1.toArray⟩,.int .i64 c.2.1,.int .i64 c.2.2] 343)∈a
def dw(a:List (Nat×Obj))(b:Nat):ao->Prop
 |.const g e v=>qA a b (g,e,v)
 |.typedef p=>(b,Obj.cells (hk p).toArray 244)∈a
 |.enum g e h=>∃(d:Value) (m:List Nat),(b,Obj.cells (ll g e++[d]).toArray 253)∈a/\m.length=h.length/\
   fv a 223 d h.length (m.map λj=>Value.pointer (some ⟨j,0,none⟩))/\∀c (n:c<h.length) (o:c<m.length),qA a m[c] h[c]
 |.struct g e h=>∃(d:Value),(b,Obj.cells (ll g e++[d]).toArray 353)∈a/\fv a 242 d h.length (h.flatMap hk)
 |.union g e s k=>∃(d:Value) (f:List Value),(b,Obj.cells (ll g e++hk s++[d]).toArray 358)∈a/\f.length=k.length/\
   fv a 363 d k.length ((k.zip f).flatMap λi=>i.2::hk i.1.2)/\
   ∀c (n:c<k.length) (o:c<f.length),fv a 2 f[c] k[c].1.length (k[c].1.map λq=>Value.int .i64 q)
 |.prog g e l r=>∃(d:Value) (f:List Value),(b,Obj.cells (ll g e++[d,.int .i64 r]).toArray 267)∈a/\f.length=l.length/\
   fv a 367 d l.length ((l.zip f).flatMap λi=>ll i.1.t i.1.m++[i.2,.int .i64 i.1.num])/\
   ∀c (n:c<l.length) (o:c<f.length),fv a 446 f[c] l[c].u.length (l[c].u.flatMap λj=>ll j.t j.m++[bW j.cc,bW j.b3,.int .i64 j.num])
def cD:ao->TypeId
 |.const ..=>223
 |.typedef ..=>225
 |.enum ..=>227
 |.struct ..=>229
 |.union ..=>231
 |.prog ..=>233
def je(a:List (Nat×Obj))(v:Value):Option ao->Prop
 |none=>v=.nilIface
 |some c=>∃b,v=.iface (cD c) (.pointer (some ⟨b,0,none⟩))/\dw a b c
def pT(a:List (List UInt8×Value)):Obj:=.map (a.mapIdx λc b=>⟨.string ⟨b.1.toArray⟩,b.2,c⟩).toArray a.length
def vw(a:List (Int×Int)):Obj:=.map (a.mapIdx λc b=>⟨.int .i64 b.1,.int .i64 b.2,c⟩).toArray a.length
def fK(e:List Nat)(f:Nat)(b:List (List UInt8×Option ao))(c:World):Prop:=
 (b.map (·.1)).Nodup/\∃(a:List (Nat×Obj)) (g:List Value),bm e a c/\g.length=b.length/\c.heap[f]? = some (pT (b.zip g |>.map λh=>(h.1.1,h.2)))/\∀d (i:d<b.length) (j:d<g.length),je a g[d] b[d].2
def aj{e:Obj}(d:c.heap[b]? = some e):b<c.heap.size:=by
 by_cases a:b<c.heap.size
 .exact a
 .simp[YO (Nat.le_of_not_lt a)]at d
def bm.h(f:bm e a c)(j:ai h c g)(i:∀m∈h,m∈e):bm e a g:=by
 intro n l;obtain⟨b,d⟩:=f n l;exact⟨(j.i _ (aj b) (λk=>d (i _ k))).trans b,d⟩
def bm.aa(f:bm e a c)(j:c.heap.size<=b):bm (b::e) a c:=by
 intro i h;obtain⟨d,g⟩:=f i h;refine⟨d,?_⟩;have:=aj d;simp only[Yg,not_or];exact⟨by omega,g⟩
def bm.a9(b:bm e a c)(g:∀j∈i,j∈e):bm i a c:=
 λf d=>⟨(b f d).1,λh=>(b f d).2 (g _ h)⟩
def fK.h{i:List (List UInt8×Option ao)}(j:fK e f i c)(d:ai h c g)(n:∀p∈h,p∈e)(o:f ∉ h):fK e f i g:=by
 obtain⟨q,a,r,k,l,b,m⟩:=j;exact⟨q,a,r,k.h d n,l,(d.i _ (aj b) o).trans b,m⟩
def fK.t{a:List (List UInt8×Option ao)}(b:fK e f a c)(d:Below c.heap.size c g):fK e f a g:=
 b.h (br [] d) (by simp) (by simp)
def fK.aa{d:List (List UInt8×Option ao)}(g:fK e f d c)(j:c.heap.size<=b):fK (b::e) f d c:=by
 obtain⟨k,a,l,h,i⟩:=g;exact⟨k,a,l,h.aa j,i⟩
def fK.a9{b:List (List UInt8×Option ao)}(d:fK e f b c)(j:∀m∈i,m∈e):fK i f b c:=by
 obtain⟨k,a,l,g,h⟩:=d;exact⟨k,a,l,g.a9 j,h⟩
def fK.dF{l:List (List UInt8×Option ao)}(g:fK e f l c):∃d b,c.heap[f]? = some (.map d b):=by
 obtain⟨_,a,i,_,_,h,_⟩:=g;exact⟨_,_,h⟩
end
section
variable {g:List Nat}{b:Nat}{f:Mar.M}{nx:Option Mar.am}{c d w1:World}{e h:Type}
structure Ad where
 R:Nat
 S:Nat
 N:Nat
 P:Nat
 X:List Nat
def Ad.aa(a:Ad)(b:Nat):Ad:={ a with X:=b::a.X }
structure St where
 m:Nat
 A:Option Mar.am
 j:Nat
 D:Nat
 g:List (List UInt8×Option ao)
 o:List (Int×Int)
structure Rd(A:Ad)(text:ByteArray)(σ:St)(c:World):Prop where
 me:c.heap[A.R]? = some (.cells #[.pointer (some ⟨A.S,0,none⟩),.map (some A.N),.int .i64 σ.j,.int .i64 σ.D,.map (some A.P)] 151)
 sc:Sc A.S text σ.m σ.A c
 nm:fK A.X A.N σ.g c
 C:A.R∈A.X/\A.S∈A.X/\A.N∈A.X/\A.P∈A.X
 al:∀x∈A.X,x<c.heap.size
 pr:c.heap[A.P]? = some (vw σ.o)
 np:A.N≠A.P
 gl:Gl c
 dn:text.size<=4000000000
 aP:σ.j<=1000000/\σ.D<=1000000
def Sc.at{S:Nat}{h:ByteArray}{g:Nat}(a:Sc S h g nx c):∃d f e b i,gz S h g d f e b i c:=by
 obtain⟨_,a⟩:=a;cases nx with
 |some j=>exact⟨_,_,_,_,_,a⟩
 |none=>obtain⟨d,f,e,b,a⟩:=a;exact⟨d,f,e,b,_,a⟩
def Rd.bg{a:Ad}{j:ByteArray}{k:St}(e:Rd a j k c):a.R≠a.S/\a.R≠a.N/\a.R≠a.P/\a.S≠a.N/\a.S≠a.P/\a.N≠a.P:=by
 obtain⟨p,r,q,l,o,i⟩:=e.sc.at;have f:c.heap[a.S]? = _:=i;have d:=e.me;obtain⟨n,m,h⟩:=e.nm.dF;have g:=e.pr;unfold vw at g;refine⟨?_,?_,?_,?_,?_,e.np⟩
 .intro b;rw[b,f]at d;simp at d
 .intro b;rw[b,h]at d;cases d
 .intro b;rw[b,g]at d;cases d
 .intro b;rw[b,h]at f;cases f
 .intro b;rw[b,g]at f;cases f
def Rd.K{a:Ad}{f:ByteArray}{g:St}(b:Rd a f g c):a.R<c.heap.size/\a.S<c.heap.size/\a.N<c.heap.size/\a.P<c.heap.size:=by
 obtain⟨l,n,m,h,k,e⟩:=b.sc.at;obtain⟨j,i,d⟩:=b.nm.dF;exact⟨aj b.me,aj e,aj d,aj b.pr⟩
def Rd.r{A:Ad}{f:ByteArray}{a:St}(b:Rd A f a c) :
  c.cell? ⟨A.R,0,none⟩=some (.pointer (some ⟨A.S,0,none⟩))/\c.cell? ⟨A.R,1,none⟩=some (.map (some A.N))/\c.cell? ⟨A.R,2,none⟩=some (.int .i64 a.j)/\
  c.cell? ⟨A.R,3,none⟩=some (.int .i64 a.D)/\c.cell? ⟨A.R,4,none⟩=some (.map (some A.P))/\∀e,c.frozen? ⟨A.R,e,none⟩=false:=by
 have d:=b.me;refine⟨?_,?_,?_,?_,?_,?_⟩<;>simp[World.cell?,World.frozen?,d]
def Rd.t{e:Ad}{f:ByteArray}{g:St}(a:Rd e f g c)(b:Below c.heap.size c d):Rd e f g d:=by
 obtain⟨i,l,m,j⟩:=a.K;exact⟨(b.block _ i).trans a.me,a.sc.t b,a.nm.t b,a.C,λk h=>Yr (a.al k h) b.size,(b.block _ j).trans a.pr,a.np,a.gl.t b,a.dn,a.aP⟩
def Rd.l2{e:Ad}{g:ByteArray}{i:St}(a:Rd e g i c)(b:ai [e.S] c d){h:Nat}(m:Sc e.S g h nx d) :
  Rd e g { i with m:=h,A:=nx } d:=by
 obtain⟨p,y,z,q⟩:=a.K;obtain⟨r,B,C,s,t,D⟩:=a.bg;obtain⟨x,E,A,v,w,n⟩:=a.sc.at;obtain⟨j,k,l⟩:=n.f9 a.gl;exact⟨(b.i _ p (by simp[r])).trans a.me,m,a.nm.h b (by simp;exact a.C.2.1) (by simp;exact λf=>s f.symm),a.C,λu o=>Yr (a.al u o) b.F,(b.i _ q (by simp;exact λf=>t f.symm)).trans a.pr,a.np,
  a.gl.h b (by simp[j]) (by simp[k]) (by simp[l]),a.dn,a.aP⟩
def Rd.h{b:Ad}{k:ByteArray}{h:St}(a:Rd b k h c)(e:ai g c d)(u:∀B∈g,B∈b.X)(q:b.R ∉ g)(r:b.S ∉ g)(s:b.N ∉ g)(t:b.P ∉ g)
  (n:2 ∉ g) (o:3 ∉ g) (p:4 ∉ g):Rd b k h d:=by
 obtain⟨y,z,E,A⟩:=a.K;refine⟨(e.i _ y q).trans a.me,?_,a.nm.h e u s,a.C,λl w=>Yr (a.al l w) e.F,(e.i _ A t).trans a.pr,a.np,a.gl.h e n o p,a.dn,a.aP⟩;obtain⟨v,f⟩:=a.sc;refine⟨v,?_⟩;have i:=e.i _ z r;cases j:h.A with
 |some l=>rw[j]at f;exact i.trans f
 |none=>rw[j]at f;obtain⟨x,D,C,m,f⟩:=f;exact⟨x,D,C,m,i.trans f⟩
def qN{a A':Ad}{b:ByteArray}{l h:St}(d:Rd a b l c)(j:A'.R=a.R/\A'.S=a.S/\A'.N=a.N/\A'.P=a.P)(i:Rd A' b h w1){p:Addr}(r:c.heap.size<=p.block)(k:p.block∈A'.X)(v:Value):Rd A' b h (w1.setCell p v):=by
 obtain⟨s,t,u,w⟩:=d.K;obtain⟨⟨x,e⟩,⟨_,_,f⟩,⟨_,_,g⟩⟩:=d.gl;have e:=li e;have f:=li f;have g:=li g;obtain⟨m,n,o,q⟩:=j;refine i.h ((ah [p.block] w1).O (by simp) v) (by simpa using k) ?_ ?_ ?_ ?_ ?_ ?_ ?_<;>simp<;>omega
def Rd.G{f:Ad}{g:ByteArray}{h:St}(b:Rd f g h c)(e:Obj):Rd (f.aa c.heap.size) g h (c.alloc e):=by
 have a:=b.t ((Below.refl c.heap.size c).alloc (Y4 _) e);refine⟨a.me,a.sc,(b.nm.aa (Y4 _)).t ((Below.refl c.heap.size c).alloc (Y4 _) e),?_,?_,a.pr,a.np,a.gl,a.dn,a.aP⟩
 .obtain⟨i,j,k,l⟩:=b.C;exact⟨Y5 _ i,Y5 _ j,Y5 _ k,Y5 _ l⟩
 .intro m d;simp only[Ad.aa,Yg]at d;rcases d with rfl|d
  .simp
  .have:=b.al m d;simp;omega
def pi{a:Ad}{f:ByteArray}{h:St}(i:a.R∈a.X/\a.S∈a.X/\a.N∈a.X/\a.P∈a.X)(d:Rd (a.aa b) f h c):Rd a f h c:=
 ⟨d.me,d.sc,d.nm.a9 (λg e=>Y5 _ e),i,λg e=>d.al g (Y5 _ e),d.pr,d.np,d.gl,d.dn,d.aP⟩
abbrev PM(e:Type):=St->Except Mar.M (e×St)
def dC(g:List Nat)(j:Ad)(l:ByteArray)(c:World)(h:Except Mar.M (e×St))(k:e->Value)(b:Ending)(d:World):Prop:=
 ai g c d/\((∃a i,h=.ok (a,i)/\b=.returned (k a)/\Rd j l i d)\/(∃f,h=.error f/\fe c f.no f.m b d))
def fI(d:ByteArray):PM Mar.am:=λa=>
 match ea d.data.toList a.m a.A with
 |.ok (b,c)=>.ok (b,{ a with m:=c,A:=some b })
 |.error f=>.error f
def next(c:ByteArray):PM Mar.am:=λa=>
 match ea c.data.toList a.m a.A with
 |.ok (d,b)=>.ok (d,{ a with m:=b,A:=none })
 |.error f=>.error f
def yq{a:Ad}{e:ByteArray}{g:St}(b:Rd a e g c) :
  Calls prog 72 #[.pointer (some ⟨a.S,0,none⟩)] c (dC [a.S] a e c (fI e g) cq):=by
 refine(zz a.S e g.m g.A c b.sc b.gl b.dn).mono ?_;rintro m d ⟨h,⟨l,n,i,rfl,j⟩|⟨f,i,k⟩⟩
 .exact⟨h,Y8 ⟨l,_,by simp only[fI,i],rfl,b.l2 h j⟩⟩
 .exact⟨h,Ya ⟨f,by simp only[fI,i],k⟩⟩
def pY{a:Ad}{e:ByteArray}{g:St}(b:Rd a e g c) :
  Calls prog 118 #[.pointer (some ⟨a.S,0,none⟩)] c (dC [a.S] a e c (next e g) cq):=by
 refine(ER a.S e g.m g.A c b.sc b.gl b.dn).mono ?_;rintro m d ⟨h,⟨l,n,i,rfl,j⟩|⟨f,i,k⟩⟩
 .exact⟨h,Y8 ⟨l,_,by simp only[next,i],rfl,b.l2 h j⟩⟩
 .exact⟨h,Ya ⟨f,by simp only[next,i],k⟩⟩
def gc(b:ByteArray)(a:List UInt8):PM Bool:=λd=>
 match fI b d with
 |.ok (c,e)=>.ok (c.text==a,e)
 |.error f=>.error f
def HU(a b d e:Value)(c:World):(Instr.field 154 (.agg #[a,b,d,e]) 0).run prog c=.ok a c:=by kernel_rfl
def HV(a b d e:Value)(c:World):(Instr.field 154 (.agg #[a,b,d,e]) 1).run prog c=.ok b c:=by kernel_rfl
def AK(d b e a:Value)(c:World):(Instr.field 154 (.agg #[d,b,e,a]) 3).run prog c=.ok a c:=by kernel_rfl
def CN{a:Ad}{e:ByteArray}{j:St}(i:ByteArray)(g:Rd a e j c) :
  Calls prog 198 #[.pointer (some ⟨a.R,0,none⟩),.string i] c (dC [a.S] a e c (gc e i.data.toList j) .bool):=by
 rw[<-ByteArray.toList_eq];obtain⟨p,q,r,s,t,v⟩:=g.r;have w:=HV;have k:=Z (yq g);go_in;go_wp2_with (go_at_call 72;refine k.b.mono ?_;rintro u w1 ⟨h,⟨x,o,d,rfl,n⟩|⟨f,d,b,l,rfl,m⟩⟩<;>(try dsimp only[cq]))
 .go_ret;exact⟨h,Y8 ⟨_,o,by simp only[gc,d],rfl,n⟩⟩
 .exact aq ⟨h,Ya ⟨f,by simp only[gc,d],b,l,rfl,m⟩⟩
def au(c:PM e)(b:e->PM h):PM h:=λd=>
 match c d with
 |.ok (a,g)=>b a g
 |.error f=>.error f
def bS(a:e):PM e:=λb=>.ok (a,b)
def fj(b a:Nat):PM e:=λ_=>.error ⟨b,a⟩
def as{m:PM e}{b:e->PM h}{c d:St}{a:e}(f:m c=.ok (a,d)):au m b c=b a d:=by simp only[au,f]
def bj{m:PM e}{c:e->PM h}{a:St}(b:m a=.error f):au m c a=.error f:=by simp only[au,b]
def cZ(a:ByteArray)(b:List UInt8):PM Bool:=au (gc a b) λc=>if c then au (next a) λ_=>bS true else bS false
def fm{f:Ad}{j:ByteArray}{i:Except Mar.M (e×St)}{h:e->Value}{a:e}{b:St}{v:Value}
  (l:ai g c d) (m:i=.ok (a,b)) (n:v=h a) (k:Rd f j b d):dC g f j c i h (.returned v) d:=⟨l,Y8 ⟨a,b,m,by rw[n],k⟩⟩
def eq{M':List Nat}{h:Ad}{o:ByteArray}{a:Except Mar.M (e×St)}{i:e->Value}
  (l:ai g c d) (m:ai M' c w1) (n:a=.error f) (j:w1.heap.size<=b) (k:d.heap[b]? = some (.cells #[.int .i64 f.no,.int .i64 f.m] 179)) :
  dC g h o c a i (.panicked [{ v:=.iface 143 (.pointer (some ⟨b,0,none⟩)),recovered:=false }]) d:=
 ⟨l,Ya ⟨f,n,b,Yz m.F j,rfl,k⟩⟩
def sA{h:Ad}{n:ByteArray}{p:St}(m:ByteArray)(s:Rd h n p c) :
  Calls prog 192 #[.pointer (some ⟨h.R,0,none⟩),.string m] c (dC [h.S] h n c (cZ n m.data.toList p) .bool):=by
 have q:=Z (CN m s);go_in;go_wp2_with (first
  |(go_at_call 198;refine q.b.mono ?_;rintro r w1 ⟨d,⟨a,C,e,rfl,k⟩|⟨f,e,b,i,rfl,j⟩⟩;obtain⟨u,v,w,x,y,z⟩:=k.r)
  |(go_at_call 118;refine(pY k).mono ?_;rintro r A ⟨o,⟨B,D,l,rfl,t⟩|⟨f,l,b,i,rfl,j⟩⟩))
 .have g:a=false:=by simpa using ‹(!a)=true›
  subst g;go_ret;exact fm d (as e) rfl k
 .have g:a=true:=by simpa using ‹(!a)=false›
  subst g;go_ret;exact fm (d.a o) ((as e).trans (as l)) rfl t
 .have g:a=true:=by simpa using ‹(!a)=false›
  subst g;exact aq (eq (d.a o) d ((as e).trans (bj l)) i j)
 .exact aq (eq d (ah [] _) (bj e) i j)
def bU(c:ByteArray)(b:List UInt8):PM Mar.am:=au (next c) λa=>if a.text==b then bS a else fj 3 a.m
def rj{e:Ad}{j:ByteArray}{r:St}(i:ByteArray)(g:Rd e j r c) :
  Calls prog 187 #[.pointer (some ⟨e.R,0,none⟩),.string i] c (dC [e.S] e j c (bU j i.data.toList r) cq):=by
 rw[<-ByteArray.toList_eq];obtain⟨M,N,O,P,a0,a1⟩:=g.r;have a3:=g.K.1;have a5:=g.K.2.1;have x:U (∀n,Calls prog 118 #[.pointer (some ⟨e.S,0,none⟩)] (c.alloc n) (dC [e.S] (e.aa c.heap.size) j (c.alloc n) (next j r) cq)):=λn=>pY (g.G n);have L:=Z g.bg;go_in;go_wp2_with (first
  |(go_at_call 118;refine(x.b _).mono ?_;rintro z w1 ⟨k,⟨h,K,m,rfl,t⟩|⟨f,m,b,A,rfl,B⟩⟩<;>(try dsimp only[cq]);have u:=(k.i c.heap.size (by simp) (by simp;omega)).trans (aJ rfl);obtain⟨F,G,H,I,a2⟩:=iE u;have w:=k.F;simp at w;have C:c.heap.size<w1.heap.size:=w;have a4:¬c.heap.size=w1.heap.size:=(by omega);have o:=Z k;have s:=Z m;have y:=Z t;clear u k m t)
  |(go_at_call 70;refine(gL _ _ _).mono ?_;rintro z d ⟨rfl,rfl⟩))
 .have q:(h.text==i.toList)=false:=by simpa using ‹(!h.text==i.toList)=true›
  refine aq (eq (M':=[e.S]) (w1:=w1) (f:=⟨3,h.m⟩) ((((ah _ _).d _).a o.b).d _ |>.d _) (((ah _ _).d _).a o.b) ((as s.b).trans ?_) (by omega) (aJ (by simp)));rw[q];rfl
 .have q:(h.text==i.toList)=true:=by simpa using ‹(!h.text==i.toList)=false›
  refine bodyPost_ret (v:=cq h) (by simp[results,results187,go_sem,C,F,G,H,I]) rfl (fm (a:=h) ?_ ((as s.b).trans (by rw[q];rfl)) rfl ?_)
  .exact((((((((ah _ _).d _).a o.b)).bs (Y4 _) _).bs (Y4 _) _).bs (Y4 _) _).bs (Y4 _) _).d _
  .have l:=λ{J:World} (D:Rd (e.aa c.heap.size) j K J) (E:Nat) (v:Value)=>qN (A':=e.aa c.heap.size) g ⟨rfl,rfl,rfl,rfl⟩ D (p:=⟨c.heap.size,E,none⟩) (Y4 _) (by simp[Ad.aa]) v;exact pi g.C ((l (l (l (l y.b 0 _) 1 _) 2 _) 3 _).t ((Below.refl _ _).alloc (Y4 _) _))
 .exact aq (eq (((ah _ _).d _).a k) ((ah [e.S] _).d _) (bj m) A B)
end
section
variable {a:Mar.am}
def hE(b:ByteArray)(a:Mar.am):PM Ty:=
 if((a.f:Int)==1)then bS (.named a.text a.m)
 else if a.text==[105,110,116]then bS (.plain 0)
 else if a.text==[104,121,112,101,114]then bS (.plain 2)
 else if a.text==[98,111,111,108]then bS (.plain 4)
 else if a.text==[117,110,115,105,103,110,101,100]then
  au (cZ b [104,121,112,101,114]) λc=>if c then bS (.plain 3)else au (cZ b [105,110,116]) λ_=>bS (.plain 1)
 else fj 3 a.m
def kf(a:ByteArray):PM Ty:=au (next a) (hE a)
def Rk{c:ByteArray}(b:((a.f:Int)==1)=true):hE c a=bS (.named a.text a.m):=by unfold hE;rw[Y9 b]
def Rl{d:ByteArray}(b:((a.f:Int)==1)=false)(c:(a.text==[105,110,116])=true):hE d a=bS (.plain 0):=by unfold hE;simp only[b,c,Ye,if_false,if_true]
def Rm{e:ByteArray}(b:((a.f:Int)==1)=false)(c:(a.text==[105,110,116])=false)(d:(a.text==[104,121,112,101,114])=true):hE e a=bS (.plain 2):=by unfold hE;simp only[b,c,d,Ye,if_false,if_true]
def Ro{f:ByteArray}(b:((a.f:Int)==1)=false)(c:(a.text==[105,110,116])=false)(d:(a.text==[104,121,112,101,114])=false)(e:(a.text==[98,111,111,108])=true):hE f a=bS (.plain 4):=by unfold hE;simp only[b,c,d,e,Ye,if_false,if_true]
def wj{b:ByteArray}(c:((a.f:Int)==1)=false)(d:(a.text==[105,110,116])=false)(e:(a.text==[104,121,112,101,114])=false)(f:(a.text==[98,111,111,108])=false)(g:(a.text==[117,110,115,105,103,110,101,100])=true) :
  hE b a=au (cZ b [104,121,112,101,114]) λh=>if h then bS (.plain 3)else au (cZ b [105,110,116]) λ_=>bS (.plain 1):=by unfold hE;simp only[c,d,e,f,g,Ye,if_false,if_true]
def Rp{g:ByteArray}(b:((a.f:Int)==1)=false)(c:(a.text==[105,110,116])=false)(d:(a.text==[104,121,112,101,114])=false)(e:(a.text==[98,111,111,108])=false)(f:(a.text==[117,110,115,105,103,110,101,100])=false) :
  hE g a=fj 3 a.m:=by unfold hE;simp only[b,c,d,e,f,Ye,if_false]
def yY(a:Mar.am)(b:World) :
  Calls prog 243 #[cq a] b λc d=>c=.returned (.agg #[.string ⟨a.text.toArray⟩,.int .i64 a.m])/\Below b.heap.size b d:=by
 dsimp only[cq];go_in;go_wp2;exact bodyPost_ret (v:=.agg #[.string ⟨a.text.toArray⟩,.int .i64 a.m]) (by simp[results,results243,go_sem]) rfl ⟨rfl,((Below.refl _ _).alloc (Y4 _) _).alloc (by simp) _⟩
def DS{d:Ad}{p:ByteArray}{z:St}{q:World}(t:Rd d p z q) :
  Calls prog 249 #[.pointer (some ⟨d.R,0,none⟩)] q (dC [d.S] d p q (kf p z) bW):=by
 obtain⟨C,D,E,F,G,H⟩:=t.r;have A:=Z (pY t);go_in;go_wp2_with (first
  |(go_at_call 118;refine A.b.mono ?_;rintro k y ⟨n,⟨a,N,l,rfl,w⟩|⟨m,l,s,f,rfl,g⟩⟩<;>(try dsimp only[cq]);have b:=Z n;have c:=Z l;have e:=Z w;clear n l w)
  |(go_at_call 243;refine(yY a _).mono ?_;rintro k J ⟨rfl,u⟩)
  |(go_at_call 70;refine(gL _ _ _).mono ?_;rintro k I ⟨rfl,rfl⟩)
  |(go_at_call_of 192 (Value.string { data:=#[104,121,112,101,114] });refine(sA _ (e.b.t ((Below.refl _ _).alloc (Y4 _) _))).mono ?_;rintro k K ⟨h,⟨r,O,i,rfl,x⟩|⟨m,i,s,f,rfl,g⟩⟩)
  |(go_at_call_of 192 (Value.string { data:=#[105,110,116] });refine(sA _ x).mono ?_;rintro k L ⟨v,⟨M,P,o,rfl,B⟩|⟨m,o,s,f,rfl,g⟩⟩))
 .go_ret;exact fm ((b.b.d _).a (br _ u)) ((as c.b).trans (by rw[Rk ‹_›];rfl)) rfl ((e.b.t ((Below.refl _ _).alloc (Y4 _) _)).t u)
 .go_ret;exact fm (b.b.d _) ((as c.b).trans (by rw[Rl ‹_› ‹_›];rfl)) rfl (e.b.t ((Below.refl _ _).alloc (Y4 _) _))
 .go_ret;exact fm (b.b.d _) ((as c.b).trans (by rw[Rm ‹_› ‹_› ‹_›];rfl)) rfl (e.b.t ((Below.refl _ _).alloc (Y4 _) _))
 .go_ret;exact fm (b.b.d _) ((as c.b).trans (by rw[Ro ‹_› ‹_› ‹_› ‹_›];rfl)) rfl (e.b.t ((Below.refl _ _).alloc (Y4 _) _))
 .have j:r=true:=‹_›;subst j;go_ret;exact fm ((b.b.d _).a h) ((as c.b).trans (by rw[wj ‹_› ‹_› ‹_› ‹_› ‹_›];exact as i)) rfl x
 .have j:r=false:=‹_›;subst j;go_ret;exact fm (((b.b.d _).a h).a v) ((as c.b).trans (by rw[wj ‹_› ‹_› ‹_› ‹_› ‹_›];exact(as i).trans (as o))) rfl B
 .have j:r=false:=‹_›;subst j;exact aq (eq (((b.b.d _).a h).a v) ((b.b.d _).a h) ((as c.b).trans (by rw[wj ‹_› ‹_› ‹_› ‹_› ‹_›];exact(as i).trans (bj o))) f g)
 .exact aq (eq ((b.b.d _).a h) (b.b.d _) ((as c.b).trans (by rw[wj ‹_› ‹_› ‹_› ‹_› ‹_›];exact bj i)) f g)
 .exact aq (eq (M':=[d.S]) (w1:=y) (f:=⟨3,a.m⟩) ((b.b.d _).d _) b.b ((as c.b).trans (by rw[Rp ‹_› ‹_› ‹_› ‹_› ‹_›];rfl)) (by omega) (aJ (by simp)))
 .exact aq (eq n (ah [] _) (bj l) f g)
end
section
variable {c:Ad}{d:World}{b:St}
def iy(a:Nat):PM Unit:=λb=>if 24<=b.j then .error ⟨5,a⟩else .ok ((),{ b with j:=b.j+1 })
def ix(a:Nat):PM Unit:=λb=>if 40<=b.D then .error ⟨5,a⟩else .ok ((),{ b with D:=b.D+1 })
abbrev oM:Unit->Value:=λ_=>.tuple #[]
def Rd.k2{j:ByteArray}(i:Rd c j b d):2≠c.R/\3≠c.R/\4≠c.R:=by
 obtain⟨a,_⟩:=i.r;obtain⟨⟨k,f⟩,⟨_,_,g⟩,⟨_,_,h⟩⟩:=i.gl;refine⟨?_,?_,?_⟩
 .intro e;rw[e]at f;rw[f]at a;cases a
 .intro e;rw[e]at g;rw[g]at a;cases a
 .intro e;rw[e]at h;rw[h]at a;cases a
def Rd.g5{k:ByteArray}(a:Rd c k b d)(B:b.j<24) :
  Rd c k { b with j:=b.j+1 } (d.setCell ⟨c.R,2,none⟩ (.int .i64 ((b.j+1:Nat):Int))):=by
 obtain⟨C,u,D,v⟩:=a.K;obtain⟨x,y,z,E,F,G⟩:=a.bg;have g:ai [c.R] d (d.setCell ⟨c.R,2,none⟩ (.int .i64 ((b.j+1:Nat):Int))):=(ah [c.R] d).O (p:=⟨c.R,2,none⟩) (by simp) _;refine⟨bu (i:=2) a.me _,?_,a.nm.h g (by simp;exact a.C.1) (by simp;exact λf=>y f.symm),a.C,λl s=>Yr (a.al l s) g.F,
  (g.i _ v (by simp;exact λf=>z f.symm)).trans a.pr,a.np,?_,a.dn,?_⟩
 .obtain⟨r,e⟩:=a.sc;have h:=g.i _ u (by simp;exact λf=>x f.symm);refine⟨r,?_⟩;cases j:b.A with
  |some l=>rw[j]at e;exact h.trans e
  |none=>rw[j]at e;obtain⟨t,A,w,m,e⟩:=e;exact⟨t,A,w,m,h.trans e⟩
 .obtain⟨n,o,q⟩:=a.k2;exact a.gl.h g (by simp[n]) (by simp[o]) (by simp[q])
 .exact⟨by show b.j+1<=_;omega,a.aP.2⟩
def Rd.n6{k:ByteArray}(a:Rd c k b d)(B:b.D<40) :
  Rd c k { b with D:=b.D+1 } (d.setCell ⟨c.R,3,none⟩ (.int .i64 ((b.D+1:Nat):Int))):=by
 obtain⟨C,u,D,v⟩:=a.K;obtain⟨x,y,z,E,F,G⟩:=a.bg;have g:ai [c.R] d (d.setCell ⟨c.R,3,none⟩ (.int .i64 ((b.D+1:Nat):Int))):=(ah [c.R] d).O (p:=⟨c.R,3,none⟩) (by simp) _;refine⟨bu (i:=3) a.me _,?_,a.nm.h g (by simp;exact a.C.1) (by simp;exact λf=>y f.symm),a.C,λl s=>Yr (a.al l s) g.F,
  (g.i _ v (by simp;exact λf=>z f.symm)).trans a.pr,a.np,?_,a.dn,?_⟩
 .obtain⟨r,e⟩:=a.sc;have h:=g.i _ u (by simp;exact λf=>x f.symm);refine⟨r,?_⟩;cases j:b.A with
  |some l=>rw[j]at e;exact h.trans e
  |none=>rw[j]at e;obtain⟨t,A,w,m,e⟩:=e;exact⟨t,A,w,m,h.trans e⟩
 .obtain⟨n,o,q⟩:=a.k2;exact a.gl.h g (by simp[n]) (by simp[o]) (by simp[q])
 .exact⟨a.aP.1,by show b.D+1<=_;omega⟩
def vj{j:ByteArray}(e:Nat)(g:Rd c j b d) :
  Calls prog 190 #[.pointer (some ⟨c.R,0,none⟩),.int .i64 e] d (dC [c.R] c j d (iy e b) oM):=by
 obtain⟨q,r,s,t,u,w⟩:=g.r;have v:=g.aP;by_cases i:24<=b.j
 .have h:(24:Int)<=b.j:=by omega
  go_in;go_wp2_with (go_at_call 201;refine(qg _ _ _ _ h).mono ?_;rintro k o ⟨⟨p,m,rfl,n⟩,l⟩);exact aq (eq (f:=⟨5,e⟩) (br _ l) (ah [] _) (by rw[iy,Y9 i]) m n)
 .have h:¬(24:Int)<=b.j:=by omega
  go_in;go_wp2_with (go_at_call 201;refine(qh _ _ _ _ h).mono ?_;rintro k o ⟨rfl,rfl⟩);go_end0;refine fm (a:=()) ((ah _ _).O (by simp) _) (by rw[iy,Y2 i]) rfl ?_;exact g.g5 (by omega)
def BV{j:ByteArray}(e:Nat)(g:Rd c j b d) :
  Calls prog 184 #[.pointer (some ⟨c.R,0,none⟩),.int .i64 e] d (dC [c.R] c j d (ix e b) oM):=by
 obtain⟨q,r,s,t,u,w⟩:=g.r;have v:=g.aP;by_cases i:40<=b.D
 .have h:(40:Int)<=b.D:=by omega
  go_in;go_wp2_with (go_at_call 201;refine(qg _ _ _ _ h).mono ?_;rintro k o ⟨⟨p,m,rfl,n⟩,l⟩);exact aq (eq (f:=⟨5,e⟩) (br _ l) (ah [] _) (by rw[ix,Y9 i]) m n)
 .have h:¬(40:Int)<=b.D:=by omega
  go_in;go_wp2_with (go_at_call 201;refine(qh _ _ _ _ h).mono ?_;rintro k o ⟨rfl,rfl⟩);go_end0;refine fm (a:=()) ((ah _ _).O (by simp) _) (by rw[ix,Y2 i]) rfl ?_;exact g.n6 (by omega)
end
end Go.Proofs.YtjdhaegijjednaaGreatDoor
namespace Go.Proofs.YtjdhaegijjednaaGreatDoor
open Go.RowKit
open Go.MapKept
open Go.Proofs.Tryz
section
variable {c g:Nat}{e i h:TypeId}{d:TypeDesc}{a:Array MapEntry}{f:Type}
section
variable {b : Program} {w : World}
def tg(u:b.underlying e=some (.map h i))(n:b.underlying h=some d){k:Value}(t:IsKey d k)
  (r:w.heap[c]? = some (.map a g)) (y:∀p∈a.toList,IsKey d p.key) {q:Value} (z:(zeroValue i).run b w=.ok q w) (f:Bool) :
  ((∀p∈a.toList,p.key≠k)/\(Instr.lookup e (.map (some c)) k f).run b w=.ok (if f then .tuple #[q,.bool false]else q) w)\/
  (∃(o:Nat) (j:MapEntry),a.toList[o]? = some j/\j.key=k/\(Instr.lookup e (.map (some c)) k f).run b w=.ok (if f then .tuple #[j.val,.bool true]else j.val) w):=by
 have s:=λv=>MapKept.run_checkKey (w:=w) n t v 9999;rcases findNow_spec t a.toList 0 y with⟨l,m⟩|⟨o,j,l,m,x⟩
 .refine Y8 ⟨m,?_⟩;cases f<;>simp[Instr.lookup,Instr.findKey,run_underlying u,run_underlying n,MapKept.run_getObj_map r,s,l,z,Result.andThen]
 .refine Ya ⟨o,j,m,x,?_⟩;cases f<;>simp[Instr.lookup,Instr.findKey,run_underlying u,run_underlying n,MapKept.run_getObj_map r,s,l,Result.andThen]
def vE(x:b.underlying e=some (.map h i))(n:b.underlying h=some d){k:Value}(o:IsKey d k)
  (m:w.heap[c]? = some (.map a g)) (t:∀f∈a.toList,IsKey d f.key) (u:∀f∈a.toList,f.key≠k) (v:Value) :
  (Instr.mapUpdate e (.map (some c)) k v).run b w=.ok () { w with heap:=w.heap.setIfInBounds c (.map (a.push ⟨k,v,g⟩) (g+1)) }:=by
 have s:=λp=>MapKept.run_checkKey (w:=w) n o p 9999;rcases findNow_spec o a.toList 0 t with⟨j,l⟩|⟨y,q,j,l,r⟩
 .simp[Instr.mapUpdate,Instr.findKey,run_underlying x,run_underlying n,MapKept.run_getObj_map m,s,j,MapKept.run_setObj_map _ m,Result.andThen]
 .exact absurd r (u q (Yh l))
end
def ay(b:List (List UInt8×f))(a:List UInt8):Option f:=(b.find? λc=>c.1==a).map (·.2)
def JV{c:List (List UInt8×f)}{b:List UInt8}(d:∀a∈c,a.1≠b):ay c b=none:=by
 unfold ay;rw[List.find?_eq_none.2 (λa e=>by simp[d a e])];rfl
def xL{b:List (List UInt8×f)}{d:List UInt8}(c:(b.map (·.1)).Nodup){e:List UInt8×f}(a:e∈b)(g:e.1=d):ay b d=some e.2:=by
 induction b with
 |nil=>cases a
 |cons k l j=>
  unfold ay;simp only[List.map_cons,List.nodup_cons]at c;rcases Yg.1 a with rfl|a
  .simp[g]
  .have i:k.1≠d:=λh=>c.1 (by rw[h,<-g];exact List.mem_map_of_mem a);have:=j c.2 a;unfold ay at this;simp only[List.find?_cons,Yi.2 i];exact this
def rE(e:List (List UInt8×Value)):∀c∈(e.mapIdx λa b=>(⟨.string ⟨b.1.toArray⟩,b.2,a⟩:MapEntry)),IsKey .string c.key:=by
 intro c d;obtain⟨a,f,rfl⟩:=List.mem_mapIdx.1 d;trivial
end
def vh{o:List Nat}{n:Nat}{a:List (List UInt8×Option ao)}{e:World}(s:fK o n a e)(j:List UInt8)(i:Bool) :
  (ay a j=none/\(Instr.lookup 148 (.map (some n)) (.string ⟨j.toArray⟩) i).run prog e=.ok (if i then .tuple #[.nilIface,.bool false]else .nilIface) e)\/
  (∃r v k,ay a j=some r/\bm o k e/\je k v r/\(Instr.lookup 148 (.map (some n)) (.string ⟨j.toArray⟩) i).run prog e=.ok (if i then .tuple #[v,.bool true]else v) e):=by
 obtain⟨D,k,h,t,E,u,w⟩:=s;have z:IsKey .string (.string ⟨j.toArray⟩):=trivial;have x:=rE (a.zip h |>.map λb=>(b.1.1,b.2));have C:(zeroValue 157).run prog e=.ok .nilIface e:=by kernel_rfl
 rcases tg (P:=prog) (T:=148) (kt:=9) (et:=157) (d:=.string) (by kernel_rfl) (by kernel_rfl) z u (by simpa using x) C i with⟨c,l⟩|⟨g,p,c,l,q⟩
 .refine Y8 ⟨JV ?_,l⟩;intro b B p;obtain⟨f,F,rfl⟩:=List.getElem_of_mem B;have G:f<h.length:=by omega
  have A:(⟨.string ⟨a[f].1.toArray⟩,h[f],f⟩:MapEntry)∈((a.zip h |>.map λb=>(b.1.1,b.2)).mapIdx λf b=>(⟨.string ⟨b.1.toArray⟩,b.2,f⟩:MapEntry)).toArray.toList:=by
   simp only[List.toList_toArray];rw[List.mem_mapIdx];exact⟨f,by simp;omega,by simp⟩
  exact c _ A (by rw[p])
 .simp only[List.toList_toArray,List.getElem?_mapIdx]at c;have m:g<a.length:=by
   by_cases m:g<a.length
   .exact m
   .rw[YA (by simp;omega)]at c;cases c
  have y:g<h.length:=by omega
  rw[Yd (by simp;omega)]at c;simp at c;subst c;simp at l q;refine Ya ⟨a[g].2,h[g],k,xL D (Yy m) l,t,w g m y,?_⟩;simpa using q
def hv(a:Mar.am):PM Int:=λb=>
 match ay b.g a.text with
 |some (some (.const _ _ v))=>.ok (v,b)
 |_=>.error ⟨7,a.m⟩
abbrev hU:Int->Value:=λa=>.int .i64 a
def DE(a:World):(Instr.typeAssert .nilIface 157 223 true).run prog a=.ok (.tuple #[.pointer none,.bool false]) a:=by kernel_rfl
def QA(a:Value)(b:World):(Instr.typeAssert (.iface 223 a) 157 223 true).run prog b=.ok (.tuple #[a,.bool true]) b:=by kernel_rfl
def Qz(c:ao)(g:Value)(d:World)(e:∀b a v,c≠.const b a v):(Instr.typeAssert (.iface (cD c) g) 157 223 true).run prog d=.ok (.tuple #[.pointer none,.bool false]) d:=by
 cases c with
 |const b a v=>exact absurd rfl (e b a v)
 |typedef c=>kernel_rfl
 |enum b a f=>kernel_rfl
 |struct b a f=>kernel_rfl
 |union b a j h=>kernel_rfl
 |prog b a k i=>kernel_rfl
def GB{i:Ad}{z:ByteArray}{k:St}(a:Mar.am){w:World}(p:Rd i z k w) :
  Calls prog 267 #[.pointer (some ⟨i.R,0,none⟩),cq a] w (dC [] i z w (hv a k) hU):=by
 have q:=((Below.refl w.heap.size w).alloc (Y4 _) (.cells #[.int .i64 a.f,.string ⟨a.text.toArray⟩,.int .i64 a.n,.int .i64 a.m] 154)).drew;obtain⟨s,t,K,L,M,P⟩:=p.r;have S:=p.K.1;have n:=p.t q;have key:(∃v,(Instr.lookup 148 (.map (some i.N)) (.string ⟨a.text.toArray⟩) false).run prog ((w.alloc (.cells #[.int .i64 a.f,.string ⟨a.text.toArray⟩,.int .i64 a.n,.int .i64 a.m] 154)).drew)=.ok v ((w.alloc (.cells #[.int .i64 a.f,.string ⟨a.text.toArray⟩,.int .i64 a.n,.int .i64 a.m] 154)).drew)/\
    (∀l,(Instr.typeAssert v 157 223 true).run prog l=.ok (.tuple #[.pointer none,.bool false]) l)/\hv a k=.error ⟨7,a.m⟩)\/
   (∃(h:Nat) (s t:Value) (b:Int),(Instr.lookup 148 (.map (some i.N)) (.string ⟨a.text.toArray⟩) false).run prog ((w.alloc (.cells #[.int .i64 a.f,.string ⟨a.text.toArray⟩,.int .i64 a.n,.int .i64 a.m] 154)).drew)=.ok (.iface 223 (.pointer (some ⟨h,0,none⟩))) ((w.alloc (.cells #[.int .i64 a.f,.string ⟨a.text.toArray⟩,.int .i64 a.n,.int .i64 a.m] 154)).drew)/\
    (w.alloc (.cells #[.int .i64 a.f,.string ⟨a.text.toArray⟩,.int .i64 a.n,.int .i64 a.m] 154)).heap[h]? = some (.cells #[s,t,.int .i64 b] 343)/\hv a k=.ok (b,k)):=by
  rcases vh n.nm a.text false with⟨e,g⟩|⟨G,v,J,e,C,y,g⟩
  .simp only[Ye,if_false]at g
   exact Y8 ⟨_,g,DE,by simp only[hv,e]⟩
  .simp only[Ye,if_false]at g
   cases G with
   |none=>
    have E:v=.nilIface:=y;subst E;exact Y8 ⟨_,g,DE,by simp only[hv,e]⟩
   |some m=>
    obtain⟨h,rfl,B⟩:=y;by_cases r:∃d c b,m=.const d c b
    .obtain⟨d,c,b,rfl⟩:=r;exact Ya ⟨h,_,_,b,g,(C _ B).1,by simp only[hv,e]⟩
    .refine Y8 ⟨_,g,λl=>Qz m _ l (λd c b u=>r ⟨d,c,b,u⟩),?_⟩;cases m with
     |const d c b=>exact absurd ⟨d,c,b,rfl⟩ r
     |typedef m=>simp only[hv,e]
     |enum d c F=>simp only[hv,e]
     |struct d c F=>simp only[hv,e]
     |union d c a2 I=>simp only[hv,e]
     |prog d c a3 b=>simp only[hv,e]
 rcases key with⟨v,g,D,j⟩|⟨h,a0,a1,b,g,x,j⟩
 .have o:=Z j;clear j n q;dsimp only[cq];go_in;go_wp2;go_region;go_wp2_with (go_at_call 70;refine(gL _ _ _).mono ?_;rintro u a4 ⟨rfl,rfl⟩);exact aq (eq (M':=[]) (w1:=w) (f:=⟨7,a.m⟩) (((ah _ _).d _).d _).ae (ah _ _) o.b (by omega) (aJ (w:=w.alloc _) (by simp)))
 .have o:=Z j;have D:=λH=>QA H;have O:(w.alloc (.cells #[.int .i64 a.f,.string ⟨a.text.toArray⟩,.int .i64 a.n,.int .i64 a.m] 154)).cell? ⟨h,2,none⟩=some (.int .i64 b):=by simp[World.cell?,x]
  have A:=Z n;clear j n q x;dsimp only[cq];go_in;go_wp2;go_region;go_wp2;go_ret;exact fm (a:=b) (((ah _ _).d _).ae) o.b rfl A.b
end Go.Proofs.YtjdhaegijjednaaGreatDoor
namespace Go.Proofs.YtjdhaegijjednaaGreatDoor
open Go.RowKit
open Go.Proofs.Tryz
section
variable {a:Mar.am}
def hW(a:Mar.am):PM Int:=
 if((a.f:Int)==3)then bS a.n
 else if((a.f:Int)==1)then hv a
 else if a.text==[84,82,85,69]then bS 1
 else if a.text==[70,65,76,83,69]then bS 0
 else fj 3 a.m
def Ka(b:((a.f:Int)==3)=true):hW a=bS a.n:=by unfold hW;rw[Y9 b]
def By(b:((a.f:Int)==3)=false)(c:((a.f:Int)==1)=true):hW a=hv a:=by unfold hW;simp only[b,c,Ye,if_false,if_true]
def Kb(b:((a.f:Int)==3)=false)(c:((a.f:Int)==1)=false)(d:(a.text==[84,82,85,69])=true):hW a=bS 1:=by unfold hW;simp only[b,c,d,Ye,if_false,if_true]
def Kc(b:((a.f:Int)==3)=false)(c:((a.f:Int)==1)=false)(d:(a.text==[84,82,85,69])=false)(e:(a.text==[70,65,76,83,69])=true):hW a=bS 0:=by unfold hW;simp only[b,c,d,e,Ye,if_false,if_true]
def Kd(b:((a.f:Int)==3)=false)(c:((a.f:Int)==1)=false)(d:(a.text==[84,82,85,69])=false)(e:(a.text==[70,65,76,83,69])=false):hW a=fj 3 a.m:=by unfold hW;simp only[b,c,d,e,Ye,if_false]
def Ke{d:Ad}{h:ByteArray}{i:St}(a:Mar.am){b:World}(c:Rd d h i b) :
  Calls prog 245 #[.pointer (some ⟨d.R,0,none⟩),cq a] b (dC [] d h b (hW a i) hU):=by
 have f:=Z (λo=>GB a (c.t ((Below.refl b.heap.size b).alloc (Y4 _) o)));dsimp only[cq]at f ⊢;go_in;go_wp2_with (first
  |(go_at_call 70;refine(gL _ _ _).mono ?_;rintro j s ⟨rfl,rfl⟩)
  |(go_at_call 267;refine(f.b _).mono ?_;rintro j p ⟨g,⟨r,t,e,rfl,n⟩|⟨k,e,q,l,rfl,m⟩⟩))
 .go_ret;exact fm ((ah _ _).d _) (by rw[Ka ‹_›];rfl) rfl (c.t ((Below.refl _ _).alloc (Y4 _) _))
 .go_ret;exact fm (((ah _ _).d _).a g) (by rw[By ‹_› ‹_›];exact e) rfl n
 .exact aq (eq (((ah _ _).d _).a g) ((ah [] _).d _) (by rw[By ‹_› ‹_›];exact e) l m)
 .go_ret;exact fm ((ah _ _).d _) (by rw[Kb ‹_› ‹_› ‹_›];rfl) rfl (c.t ((Below.refl _ _).alloc (Y4 _) _))
 .go_ret;exact fm ((ah _ _).d _) (by rw[Kc ‹_› ‹_› ‹_› ‹_›];rfl) rfl (c.t ((Below.refl _ _).alloc (Y4 _) _))
 .exact aq (eq (M':=[]) (w1:=b) (f:=⟨3,a.m⟩) (((ah _ _).d _).d _) (ah _ _) (by rw[Kd ‹_› ‹_› ‹_› ‹_›];rfl) (by omega) (aJ (by simp)))
end
def gx(c:List Nat)(v:Value)(i:Int->Bool)(j:World):Prop:=
 ∃(d:List (Nat×Obj)) (b:Nat) (g f:Array Value),v=.func (.func b) g f/\bm c d j/\(∀args a,(callFunc b args).run prog a=.ok (.enter b args) a)/\
  ∀a,bm c d a->∀e:Int,Calls prog b (g.push (.int .i64 e)++f) a λh k=>h=.returned (.bool (i e))/\Below a.heap.size a k
def hG(d:ByteArray)(c:Int->Bool):PM (Int×Nat):=au (next d) λa=>au (hW a) λb=>if c b then bS (b,a.m)else fj 8 a.m
abbrev vz:Int×Nat->Value:=λa=>.tuple #[.int .i64 a.1,.int .i64 a.2]
def DY{b:Ad}{w:ByteArray}{A:St}{v:Value}{d:Int->Bool}{k:World}(o:Rd b w A k)(I:gx b.X v d k) :
  Calls prog 188 #[.pointer (some ⟨b.R,0,none⟩),v] k (dC [b.S] b w k (hG w d A) vz):=by
 obtain⟨a0,a1,a2,a3,a4,a6⟩:=o.r;obtain⟨P,n,a9,a8,rfl,J,a5,H⟩:=I;have D:=Z J;have C:=Z H;have B:=Z (pY o);go_in;go_wp2_with (first
  |(go_at_call 118;refine B.b.mono ?_;rintro h f ⟨s,⟨c,b5,j,rfl,y⟩|⟨n,j,G,q,rfl,r⟩⟩<;>(try dsimp only[cq]);have g:=Z s;have m:=Z j;have E:=Z y;clear s j y)
  |(go_at_call 245;refine(Ke c (E.b.t ((Below.refl _ _).alloc (Y4 _) _))).mono ?_;rintro h b4 ⟨i,⟨e,b6,u,rfl,L⟩|⟨n,u,G,q,rfl,r⟩⟩<;>(try dsimp only[hU]))
  |(go_at_call 70;refine(gL _ _ _).mono ?_;rintro h N ⟨rfl,rfl⟩))
 .have K:=(D.b.h g.b (by simp;exact o.C.2.1)).h (br [] ((Below.refl f.heap.size f).alloc (Y4 _) (.cells #[.int .i64 c.f,.string ⟨c.text.toArray⟩,.int .i64 c.n,.int .i64 c.m] 154))) (by simp) |>.h i (by simp);refine(C.b _ K _).mono ?_;rintro h O ⟨rfl,p⟩;have z:=(i.i f.heap.size (by simp) (by simp)).trans (aJ rfl);have M:=(p.block f.heap.size (aj z)).trans z;obtain⟨b0,b1,b2,b3,a7⟩:=iE M;have l:=Z (((g.b.d _).a (i.l (by simp))).a (br [b.S] p));have F:=Z (L.t p);have x:=Z u;go_wp2_with (go_at_call 70;refine(gL _ _ _).mono ?_;rintro h N ⟨rfl,rfl⟩)
  .have t:d e=false:=by simpa using ‹(!d e)=true›
   refine aq (eq (M':=[b.S]) (w1:=O) (f:=⟨8,c.m⟩) (l.b.d _) l.b ((as m.b).trans ((as x.b).trans ?_)) (Y4 _) (aJ rfl));rw[t];rfl
  .have t:d e=true:=by simpa using ‹(!d e)=false›
   go_region;go_wp2;go_ret2;exact fm (a:=(e,c.m)) l.b.ae ((as m.b).trans ((as x.b).trans (by rw[t];rfl))) rfl (F.b.t ((Below.refl _ _).drew))
 .exact aq (eq ((g.b.d _).a (i.l (by simp))) (g.b.d _) ((as m.b).trans (bj u)) q r)
 .exact aq (eq s (ah [] _) (bj j) q r)
section
variable {c A':Ad}{e:List Nat}{p:Int->Bool}{w:World}{d:St}
def di(c b:Int):Int->Bool:=λa=>decide (c<=a)&&decide (a<=b)
def Si(d c e:Int)(b a:Nat)(w:World)(i:w.cell? ⟨b,0,none⟩=some (.int .i64 d))(h:w.cell? ⟨a,0,none⟩=some (.int .i64 c)) :
  Calls prog 246 #[.int .i64 e,.pointer (some ⟨b,0,none⟩),.pointer (some ⟨a,0,none⟩)] w λf g=>f=.returned (.bool (di d c e))/\Below w.heap.size w g:=by
 go_in;go_wp2;all_goals
  go_ret
  refine⟨ly ?_,Below.refl _ _⟩
  unfold di
  simp
  try omega
def Sj(args:Array Value)(w:World):(callFunc 246 args).run prog w=.ok (.enter 246 args) w:=by kernel_rfl
def qv(b a:Int)(w:World) :
  Calls prog 189 #[.int .i64 b,.int .i64 a] w λl j=>∃v,l=.returned v/\Below w.heap.size w j/\∀c:List Nat,(∀n∈c,n<w.heap.size)->gx c v (di b a) j:=by
 go_in;go_wp2;go_ret;refine⟨.func (.func 246) #[] #[.pointer (some ⟨w.heap.size,0,none⟩),.pointer (some ⟨w.heap.size+1,0,none⟩)],rfl,((Below.refl _ _).alloc (Y4 _) _).alloc (by simp) _,?_⟩;intro c h;refine⟨[(w.heap.size,.cells #[.int .i64 b] 2),(w.heap.size+1,.cells #[.int .i64 a] 2)],_,_,_,rfl,?_,Sj,?_⟩
 .intro p i;simp at i;rcases i with rfl|rfl
  .exact⟨(Below.heap_alloc _ _ _ (by simp)).trans (aJ rfl),λd=>by have:=h _ d;simp at this⟩
  .exact⟨aJ (by simp),λd=>by have:=h _ d;simp at this;omega⟩
 .intro k g m;have e:=(g _ (Yb ..)).1;have f:=(g _ (Y5 _ (Yb ..))).1;exact Si b a m _ _ k (by simp at e;simp[World.cell?,e]) (by simp at f;simp[World.cell?,f])
abbrev mQ:Int×Bool->Value:=λa=>.agg #[.int .i64 a.1,.bool a.2]
def nh(a:ByteArray):PM (Int×Bool):=au (bU a [60]) λ_=>au (cZ a [62]) λc=>
 if c then bS (4294967295,false)else au (hG a (di 0 4294967295)) λb=>au (bU a [62]) λ_=>bS (b.1,false)
def gx.h{a:List Nat}{v:Value}{b:World}(f:gx a v p w)(k:ai e w b)(g:∀m∈e,m∈a):gx a v p b:=by
 obtain⟨c,d,o,n,l,j,i,h⟩:=f;exact⟨c,d,o,n,l,j.h k g,i,h⟩
def eF(A' c:Ad):Prop:=A'.R=c.R/\A'.S=c.S/\A'.N=c.N/\A'.P=c.P
def eG(c:Ad)(b:Nat):eF (c.aa b) c:=⟨rfl,rfl,rfl,rfl⟩
def ff(e:eF A' c){b:ByteArray}(a:ByteArray)(f:Rd A' b d w) :
  Calls prog 187 #[.pointer (some ⟨c.R,0,none⟩),.string a] w (dC [c.S] A' b w (bU b a.data.toList d) cq):=by
 have:=rj a f;rw[e.1,e.2.1]at this;exact this
def mN(e:eF A' c){b:ByteArray}(a:ByteArray)(f:Rd A' b d w) :
  Calls prog 192 #[.pointer (some ⟨c.R,0,none⟩),.string a] w (dC [c.S] A' b w (cZ b a.data.toList d) .bool):=by
 have:=sA a f;rw[e.1,e.2.1]at this;exact this
def zd(b:eF A' c){a:ByteArray}{v:Value}(e:Rd A' a d w)(f:gx A'.X v p w) :
  Calls prog 188 #[.pointer (some ⟨c.R,0,none⟩),v] w (dC [c.S] A' a w (hG a p d) vz):=by
 have:=DY e f;rw[b.1,b.2.1]at this;exact this
def kx{a:Nat}{b c:Value}{d:TypeId}(e:w.heap[a]? = some (.cells #[b,c] d)) :
  w.cell? ⟨a,0,none⟩=some b/\w.cell? ⟨a,1,none⟩=some c/\∀f,w.frozen? ⟨a,f,none⟩=false:=by
 refine⟨?_,?_,?_⟩<;>simp[World.cell?,World.frozen?,e]
def sT{d:ByteArray}{o f:St}{a:World}(g:Rd c d o w)(k:ai e w a)(l:Rd (c.aa w.heap.size) d f a)(i j:Value) :
  ai e w ((a.setCell ⟨w.heap.size,0,none⟩ i).setCell ⟨w.heap.size,1,none⟩ j)/\Rd c d f ((a.setCell ⟨w.heap.size,0,none⟩ i).setCell ⟨w.heap.size,1,none⟩ j):=by
 refine⟨(k.bs (Y4 _) _).bs (Y4 _) _,pi (b:=w.heap.size) g.C ?_⟩;have h:=λ{a:World} (m:Rd (c.aa w.heap.size) d f a) (n:Nat) (v:Value)=>qN (A':=c.aa w.heap.size) g ⟨rfl,rfl,rfl,rfl⟩ m (p:=⟨w.heap.size,n,none⟩) (Y4 _) (by simp[Ad.aa]) v;exact h (h l 0 _) 1 _
def Lf{H:ByteArray}(i:Rd c H d w) :
  Calls prog 248 #[.pointer (some ⟨c.R,0,none⟩)] w (dC [c.S] c H w (nh H d) mQ):=by
 have a8:=i.K.2.1;have j:w.heap.size ∉ [c.S]:=by simp;omega
 have J:=aJ (w:=w) (o:=.cells #[.int .i64 0,.bool false] 375) rfl;have O:=i.G (.cells #[.int .i64 0,.bool false] 375);have x:=(ah [c.S] w).d (.cells #[.int .i64 0,.bool false] 375);go_in;go_wp2_with fail;refine(ff (eG c _) _ O).mono ?_;rintro h a9 ⟨y,⟨b4,b6,f,rfl,a3⟩|⟨m,f,l,b,rfl,e⟩⟩;rotate_left
 .exact aq (eq (x.a y) x (bj f) b e)
 have K:=(y.i _ (aj J) j).trans J;have q:=x.a y;go_wp2_with fail;refine(mN (eG c _) _ a3).mono ?_;rintro h b0 ⟨z,⟨a7,b7,g,rfl,C⟩|⟨m,g,l,b,rfl,e⟩⟩;rotate_left
 .exact aq (eq (q.a z) q ((as f).trans (bj g)) b e)
 have t:=(z.i _ (aj K) j).trans K;have I:=q.a z;obtain⟨F,G,a2⟩:=kx t;cases a7 with
 |true=>
  go_wp2;obtain⟨n,p⟩:=sT i I C (.int .i64 4294967295) (.bool false);exact bodyPost_ret (v:=.agg #[.int .i64 4294967295,.bool false]) (by simp[results,results248,go_sem,F,G]) rfl (fm (a:=(4294967295,false)) n ((as f).trans (as g)) rfl p)
 |false=>
  go_wp2_with fail;refine(qv _ _ _).mono ?_;rintro h b1 ⟨v,rfl,u,a0⟩;have a1:=a0 (c.aa w.heap.size).X C.al;have a4:=C.t u;have r:=I.a (br [c.S] u);have L:=(u.block _ (aj t)).trans t;go_wp2_with fail;refine(zd (eG c _) a4 a1).mono ?_;rintro h b2 ⟨A,⟨E,b8,k,rfl,a5⟩|⟨m,k,l,b,rfl,e⟩⟩;rotate_left
  .exact aq (eq (r.a A) r ((as f).trans ((as g).trans (bj k))) b e)
  have s:=r.a A;have M:=(A.i _ (aj L) j).trans L;go_wp2_with fail;refine(ff (eG c _) _ a5).mono ?_;rintro h b3 ⟨B,⟨b5,b9,D,rfl,a6⟩|⟨m,D,l,b,rfl,e⟩⟩;rotate_left
  .exact aq (eq (s.a B) s ((as f).trans ((as g).trans ((as k).trans (bj D)))) b e)
  have N:=s.a B;have P:=(B.i _ (aj M) j).trans M;obtain⟨F,G,a2⟩:=kx P;go_wp2;obtain⟨n,p⟩:=sT i N a6 (.int .i64 E.1) (.bool false);exact bodyPost_ret (v:=.agg #[.int .i64 E.1,.bool false]) (by simp[results,results248,go_sem,F,G]) rfl (fm (a:=(E.1,false)) n ((as f).trans ((as g).trans ((as k).trans (as D)))) rfl p)
end
section
variable {b:Ad}{w:World}{c:St}
def BN{a:Ad}(e:eF a b){d:ByteArray}(f:Rd a d c w) :
  Calls prog 248 #[.pointer (some ⟨b.R,0,none⟩)] w (dC [b.S] a d w (nh d c) mQ):=by
 have:=Lf f;rw[e.1,e.2.1]at this;exact this
def jM(a:ByteArray):PM (Int×Bool):=au (cZ a [91]) λc=>
 if c then au (hG a (di 1 1000)) λb=>au (bU a [93]) λ_=>bS (b.1,true)else nh a
def FT{J:ByteArray}(j:Rd b J c w) :
  Calls prog 247 #[.pointer (some ⟨b.R,0,none⟩)] w (dC [b.S] b J w (jM J c) mQ):=by
 have a6:=j.K.2.1;have n:w.heap.size ∉ [b.S]:=by simp;omega
 have K:=aJ (w:=w) (o:=.cells #[.int .i64 0,.bool false] 375) rfl;have N:=j.G (.cells #[.int .i64 0,.bool false] 375);have y:=(ah [b.S] w).d (.cells #[.int .i64 0,.bool false] 375);go_in;go_wp2_with fail;refine(mN (eG b _) _ N).mono ?_;rintro i a7 ⟨z,⟨a5,b1,g,rfl,D⟩|⟨r,g,q,e,rfl,f⟩⟩;rotate_left
 .exact aq (eq (y.a z) y (bj g) e f)
 have l:=(z.i _ (aj K) n).trans K;have k:=y.a z;cases a5 with
 |false=>
  go_wp2_with fail;refine(BN (eG b _) D).mono ?_;rintro i a4 ⟨A,⟨d,b2,F,rfl,E⟩|⟨r,F,q,e,rfl,f⟩⟩;rotate_left
  .exact aq (eq (k.a A) k ((as g).trans F) e f)
  have h:=k.a A;have m:=(A.i _ (aj l) n).trans l;obtain⟨H,I,a1⟩:=kx m;dsimp only[mQ];go_wp2;obtain⟨s,t⟩:=sT j h E (.int .i64 d.1) (.bool d.2);exact bodyPost_ret (v:=.agg #[.int .i64 d.1,.bool d.2]) (by simp[results,results247,go_sem,H,I]) rfl (fm (a:=d) s ((as g).trans F) rfl t)
 |true=>
  go_wp2_with fail;refine(qv _ _ _).mono ?_;rintro i a4 ⟨v,rfl,x,P⟩;have a0:=P (b.aa w.heap.size).X D.al;have E:=D.t x;have h:=k.a (br [b.S] x);have m:=(x.block _ (aj l)).trans l;go_wp2_with fail;refine(zd (eG b _) E a0).mono ?_;rintro i a8 ⟨B,⟨d,b3,p,rfl,a2⟩|⟨r,p,q,e,rfl,f⟩⟩;rotate_left
  .exact aq (eq (h.a B) h ((as g).trans (bj p)) e f)
  have u:=h.a B;have L:=(B.i _ (aj m) n).trans m;dsimp only[vz];go_wp2_with fail;refine(ff (eG b _) _ a2).mono ?_;rintro i a9 ⟨C,⟨b0,b4,G,rfl,a3⟩|⟨r,G,q,e,rfl,f⟩⟩;rotate_left
  .exact aq (eq (u.a C) u ((as g).trans ((as p).trans (bj G))) e f)
  have M:=u.a C;have O:=(C.i _ (aj L) n).trans L;obtain⟨H,I,a1⟩:=kx O;go_wp2;obtain⟨s,t⟩:=sT j M a3 (.int .i64 d.1) (.bool true);exact bodyPost_ret (v:=.agg #[.int .i64 d.1,.bool true]) (by simp[results,results247,go_sem,H,I]) rfl (fm (a:=(d.1,true)) s ((as g).trans ((as p).trans (as G))) rfl t)
def lB(a:ByteArray):PM Ty:=au (cZ a [118,111,105,100]) λb=>if b then bS .void else kf a
def ON{i:ByteArray}(p:Rd b i c w) :
  Calls prog 269 #[.pointer (some ⟨b.R,0,none⟩)] w (dC [b.S] b i w (lB i c) bW):=by
 have l:=Z (sA ⟨#[118,111,105,100]⟩ p);go_in;go_wp2_with fail;refine l.b.mono ?_;rintro n t ⟨d,⟨r,v,e,rfl,k⟩|⟨o,e,m,f,rfl,g⟩⟩;rotate_left
 .exact aq (eq d (ah [] _) (bj e) f g)
 cases r with
 |true=>
  go_wp2;go_ret;exact fm (a:=.void) d ((as e).trans rfl) rfl k
 |false=>
  go_wp2_with fail;refine(DS k).mono ?_;rintro n u ⟨j,⟨s,x,h,rfl,q⟩|⟨o,h,m,f,rfl,g⟩⟩;rotate_left
  .exact aq (eq (d.a j) d ((as e).trans h) f g)
  go_wp2;go_ret;exact fm (d.a j) ((as e).trans h) rfl q
end
end Go.Proofs.YtjdhaegijjednaaGreatDoor
namespace Go.Proofs.YtjdhaegijjednaaGreatDoor
open Go.RowKit
open Go.MapKept
open Go.Proofs.Tryz
abbrev dm(a:World)(b:Nat)(c:Obj):World:={ a with heap:=a.heap.setIfInBounds b c }
def gV(b:World)(a:Nat)(d:Obj):ai [a] b (dm b a d):=by
 refine⟨rfl,rfl,rfl,by simp[dm],λf _ c=>?_⟩;simp at c;show (b.heap.setIfInBounds a d)[f]? = _;rw[Array.getElem?_setIfInBounds_ne (λe=>c e.symm)]
def ka{c:World}{a:Nat}(d:a<c.heap.size)(b:Obj):(dm c a b).heap[a]? = some b:=by
 show (c.heap.setIfInBounds a b)[a]? = _;simp[d]
def BS(a:List (List UInt8×Value))(b:List UInt8)(v:Value) :
  pT (a++[(b,v)])=.map ((a.mapIdx λd c=>(⟨.string ⟨c.1.toArray⟩,c.2,d⟩:MapEntry)).toArray.push ⟨.string ⟨b.toArray⟩,v,a.length⟩) (a.length+1):=by
 simp[pT,List.mapIdx_append]
def fK.bn{h:List Nat}{c:Nat}{a:List (List UInt8×Option ao)}{g:World}(w:fK h c a g)(z:c∈h){k:List UInt8}(p:ay a k=none) :
  ∃t,(Instr.mapUpdate 148 (.map (some c)) (.string ⟨k.toArray⟩) .nilIface).run prog g=.ok () (dm g c t)/\fK h c (a++[(k,none)]) (dm g c t):=by
 obtain⟨s,v,u,x,l,m,y⟩:=w;have C:=aj m;have q:∀b∈a,b.1≠k:=by
  intro b j e;rw[xL s j e]at p;cases p
 have B:=rE (a.zip u |>.map λb=>(b.1.1,b.2));have D:=vE (P:=prog) (T:=148) (kt:=9) (et:=157) (d:=.string) (by kernel_rfl) (by kernel_rfl) (k:=.string ⟨k.toArray⟩) trivial m (by simpa using B) (by
  intro H r e;simp only[List.toList_toArray]at r;obtain⟨f,i,rfl⟩:=List.mem_mapIdx.1 r;simp at e i;exact q _ (Yy (by omega)) e) .nilIface
 refine⟨_,D,?_,v,u++[.nilIface],x.h (gV _ _ _) (by simpa using z),by simp[l],?_,?_⟩
 .simp only[List.map_append,List.map_cons,List.map_nil];rw[YJ];refine⟨s,by simp,?_⟩;intro E A F n e;simp at n;subst n;subst e;obtain⟨b,j,rfl⟩:=YE.1 A;exact q b j rfl
 .rw[ka C];rw[List.zip_append (by omega)];simp only[List.map_append,List.zip_cons_cons,List.zip_nil_left,List.map_cons,List.map_nil];rw[BS]
 .intro f i G;by_cases o:f<a.length
  .rw[List.getElem_append_left o,List.getElem_append_left (by omega)];exact y f o (by omega)
  .simp at i;have:f=a.length:=by omega
   subst this;simp[je,l.symm]
section
variable {c:Ad}{w:World}{d:St}
def fZ(a:Mar.am):PM Unit:=λd=>
 match ay d.g a.text with
 |none=>.ok ((),{ d with g:=d.g++[(a.text,none)] })
 |some _=>.error ⟨6,a.m⟩
def Rd.kj{n:ByteArray}{m:List (List UInt8×Option ao)}{k:Obj}(a:Rd c n d w)(f:fK c.X c.N m (dm w c.N k)):Rd c n { d with g:=m } (dm w c.N k):=by
 obtain⟨z,A,J,B⟩:=a.K;obtain⟨L,D,M,E,O,F⟩:=a.bg;have e:=gV w c.N k;obtain⟨I,H,t⟩:=a.nm.dF;refine⟨(e.i _ z (by simp[D])).trans a.me,?_,f,a.C,λo x=>Yr (a.al o x) e.F,(e.i _ B (by simp;exact λh=>F h.symm)).trans a.pr,a.np,?_,a.dn,a.aP⟩
 .obtain⟨u,b⟩:=a.sc;have l:=e.i _ A (by simp[E]);refine⟨u,?_⟩;cases f:d.A with
  |some o=>rw[f]at b;exact l.trans b
  |none=>rw[f]at b;obtain⟨y,G,C,p,b⟩:=b;exact⟨y,G,C,p,l.trans b⟩
 .have i:∀g v,w.cell? ⟨g,0,none⟩=some v->g≠c.N:=by
   intro g v j h;subst h;unfold World.cell? at j;rw[t]at j;cases j
  obtain⟨⟨K,q⟩,⟨_,_,r⟩,⟨_,_,s⟩⟩:=id a.gl;exact a.gl.h e (by simp[i _ _ q]) (by simp[i _ _ r]) (by simp[i _ _ s])
def QD{j:ByteArray}(b:Mar.am)(e:Rd c j d w) :
  Calls prog 244 #[.map (some c.N),.string ⟨b.text.toArray⟩,.nilIface,.int .i64 b.m] w (dC [c.N] c j w (fZ b d) oM):=by
 rcases vh e.nm b.text true with⟨g,i⟩|⟨m,v,n,g,q,p,i⟩
 .simp only[if_true]at i
  obtain⟨m,r,l⟩:=e.nm.bn e.C.2.2.1 g;have k:=Z (e.kj l);have h:U (fZ b d=.ok ((),{ d with g:=d.g++[(b.text,none)] })):=by show _=_;simp only[fZ,g]
  go_in;go_wp2;go_end0;exact fm (a:=()) (gV _ _ _) h.b rfl k.b
 .simp only[if_true]at i
  have h:U (fZ b d=.error ⟨6,b.m⟩):=by show _=_;simp only[fZ,g]
  go_in;go_wp2_with (go_at_call 70;refine(gL _ _ _).mono ?_;rintro o s ⟨rfl,rfl⟩);exact aq (eq (M':=[]) (w1:=w) (f:=⟨6,b.m⟩) ((ah _ _).d _) (ah _ _) h.b (Y4 _) (aJ rfl))
def ai.cb{c:List Nat}{e:World}(g:ai c w e){b d:Nat}{v:Value}(f:b ∉ c)(a:w.cell? ⟨b,d,none⟩=some v):e.cell? ⟨b,d,none⟩=some v:=by
 have:=g.i b (li a) f;unfold World.cell? at a ⊢;rw[this];exact a
def Hf{k:ByteArray}(b:Mar.am)(i:Rd c k d w) :
  Calls prog 186 #[.pointer (some ⟨c.R,0,none⟩),cq b] w (dC [c.N] c k w (fZ b d) oM):=by
 obtain⟨L,A,M,O,P,a1⟩:=i.r;have a2:=i.K.1;have a3:=i.K.2.2.1;have B:=i.bg.2.1;have H:=((ah [c.N] w).d (.cells #[.int .i64 b.f,.string ⟨b.text.toArray⟩,.int .i64 b.n,.int .i64 b.m] 154)).ae;have r:=Z (QD b (i.t (((Below.refl w.heap.size w).alloc (Y4 _) (.cells #[.int .i64 b.f,.string ⟨b.text.toArray⟩,.int .i64 b.n,.int .i64 b.m] 154)).drew)));have D:=aJ (w:=w) (o:=.cells #[.int .i64 b.f,.string ⟨b.text.toArray⟩,.int .i64 b.n,.int .i64 b.m] 154) rfl;obtain⟨a8,J,a9,K,_⟩:=iE D;have I:(w.alloc (.cells #[.int .i64 b.f,.string ⟨b.text.toArray⟩,.int .i64 b.n,.int .i64 b.m] 154)).cell? ⟨c.R,1,none⟩=some (.map (some c.N)):=qY ((Below.refl w.heap.size w).alloc (Y4 _) _) rfl A;have y:=Z J;have z:=Z K;have x:=Z I;have m:=Z H;have hT:∀(g:Mar.M) (e:Nat) (h:World),fZ b d=.error g->w.heap.size+1<=e->ai [c.N] w h->h.heap[e]? = some (.cells #[.int .i64 g.no,.int .i64 g.m] 179)->
   dC [c.N] c k w (fZ b d) oM (.panicked [{ v:=.iface 143 (.pointer (some ⟨e,0,none⟩)),recovered:=false }]) h:=by
  intro g e h G a0 f E;exact eq (M':=[]) (w1:=w) f (ah _ _) G (by omega) E
 have q:=Z hT;dsimp only[cq];go_in;go_wp2;go_region_held2 (λl=>l.cell? ⟨c.R,1,none⟩=some (.map (some c.N))/\l.cell? ⟨w.heap.size,1,none⟩=some (.string ⟨b.text.toArray⟩)/\l.cell? ⟨w.heap.size,3,none⟩=some (.int .i64 b.m)) (go_keep)
  (first|(go_at_call 244;refine r.b.mono ?_;rintro S h ⟨f,⟨a7,b0,j,rfl,p⟩|⟨g,j,e,C,rfl,F⟩⟩;rotate_left;exact aq (q.b g e h j (by simpa using C) (m.b.a f) F);have a4:=f.cb (by simpa using B) x.b;have a5:=f.cb (b:=w.heap.size) (by simp;omega) y.b;have a6:=f.cb (b:=w.heap.size) (by simp;omega) z.b;have s:=Z f;have u:=Z j;have t:=Z p;clear f j p))
 go_wp2;go_end0;exact fm (a:=()) (m.b.a s.b) u.b rfl t.b
end
section
variable {a:List (List UInt8)}{c:Nat}{b:World}
def dp(c:Nat)(a:List (List UInt8))(b:World):Prop:=a.Nodup/\∃d:List Value,d.length=a.length/\b.heap[c]? = some (pT (a.zip d))
def dp.h{f:World}{d:List Nat}(g:dp c a b)(i:ai d b f)(j:c ∉ d):dp c a f:=by
 obtain⟨k,l,h,e⟩:=g;exact⟨k,l,h,(i.i _ (aj e) j).trans e⟩
def dp.K(d:dp c a b):c<b.heap.size:=by
 obtain⟨g,h,f,e⟩:=d;exact aj e
def yG(n:dp c a b)(k:List UInt8) :
  (k ∉ a/\(Instr.lookup 103 (.map (some c)) (.string ⟨k.toArray⟩) true).run prog b=.ok (.tuple #[.int .i64 0,.bool false]) b)\/
  (∃v,k∈a/\(Instr.lookup 103 (.map (some c)) (.string ⟨k.toArray⟩) true).run prog b=.ok (.tuple #[v,.bool true]) b):=by
 obtain⟨z,g,u,o⟩:=n;have p:=rE (a.zip g);have s:(zeroValue 3).run prog b=.ok (.int .i64 0) b:=by kernel_rfl
 rcases tg (P:=prog) (T:=103) (kt:=9) (et:=3) (d:=.string) (by kernel_rfl) (by kernel_rfl) (k:=.string ⟨k.toArray⟩) trivial o (by simpa using p) s true with⟨e,h⟩|⟨i,t,e,h,l⟩
 .refine Y8 ⟨?_,by simpa using h⟩;intro q;obtain⟨f,w,rfl⟩:=List.getElem_of_mem q;have x:f<g.length:=by omega
  have r:(⟨.string ⟨a[f].toArray⟩,g[f],f⟩:MapEntry)∈((a.zip g).mapIdx λf m=>(⟨.string ⟨m.1.toArray⟩,m.2,f⟩:MapEntry)).toArray.toList:=by
   simp only[List.toList_toArray];rw[List.mem_mapIdx];exact⟨f,by simp;omega,by simp⟩
  exact e _ r rfl
 .simp only[List.toList_toArray,List.getElem?_mapIdx]at e;have j:i<a.length:=by
   by_cases j:i<a.length
   .exact j
   .rw[YA (by simp;omega)]at e;cases e
  have y:i<g.length:=by omega
  rw[Yd (by simp;omega)]at e;simp at e;subst e;simp at h l;exact Ya ⟨g[i],by rw[<-h];exact Yy j,l⟩
def dp.bn(m:dp c a b){k:List UInt8}(h:k ∉ a)(v:Value) :
  ∃j,(Instr.mapUpdate 103 (.map (some c)) (.string ⟨k.toArray⟩) v).run prog b=.ok () (dm b c j)/\dp c (a++[k]) (dm b c j):=by
 obtain⟨t,l,n,f⟩:=m;have r:=aj f;have p:=rE (a.zip l);have s:=vE (P:=prog) (T:=103) (kt:=9) (et:=3) (d:=.string) (by kernel_rfl) (by kernel_rfl) (k:=.string ⟨k.toArray⟩) trivial f (by simpa using p) (by
  intro y i e;simp only[List.toList_toArray]at i;obtain⟨x,q,rfl⟩:=List.mem_mapIdx.1 i;simp at e q;exact h (by rw[<-e];exact Yy (by omega))) v
 refine⟨_,s,?_,l++[v],by simp[n],?_⟩
 .rw[YJ];refine⟨t,by simp,?_⟩;intro u o w g e;simp at g;subst g;subst e;exact h o
 .rw[ka r];rw[List.zip_append (by omega)];simp only[List.zip_cons_cons,List.zip_nil_left];rw[BS]
def kZ(b:Mar.am)(a:List (List UInt8)):Except Mar.M (List (List UInt8)):=if a.contains b.text then .error ⟨6,b.m⟩else .ok (a++[b.text])
def QE(d:Mar.am)(j:dp c a b) :
  Calls prog 252 #[.map (some c),.string ⟨d.text.toArray⟩,.int .i64 d.m,.int .i64 d.m] b λh f=>ai [c] b f /\
   ((∃k,kZ d a=.ok k/\h=.returned (.tuple #[])/\dp c k f)\/(∃i,kZ d a=.error i/\fe b i.no i.m h f)):=by
 rcases yG j d.text with⟨e,n⟩|⟨v,e,n⟩
 .obtain⟨p,o,m⟩:=j.bn e (.int .i64 d.m);have l:=Z m;have g:U (kZ d a=.ok (a++[d.text])):=by show _=_;rw[kZ,Y2 (by simpa using e)]
  go_in;go_wp2;go_end0;exact⟨gV _ _ _,Y8 ⟨_,g.b,rfl,l.b⟩⟩
 .have g:U (kZ d a=.error ⟨6,d.m⟩):=by show _=_;rw[kZ,Y9 (by simpa using e)]
  go_in;go_wp2_with (go_at_call 70;refine(gL _ _ _).mono ?_;rintro h f ⟨rfl,rfl⟩);exact aq ⟨(ah _ _).d _,Ya ⟨⟨6,d.m⟩,g.b,b.heap.size,Y4 _,rfl,aJ rfl⟩⟩
def Fy{j:Nat}(f:Mar.am)(n:dp c a b)(o:b.cell? ⟨j,0,none⟩=some (.map (some c))) :
  Calls prog 251 #[cq f,.pointer (some ⟨j,0,none⟩)] b λg i=>ai [c] b i /\
   ((∃e,kZ f a=.ok e/\g=.returned (.tuple #[])/\dp c e i)\/(∃d,kZ f a=.error d/\fe b d.no d.m g i)):=by
 have t:=li o;have l:=Z (λs=>QE f (n.h (br [] ((Below.refl b.heap.size b).alloc (Y4 _) s)) (by simp)));dsimp only[cq];go_in;go_wp2_with (go_at_call 252;refine(l.b _).mono ?_;rintro g u ⟨k,⟨e,h,rfl,r⟩|⟨d,h,m,p,rfl,q⟩⟩)
 .go_end0;exact⟨((ah _ _).d _).a k,Y8 ⟨e,h,rfl,r⟩⟩
 .exact aq ⟨((ah _ _).d _).a k,Ya ⟨d,h,m,by simp at p;omega,rfl,q⟩⟩
end
section
variable {n:Ad}{m:List Nat}{f:Mar.M}{b:List (Int×Int)}{g:Nat}{e i:World}{h o c:Type}{j l:St}
def cN(g:Nat)(b:List (Int×Int))(e:World):Prop:=e.heap[g]? = some (vw b)
def cN.h(a:cN g b e)(c:ai m e i)(d:g ∉ m):cN g b i:=(c.i _ (aj a) d).trans a
def Ci(b:List (Int×Int)):∀d∈(b.mapIdx λa c=>(⟨.int .i64 c.1,.int .i64 c.2,a⟩:MapEntry)),IsKey (.int .i64) d.key:=by
 intro d e;obtain⟨a,f,rfl⟩:=List.mem_mapIdx.1 e;exact rfl
def LV(m:cN g b e)(k:Int) :
  (k ∉ b.map (·.1)/\(Instr.lookup 149 (.map (some g)) (.int .i64 k) true).run prog e=.ok (.tuple #[.int .i64 0,.bool false]) e)\/
  (∃v,k∈b.map (·.1)/\(Instr.lookup 149 (.map (some g)) (.int .i64 k) true).run prog e=.ok (.tuple #[v,.bool true]) e):=by
 have n:=Ci b;have s:(zeroValue 3).run prog e=.ok (.int .i64 0) e:=by kernel_rfl
 rcases tg (P:=prog) (T:=149) (kt:=2) (et:=3) (d:=.int .i64) (by kernel_rfl) (by kernel_rfl) (k:=.int .i64 k) rfl m (by simpa using n) s true with⟨a,f⟩|⟨i,t,a,f,l⟩
 .refine Y8 ⟨?_,by simpa using f⟩;intro p;obtain⟨j,r,rfl⟩:=YE.1 p;obtain⟨c,o,rfl⟩:=List.getElem_of_mem r;have q:(⟨.int .i64 b[c].1,.int .i64 b[c].2,c⟩:MapEntry)∈(b.mapIdx λc j=>(⟨.int .i64 j.1,.int .i64 j.2,c⟩:MapEntry)).toArray.toList:=by
   simp only[List.toList_toArray];rw[List.mem_mapIdx];exact⟨c,o,rfl⟩
  exact a _ q rfl
 .simp only[List.toList_toArray,List.getElem?_mapIdx]at a;have h:i<b.length:=by
   by_cases h:i<b.length
   .exact h
   .rw[YA (by omega)]at a;cases a
  rw[Yd h]at a;simp at a;subst a;simp at f l;exact Ya ⟨.int .i64 b[i].2,YE.2 ⟨b[i],Yy h,f⟩,l⟩
def cN.bn(c:cN g b e){k:Int}(m:k ∉ b.map (·.1))(v:Int) :
  ∃h,(Instr.mapUpdate 149 (.map (some g)) (.int .i64 k) (.int .i64 v)).run prog e=.ok () (dm e g h)/\cN g (b++[(k,v)]) (dm e g h):=by
 have l:=aj c;have i:=Ci b;have n:=vE (P:=prog) (T:=149) (kt:=2) (et:=3) (d:=.int .i64) (by kernel_rfl) (by kernel_rfl) (k:=.int .i64 k) rfl c (by simpa using i) (by
  intro p f a;simp only[List.toList_toArray]at f;obtain⟨o,j,rfl⟩:=List.mem_mapIdx.1 f;simp at a;exact m (YE.2 ⟨b[o],Yy j,a⟩)) (.int .i64 v)
 refine⟨_,n,?_⟩;unfold cN;rw[ka l];simp[vw,List.mapIdx_append]
def ky(a c:Int)(b:List (Int×Int))(f:Mar.M):Except Mar.M (List (Int×Int)):=if(b.map (·.1)).contains a then .error f else .ok (b++[(a,c)])
def DG(c:Int)(a:Nat)(l:cN g b e) :
  Calls prog 268 #[.map (some g),.int .i64 c,.int .i64 a,.int .i64 a] e λj i=>ai [g] e i /\
   ((∃m k,ky c a b ⟨6,a⟩=.ok m/\j=.returned (.tuple #[])/\i=dm e g k/\cN g m i)\/(∃f,ky c a b ⟨6,a⟩=.error f/\fe e f.no f.m j i)):=by
 rcases LV l c with⟨d,p⟩|⟨v,d,p⟩
 .obtain⟨k,q,o⟩:=l.bn d a;have n:=Z o;have h:U (ky c a b ⟨6,a⟩=.ok (b++[(c,(a:Int))])):=by show _=_;rw[ky,Y2 (by simpa using d)]
  go_in;go_wp2;go_end0;exact⟨gV _ _ _,Y8 ⟨_,k,h.b,rfl,rfl,n.b⟩⟩
 .have h:U (ky c a b ⟨6,a⟩=.error ⟨6,a⟩):=by show _=_;rw[ky,Y9 (by simpa using d)]
  go_in;go_wp2_with (go_at_call 70;refine(gL _ _ _).mono ?_;rintro j i ⟨rfl,rfl⟩);exact aq ⟨(ah _ _).d _,Ya ⟨⟨6,a⟩,h.b,e.heap.size,Y4 _,rfl,aJ rfl⟩⟩
def jf(m:List Nat)(n:Ad)(o:ByteArray)(e:World)(d:Except Mar.M (h×c×St))(k:h->Value)(j:c->World->Prop)(b:Ending)(i:World):Prop:=
 ai m e i/\((∃a g l,d=.ok (a,g,l)/\b=.returned (k a)/\Rd n o l i/\j g i)\/(∃f,d=.error f/\fe e f.no f.m b i))
abbrev PX(c h:Type):=c->St->Except Mar.M (h×c×St)
def lift(b:PM h):PX c h:=λd j=>match b j with
 |.ok (a,l)=>.ok (a,d,l)
 |.error f=>.error f
def av(d:PX c h)(b:h->PX c o):PX c o:=λe j=>match d e j with
 |.ok (a,g,l)=>b a g l
 |.error f=>.error f
def cG(a:h):PX c h:=λb j=>.ok (a,b,j)
def lC(a:c->Except Mar.M c):PX c Unit:=λb j=>match a b with
 |.ok d=>.ok ((),d,j)
 |.error f=>.error f
def aW{b:PM h}{d:c}{a:h}(e:b j=.ok (a,l)):lift b d j=.ok (a,d,l):=by simp only[lift,e]
def ci{a:PM h}{d:c}(b:a j=.error f):lift a d j=.error f:=by simp only[lift,b]
def aE{d:PX c h}{b:h->PX c o}{e f:c}{a:h}(g:d e j=.ok (a,f,l)):av d b e j=b a f l:=by simp only[av,g]
def bl{a:PX c h}{e:h->PX c o}{b:c}(d:a b j=.error f):av a e b j=.error f:=by simp only[av,d]
def rN{a:c->Except Mar.M c}{b d:c}(e:a b=.ok d):lC a b j=.ok ((),d,j):=by simp only[lC,e]
def rM{a:c->Except Mar.M c}{b:c}(d:a b=.error f):lC a b j=.error f:=by simp only[lC,d]
def fR(c:ByteArray)(a:Int->Bool):PX (List (Int×Int)) Int:=av (lift (hG c a)) λg=>av (lC λb=>ky g.1 g.2 b ⟨6,g.2⟩) λ_=>cG g.1
def kS{g:ByteArray}{f:Except Mar.M (h×c×St)}{d:h->Value}{b:c->World->Prop}{a:h}{t:c}{v:Value}
  (o:ai m e i) (p:f=.ok (a,t,l)) (q:v=d a) (j:Rd n g l i) (k:b t i):jf m n g e f d b (.returned v) i:=⟨o,Y8 ⟨a,t,l,p,by rw[q],j,k⟩⟩
def ft{M':List Nat}{q:ByteArray}{w1:World}{b:Except Mar.M (h×c×St)}{g:h->Value}{d:c->World->Prop}{a:Nat}
  (l:ai m e i) (o:ai M' e w1) (p:b=.error f) (j:w1.heap.size<=a) (k:i.heap[a]? = some (.cells #[.int .i64 f.no,.int .i64 f.m] 179)) :
  jf m n q e b g d (.panicked [{ v:=.iface 143 (.pointer (some ⟨a,0,none⟩)),recovered:=false }]) i:=
 ⟨l,Ya ⟨f,p,a,Yz o.F j,rfl,k⟩⟩
end
section
variable {b:Ad}{f:List (Int×Int)}{g:Int->Bool}{c:Nat}{d:World}{e:St}
def cT(b:Ad)(c:Nat):Prop:=c∈b.X/\c≠b.R/\c≠b.S/\c≠b.N/\c≠b.P
def Rd.j2{j:ByteArray}{k:World}{m:Array MapEntry}{l:Nat}(i:Rd b j e d)(q:ai [c] d k)(s:cT b c)(r:d.heap[c]? = some (.map m l)):Rd b j e k:=by
 obtain⟨t,u,w,x,y⟩:=s;have g:∀f v,d.cell? ⟨f,0,none⟩=some v->f≠c:=by
  intro f v h a;subst a;unfold World.cell? at h;rw[r]at h;cases h
 obtain⟨⟨z,n⟩,⟨_,_,o⟩,⟨_,_,p⟩⟩:=id i.gl;exact i.h q (by simpa using t) (by simp;exact λa=>u a.symm) (by simp;exact λa=>w a.symm) (by simp;exact λa=>x a.symm) (by simp;exact λa=>y a.symm) (by simp[g _ _ n]) (by simp[g _ _ o]) (by simp[g _ _ p])
def DZ{a:ByteArray}{v:Value}(f:Rd b a e d)(h:gx b.X v g d) :
  Calls prog 188 #[.pointer (some ⟨b.R,0,none⟩),v] d (dC [b.S] b a d (hG a g e) λc=>.tuple #[.int .i64 c.1,.int .i64 c.2]):=DY f h
def Cc{o:ByteArray}{v:Value}(z:Rd b o e d)(A:gx b.X v g d)(q:cT b c)(B:cN c f d) :
  Calls prog 250 #[.pointer (some ⟨b.R,0,none⟩),.map (some c),v] d (jf [b.S,c] b o d (fR o g f e) hU (cN c)):=by
 have r:=Z (DZ z A);have D:c ∉ [b.S]:=by simp;exact q.2.2.1
 go_in;go_wp2_with fail;refine r.b.mono ?_;rintro x I ⟨l,⟨F,K,h,rfl,E⟩|⟨y,h,w,j,rfl,k⟩⟩;rotate_left
 .exact aq (ft (l.l (by simp)) (ah [] _) (bl (ci h)) j k)
 have p:=B.h l D;have i:=Z (l.l (M':=[b.S,c]) (by simp));go_wp2_with fail;refine(DG _ _ p).mono ?_;rintro x J ⟨m,⟨G,H,n,rfl,rfl,C⟩|⟨y,n,w,j,rfl,k⟩⟩;rotate_left
 .exact aq (ft (i.b.a (m.l (by simp))) i.b ((aE (aW h)).trans (bl (rM n))) j k)
 have u:=Z (E.j2 m q p);have s:=Z (i.b.a (m.l (M':=[b.S,c]) (by simp)));have t:=Z C;go_wp2;go_ret;exact kS (a:=F.1) s.b ((aE (aW h)).trans (aE (rN n))) rfl u.b t.b
def lZ(a:ByteArray):PX (List (Int×Int)) Int:=av (lift (bU a [61])) λ_=>av (fR a (di 0 4294967295)) λb=>av (lift (bU a [59])) λ_=>cG b
def Hs{r:ByteArray}(z:Rd b r e d)(w:cT b c)(D:cN c f d) :
  Calls prog 204 #[.pointer (some ⟨b.R,0,none⟩),.map (some c)] d (jf [b.S,c] b r d (lZ r f e) hU (cN c)):=by
 have x:c ∉ [b.S]:=by simp;exact w.2.2.1
 go_in;go_wp2_with fail;refine(rj _ z).mono ?_;rintro k M ⟨o,⟨a0,a2,i,rfl,y⟩|⟨t,i,s,g,rfl,h⟩⟩;rotate_left
 .exact aq (ft (o.l (by simp)) (ah [] _) (bl (ci i)) g h)
 have E:=D.h o x;have A:=o.l (M':=[b.S,c]) (by simp);go_wp2_with fail;refine(qv _ _ _).mono ?_;rintro k N ⟨v,rfl,n,C⟩;have B:=C b.X y.al;have H:=y.t n;have F:=E.h (br [] n) (by simp);have l:=A.a (br _ n);go_wp2_with fail;refine(Cc H B w F).mono ?_;rintro k O ⟨u,⟨K,L,a3,j,rfl,I,G⟩|⟨t,j,s,g,rfl,h⟩⟩;rotate_left
 .exact aq (ft (l.a u) l ((aE (aW i)).trans (bl j)) g h)
 have m:=l.a u;dsimp only[hU];go_wp2_with fail;refine(rj _ I).mono ?_;rintro k P ⟨p,⟨a1,a4,q,rfl,J⟩|⟨t,q,s,g,rfl,h⟩⟩;rotate_left
 .exact aq (ft (m.a (p.l (by simp))) m ((aE (aW i)).trans ((aE j).trans (bl (ci q)))) g h)
 go_wp2;go_ret;exact kS (a:=K) (m.a (p.l (by simp))) ((aE (aW i)).trans ((aE j).trans (aE (aW q)))) rfl J (G.h p x)
end
section
variable {c:Ad}{w:World}{e:St}{d:Type}
structure cM(d:Type) where
 f:Nat
 d4:Array Value
 d3:Array Value
 M:List Nat
 bs:List (Nat×Obj)
 I:d->World->Prop
 af:Mar.am->PX d Unit
def cM.v(a:cM d):Value:=.func (.func a.f) a.d4 a.d3
structure ig{d:Type}(C:cM d)(c:Ad)(text:ByteArray):Prop where
 e0:∀args W,(callFunc C.f args).run prog W=.ok (.enter C.f args) W
 ca:∀{t:d} {w w':World} {M':List Nat},C.I t w->ai M' w w'->(∀m∈M',m ∉ C.M)->C.I t w'
 f9:c.S ∉ C.M
 fn:∀m∈C.M,m∈c.X
 call:∀{A':Ad} {e:St} {t:d} {W:World} (x:Mar.am),eF A' c->(∀b∈c.X,b∈A'.X)->Rd A' text e W->C.I t W->bm c.X C.bs W->
  Calls prog C.f (C.d4.push (cq x)++C.d3) W (jf C.M A' text W (C.af x t e) oM C.I)
def wi{α:Type}(b a:Nat):PX d α:=λ_ _=>.error ⟨b,a⟩
def name(c:ByteArray)(b:cM d):PX d (List UInt8×Nat):=av (lift (next c)) λa=>if((a.f:Int)==1)then av (b.af a) λ_=>cG (a.text,a.m)else wi 3 a.m
abbrev fQ:List UInt8×Nat->Value:=λa=>.agg #[.string ⟨a.1.toArray⟩,.int .i64 a.2]
def LJ{a:Ad}(f:eF a c){b:ByteArray}(d:Rd a b e w) :
  Calls prog 118 #[.pointer (some ⟨c.S,0,none⟩)] w (dC [c.S] a b w (next b e) cq):=by
 have:=pY d;rw[f.2.1]at this;exact this
def yc{C:cM d}{u:ByteArray}{t:d}(f:ig C c u)(i:Rd c u e w)(b0:C.I t w)(a7:bm c.X C.bs w) :
  Calls prog 185 #[.pointer (some ⟨c.R,0,none⟩),C.v] w (jf (c.S::C.M) c u w (name u C t e) fQ C.I):=by
 obtain⟨c8,c9,d0,d1,d2,d4⟩:=i.r;have d6:=i.K.1;have d7:=i.K.2.1;have b6:w.heap.size ∉ c.S::C.M:=by
  simp only[Yg,not_or];exact⟨by omega,λg=>by have:=i.al _ (f.fn _ g);omega⟩
 have b5:w.heap.size ∉ [c.S]:=by simp;omega
 have G:=aJ (w:=w) (o:=.cells #[.string ⟨#[]⟩,.int .i64 0] 160) rfl;have a3:=i.G (.cells #[.string ⟨#[]⟩,.int .i64 0] 160);have A:=(ah (c.S::C.M) w).d (.cells #[.string ⟨#[]⟩,.int .i64 0] 160);have b1:=f.ca b0 (br [] ((Below.refl w.heap.size w).alloc (Y4 _) (.cells #[.string ⟨#[]⟩,.int .i64 0] 160))) (by simp);have a8:=a7.h (br [] ((Below.refl w.heap.size w).alloc (Y4 _) (.cells #[.string ⟨#[]⟩,.int .i64 0] 160))) (by simp);have d3:=f.e0;show Calls prog 185 #[.pointer (some ⟨c.R,0,none⟩),.func (.func C.f) C.d4 C.d3] w _;go_in;go_wp2_with fail;refine(LJ (eG c _) a3).mono ?_;rintro x h ⟨k,⟨b,e5,l,rfl,b7⟩|⟨F,l,E,y,rfl,z⟩⟩;rotate_left
 .exact aq (ft (A.a (k.l (by simp))) A (bl (ci l)) y z)
 have H:=(k.i _ (aj G) b5).trans G;have j:=A.a (k.l (M':=c.S::C.M) (by simp));have b2:=f.ca b1 k (by simp;exact f.f9);have a9:=a8.h k (by simp;exact i.C.2.1);dsimp only[cq];go_wp2_with (first|(go_at_call 70;refine(gL _ _ _).mono ?_;rintro x d9 ⟨rfl,rfl⟩))
 .have r:((b.f:Int)==1)=false:=by simpa[bne]using ‹((b.kind:Int) != 1)=true›
  refine aq (ft (M':=c.S::C.M) (w1:=h) (f:=⟨3,b.m⟩) ((j.d _).d _) j ((aE (aW l)).trans ?_) (by omega) (aJ (by simp)));rw[r];rfl
 .have r:((b.f:Int)==1)=true:=by simpa[bne]using ‹((b.kind:Int) != 1)=false›
  have q:=(Below.refl h.heap.size h).alloc (Y4 _) (.cells #[.int .i64 b.f,.string ⟨b.text.toArray⟩,.int .i64 b.n,.int .i64 b.m] 154);have J:=aJ (w:=h) (o:=.cells #[.int .i64 b.f,.string ⟨b.text.toArray⟩,.int .i64 b.n,.int .i64 b.m] 154) rfl;have c0:w.heap.size<h.heap.size:=aj H;refine(f.call b (eG c _) (λE a4=>Y5 _ a4) (b7.t q) (f.ca b2 (br [] q) (by simp)) (a9.h (br [] q) (by simp))).mono ?_;rintro x e0 ⟨s,⟨d8,c6,e6,B,rfl,b8,b3⟩|⟨F,B,E,y,rfl,z⟩⟩;rotate_left
  .refine aq (ft (M':=c.S::C.M) (w1:=h) ((j.d _).a (s.l (λc3 g=>Y5 _ g))) j ((aE (aW l)).trans ?_) (by simp at y;omega) z);rw[r];exact bl B
  have c2:h.heap.size ∉ C.M:=λg=>by have:=i.al _ (f.fn _ g);omega
  have K:w.heap.size ∉ C.M:=λg=>b6 (Y5 _ g);have c1:=(s.i _ (aj J) c2).trans J;have a5:=(s.i _ (by simp;omega) K).trans ((q.block _ c0).trans H);have a1:=(j.d (.cells #[.int .i64 b.f,.string ⟨b.text.toArray⟩,.int .i64 b.n,.int .i64 b.m] 154)).a (s.l (M':=c.S::C.M) (λc3 g=>Y5 _ g));obtain⟨e1,e2,e3,e4,_⟩:=iE c1;have N:=Z a1;have D:=Z a5;have L:=Z b3;have O:=Z b8;go_wp2_with fail;refine(yY b _).mono ?_;rintro x c7 ⟨rfl,m⟩;have a6:=(m.block _ (aj D.b)).trans D.b;obtain⟨c4,c5,d5⟩:=kx a6;have a2:=N.b.a (br _ m);have b9:=O.b.t m;have b4:=f.ca L.b (br [] m) (by simp);go_wp2;obtain⟨P,a0⟩:=sT i a2 b9 (.string ⟨b.text.toArray⟩) (.int .i64 b.m);refine bodyPost_ret (v:=.agg #[.string ⟨b.text.toArray⟩,.int .i64 b.m]) (by simp[results,results185,go_sem,c4,c5]) rfl (kS (a:=(b.text,b.m)) (t:=c6) P ((aE (aW l)).trans ?_) rfl a0 ?_)
  .rw[r];exact aE B
  .exact f.ca b4 (((ah [w.heap.size] c7).O (p:=⟨w.heap.size,0,none⟩) (by simp) _).O (p:=⟨w.heap.size,1,none⟩) (by simp) _) (by simpa using K)
end
section
variable {c A':Ad}{l:Obj}{b:Nat}{j n w:World}{g q s:St}{e:Type}
def ig.aa{f:cM e}{text:ByteArray}(a:ig f c text)(b:Nat):ig f (c.aa b) text where
 e0:=a.e0
 ca:=a.ca
 f9:=a.f9
 fn:=λm k=>Y5 _ (a.fn m k)
 call:=λn g h l j i=>a.call n g (λb d=>h b (Y5 _ d)) l j (i.a9 λb d=>Y5 _ d)
structure jF{e:Type}(C:cM e)(c:Ad)(text:ByteArray)(w:World)(l:Obj)(t:e)(g:St)(j:World):Prop where
 k:ai (c.S::C.M) w j
 r:Rd (c.aa w.heap.size) text g j
 i:C.I t j
 h:bm (c.aa w.heap.size).X C.bs j
 d:j.heap[w.heap.size]? = some l
def wy{a:cM e}{b:ByteArray}{f:e}(j:ig a c b)(h:Rd c b g w)(n:a.I f w)(m:bm c.X a.bs w)(l:Obj) :
  jF a c b w l f g (w.alloc l) where
 k:=(ah _ w).d l
 r:=h.G l
 i:=j.ca n (br [] ((Below.refl w.heap.size w).alloc (Y4 _) l)) (by simp)
 h:=(m.aa (Y4 _)).h (br [] ((Below.refl w.heap.size w).alloc (Y4 _) l)) (by simp)
 d:=aJ rfl
def jF.bd{m:cM e}{b:ByteArray}{t:e}(a:jF m c b w l t g j)(p:ig m c b)(o:Rd c b s w)(f:ai [c.S] j n)(u:Rd (c.aa w.heap.size) b q n) :
  jF m c b w l t q n where
 k:=a.k.a (f.l (by simp))
 r:=u
 i:=p.ca a.i f (by simp;exact p.f9)
 h:=a.h.h f (by simp;exact Y5 _ o.C.2.1)
 d:=(f.i _ (aj a.d) (by have:=o.K.2.1;simp;omega)).trans a.d
def jF.f7{f:cM e}{m:ByteArray}{z v:e}(o:jF f c m w l z g j)(u:ig f c m)(p:Rd c m s w)(t:ai (c.S::f.M) j n)(y:Rd (c.aa w.heap.size) m q n)(x:f.I v n) :
  jF f c m w l v q n where
 k:=o.k.a t
 r:=y
 i:=x
 h:=o.h.h t (λb a=>by
  rcases Yg.1 a with rfl|a
  .exact Y5 _ p.C.2.1
  .exact Y5 _ (u.fn b a))
 d:=(t.i _ (aj o.d) (λa=>by
  rcases Yg.1 a with A|a
  .have:=p.K.2.1;omega
  .have:=p.al _ (u.fn _ a);omega)).trans o.d
def jF.t{b:cM e}{f:ByteArray}{o:e}(m:jF b c f w l o g j)(p:ig b c f)(a:Below j.heap.size j n):jF b c f w l o g n where
 k:=m.k.a (br _ a)
 r:=m.r.t a
 i:=p.ca m.i (br [] a) (by simp)
 h:=m.h.h (br [] a) (by simp)
 d:=(a.block _ (aj m.d)).trans m.d
def vb{a:cM e}{d:ByteArray}{h:e}(j:ig a c d)(i:Rd (c.aa b) d g w)(l:a.I h w)(k:bm (c.aa b).X a.bs w) :
  Calls prog 185 #[.pointer (some ⟨c.R,0,none⟩),.func (.func a.f) a.d4 a.d3] w (jf (c.S::a.M) (c.aa b) d w (name d a h g) fQ a.I):=yc (j.aa b) i l k
def wQ(b:eF A' c){a:ByteArray}(d:Rd A' a g w) :
  Calls prog 247 #[.pointer (some ⟨c.R,0,none⟩)] w (dC [c.S] A' a w (jM a g) mQ):=by
 have:=FT d;rw[b.1,b.2.1]at this;exact this
def Rs(b:eF A' c){a:ByteArray}(d:Rd A' a g w) :
  Calls prog 249 #[.pointer (some ⟨c.R,0,none⟩)] w (dC [c.S] A' a w (kf a g) bW):=by
 have:=DS d;rw[b.1,b.2.1]at this;exact this
def vQ(d:eF A' c){b:ByteArray}(a:ByteArray)(e:Rd A' b g w) :
  Calls prog 198 #[.pointer (some ⟨c.R,0,none⟩),.string a] w (dC [c.S] A' b w (gc b a.data.toList g) .bool):=by
 have:=CN a e;rw[d.1,d.2.1]at this;exact this
abbrev iN:aF->Value:=λa=>.agg #[.string ⟨a.t.toArray⟩,.int .i64 a.m,bW a.k]
def og(c:ByteArray)(a:List UInt8×Nat)(d:Ty):PX e aF:=av (lift (jM c)) λb=>cG ⟨a.1,a.2,.arr d b.1 b.2⟩
def pA(c:ByteArray)(a:List UInt8×Nat)(b:Ty)(d:Bool):PX e aF:=if d then og c a b else cG ⟨a.1,a.2,b⟩
def pz(a:ByteArray)(b:List UInt8×Nat)(c:Ty)(d:Bool):PX e aF:=if d then og a b c else av (lift (gc a [60])) (pA a b c)
def oe(a:ByteArray)(c:Ty)(b:List UInt8×Nat):PX e aF:=av (lift (gc a [91])) (pz a b c)
def rc(a:ByteArray)(b:cM e)(d:Ty)(f:Bool):PX e aF:=if f then av (name a b) λc=>cG ⟨c.1,c.2,.opt d⟩else av (name a b) (oe a d)
def py(a:ByteArray)(b:cM e)(c:Ty):PX e aF:=av (lift (cZ a [42])) (rc a b c)
def mU(a:ByteArray)(b:cM e)(f:Bool):PX e aF:=
 if f then av (name a b) λc=>av (lift (nh a)) λd=>cG ⟨c.1,c.2,.str d.1 d.2⟩else av (lift (kf a)) (py a b)
def od(a:ByteArray)(b:cM e)(f:Bool):PX e aF:=
 if f then av (name a b) λc=>av (lift (jM a)) λd=>cG ⟨c.1,c.2,.opaq d.1 d.2⟩else av (lift (cZ a [115,116,114,105,110,103])) (mU a b)
def dY(a:ByteArray)(b:cM e):PX e aF:=av (lift (cZ a [111,112,97,113,117,101])) (od a b)
def oi{a:ByteArray}{e:List Nat}(f:Rd c a s w)(k:ai e w j)(l:Rd (c.aa w.heap.size) a q j)(g h i:Value) :
  ai e w (((j.setCell ⟨w.heap.size,0,none⟩ g).setCell ⟨w.heap.size,1,none⟩ h).setCell ⟨w.heap.size,2,none⟩ i)/\Rd c a q (((j.setCell ⟨w.heap.size,0,none⟩ g).setCell ⟨w.heap.size,1,none⟩ h).setCell ⟨w.heap.size,2,none⟩ i):=by
 refine⟨((k.bs (Y4 _) _).bs (Y4 _) _).bs (Y4 _) _,pi (b:=w.heap.size) f.C ?_⟩;have d:=λ{j:World} (m:Rd (c.aa w.heap.size) a q j) (n:Nat) (v:Value)=>qN (A':=c.aa w.heap.size) f ⟨rfl,rfl,rfl,rfl⟩ m (p:=⟨w.heap.size,n,none⟩) (Y4 _) (by simp[Ad.aa]) v;exact d (d (d l 0 _) 1 _) 2 _
def dS{c d a:Value}{e:TypeId}(f:w.heap[b]? = some (.cells #[c,d,a] e)) :
  w.cell? ⟨b,0,none⟩=some c/\w.cell? ⟨b,1,none⟩=some d/\w.cell? ⟨b,2,none⟩=some a/\∀g,w.frozen? ⟨b,g,none⟩=false:=by
 refine⟨?_,?_,?_,?_⟩<;>simp[World.cell?,World.frozen?,f]
def nC{a:cM e}{i:ByteArray}{d:e}(f:ig a c i)(g:b ∉ a.M)(h:a.I d j)(k l m:Value) :
  a.I d (((j.setCell ⟨b,0,none⟩ k).setCell ⟨b,1,none⟩ l).setCell ⟨b,2,none⟩ m):=
 f.ca h ((((ah [b] j).O (p:=⟨b,0,none⟩) (by simp) _).O (p:=⟨b,1,none⟩) (by simp) _).O (p:=⟨b,2,none⟩) (by simp) _) (by simpa using g)
def Al{C:cM e}{l:ByteArray}{t:e}(m:ig C c l)(q:Rd c l g w)(g8:C.I t w)(g7:bm c.X C.bs w) :
  Calls prog 191 #[.pointer (some ⟨c.R,0,none⟩),.func (.func C.f) C.d4 C.d3] w (jf (c.S::C.M) c l w (dY l C t g) iN C.I):=by
 have b8:w.heap.size ∉ C.M:=λg9=>by have:=q.al _ (m.fn _ g9);omega
 have d1:=wy m q g8 g7 (.cells #[.string ⟨#[]⟩,.int .i64 0,.nilIface] 242);go_in;go_wp2_with fail;refine(mN (eG c _) _ d1.r).mono ?_;rintro E h6 ⟨e9,⟨g0,h4,d9,rfl,h0⟩|⟨F,d9,b,n,rfl,p⟩⟩;rotate_left
 .exact aq (ft (d1.k.a (e9.l (by simp))) d1.k (bl (ci d9)) n p)
 have a4:=d1.bd m q e9 h0;have c6:U (dY l C t g=od l C g0 t h4):=aE (aW d9);cases g0 with
 |true=>
  go_wp2_with fail;refine(vb m a4.r a4.i a4.h).mono ?_;rintro E J ⟨c4,⟨f,f5,e5,b4,rfl,d7,b3⟩|⟨F,b4,b,n,rfl,p⟩⟩;rotate_left
  .exact aq (ft (a4.k.a c4) a4.k (c6.b.trans (bl b4)) n p)
  have D:=a4.f7 m q c4 d7 b3;have a9:U (dY l C t g=av (lift (jM l)) (λj=>cG ⟨f.1,f.2,.opaq j.1 j.2⟩) f5 e5):=c6.b.trans (aE b4);dsimp only[fQ];go_wp2_with fail;have a5:=D.t m (((Below.refl J.heap.size J).alloc (Y4 _) (.cells #[.string ⟨f.1.toArray⟩,.int .i64 f.2] 160)).drew);have d8:=aJ (w:=J) (o:=.cells #[.string ⟨f.1.toArray⟩,.int .i64 f.2] 160) rfl;obtain⟨a7,a8,_⟩:=kx d8;have d5:=Z a7;have d6:=Z a8;have x:=Z a5;have e8:c.S<J.heap.size:=by have:=q.K.2.1;have:=D.k.F;omega
  have f4:w.heap.size<J.heap.size:=aj D.d;have f2:¬w.heap.size=J.heap.size:=by omega
  have f3:¬J.heap.size=w.heap.size:=by omega
  have K:=Z m;have b0:=Z q;go_region_held2 (λa2=>a2.cell? ⟨J.heap.size,0,none⟩=some (.string ⟨f.1.toArray⟩)/\a2.cell? ⟨J.heap.size,1,none⟩=some (.int .i64 f.2)) (go_keep)
   (first|(go_at_call 247;refine(wQ (eG c _) x.b.r).mono ?_;rintro E G ⟨h,⟨j,d3,d0,rfl,s⟩|⟨F,d0,b,n,rfl,p⟩⟩;rotate_left;exact aq (ft (x.b.k.a (h.l (by simp))) x.b.k (a9.b.trans (bl (ci d0))) n p);dsimp only[mQ];have y:=x.b.bd K.b b0.b h s;obtain⟨P,a0,a1,c3⟩:=dS y.d;have e3:=h.cb (b:=J.heap.size) (by simp;omega) d5.b;have e4:=h.cb (b:=J.heap.size) (by simp;omega) d6.b;have z:=Z y;have b2:=Z d0;clear y h d0 s))
  go_wp2;obtain⟨L,N⟩:=oi q z.b.k z.b.r (.string ⟨f.1.toArray⟩) (.int .i64 f.2) (bW (.opaq j.1 j.2));refine bodyPost_ret (v:=.agg #[.string ⟨f.1.toArray⟩,.int .i64 f.2,.iface 377 (.agg #[.int .i64 j.1,.bool j.2])]) (by simp[results,results191,go_sem,P,a0,a1]) rfl (kS (a:=⟨f.1,f.2,.opaq j.1 j.2⟩) (t:=f5) L (a9.b.trans (aE (aW b2.b))) rfl N ?_)
  exact nC K.b b8 z.b.i _ _ _
 |false=>
  go_wp2_with fail;refine(mN (eG c _) _ a4.r).mono ?_;rintro E J ⟨c4,⟨g1,e5,b4,rfl,d7⟩|⟨F,b4,b,n,rfl,p⟩⟩;rotate_left
  .exact aq (ft (a4.k.a (c4.l (by simp))) a4.k (c6.b.trans (bl (ci b4))) n p)
  have D:=a4.bd m q c4 d7;have a9:U (dY l C t g=mU l C g1 t e5):=c6.b.trans (aE (aW b4));cases g1 with
  |true=>
   go_wp2_with fail;refine(vb m D.r D.i D.h).mono ?_;rintro E G ⟨h,⟨f,f6,d3,b5,rfl,s,b3⟩|⟨F,b5,b,n,rfl,p⟩⟩;rotate_left
   .exact aq (ft (D.k.a h) D.k (a9.b.trans (bl b5)) n p)
   have a5:=D.f7 m q h s b3;dsimp only[fQ];have c0:U (dY l C t g=av (lift (nh l)) (λj=>cG ⟨f.1,f.2,.str j.1 j.2⟩) f6 d3):=a9.b.trans (aE b5);go_wp2_with fail;have b7:=a5.t m (((Below.refl G.heap.size G).alloc (Y4 _) (.cells #[.string ⟨f.1.toArray⟩,.int .i64 f.2] 160)).drew);have d8:=aJ (w:=G) (o:=.cells #[.string ⟨f.1.toArray⟩,.int .i64 f.2] 160) rfl;obtain⟨a7,a8,_⟩:=kx d8;have d5:=Z a7;have d6:=Z a8;have x:=Z b7;have e8:c.S<G.heap.size:=by have:=q.K.2.1;have:=a5.k.F;omega
   have f4:w.heap.size<G.heap.size:=aj a5.d;have f2:¬w.heap.size=G.heap.size:=by omega
   have f3:¬G.heap.size=w.heap.size:=by omega
   have K:=Z m;have b0:=Z q;go_region_held2 (λa2=>a2.cell? ⟨G.heap.size,0,none⟩=some (.string ⟨f.1.toArray⟩)/\a2.cell? ⟨G.heap.size,1,none⟩=some (.int .i64 f.2)) (go_keep)
    (first|(go_at_call 248;refine(BN (eG c _) x.b.r).mono ?_;rintro E f9 ⟨h,⟨j,g6,B,rfl,s⟩|⟨F,B,b,n,rfl,p⟩⟩;rotate_left;exact aq (ft (x.b.k.a (h.l (by simp))) x.b.k (c0.b.trans (bl (ci B))) n p);dsimp only[mQ];have O:=x.b.bd K.b b0.b h s;obtain⟨P,a0,a1,c3⟩:=dS O.d;have e3:=h.cb (b:=G.heap.size) (by simp;omega) d5.b;have e4:=h.cb (b:=G.heap.size) (by simp;omega) d6.b;have z:=Z O;have b2:=Z B;clear O h B s))
   go_wp2;obtain⟨L,N⟩:=oi q z.b.k z.b.r (.string ⟨f.1.toArray⟩) (.int .i64 f.2) (bW (.str j.1 j.2));refine bodyPost_ret (v:=.agg #[.string ⟨f.1.toArray⟩,.int .i64 f.2,.iface 380 (.agg #[.int .i64 j.1,.bool j.2])]) (by simp[results,results191,go_sem,P,a0,a1]) rfl (kS (a:=⟨f.1,f.2,.str j.1 j.2⟩) (t:=f6) L (c0.b.trans (aE (aW b2.b))) rfl N ?_)
   exact nC K.b b8 z.b.i _ _ _
  |false=>
   go_wp2_with fail;refine(Rs (eG c _) D.r).mono ?_;rintro E G ⟨f0,⟨A,d3,b5,rfl,h1⟩|⟨F,b5,b,n,rfl,p⟩⟩;rotate_left
   .exact aq (ft (D.k.a (f0.l (by simp))) D.k (a9.b.trans (bl (ci b5))) n p)
   have a5:=D.bd m q f0 h1;have c0:U (dY l C t g=py l C A t d3):=a9.b.trans (aE (aW b5));obtain⟨a3,a6,c2⟩:∃a3 a6,U (bW A=.iface a3 a6):=by cases A<;>exact⟨_,_,rfl⟩
   rw[c2.b];go_wp2_with fail;refine(mN (eG c _) _ a5.r).mono ?_;rintro E h7 ⟨f1,⟨g2,h5,e0,rfl,h2⟩|⟨F,e0,b,n,rfl,p⟩⟩;rotate_left
   .exact aq (ft (a5.k.a (f1.l (by simp))) a5.k (c0.b.trans (bl (ci e0))) n p)
   have y:=a5.bd m q f1 h2;have c7:U (dY l C t g=rc l C A g2 t h5):=c0.b.trans (aE (aW e0));cases g2 with
   |true=>
    go_wp2_with fail;refine(vb m y.r y.i y.h).mono ?_;rintro E u ⟨h,⟨f,H,e6,b6,rfl,s,b3⟩|⟨F,b6,b,n,rfl,p⟩⟩;rotate_left
    .exact aq (ft (y.k.a h) y.k (c7.b.trans (bl b6)) n p)
    have b9:=y.f7 m q h s b3;dsimp only[fQ];have c8:U (dY l C t g=cG ⟨f.1,f.2,.opt A⟩ H e6):=c7.b.trans (aE b6);obtain⟨P,a0,a1,c3⟩:=dS b9.d;have b1:=Z b9;go_wp2;obtain⟨L,N⟩:=oi q b1.b.k b1.b.r (.string ⟨f.1.toArray⟩) (.int .i64 f.2) (.iface 385 (.agg #[.iface a3 a6]))
    refine bodyPost_ret (v:=.agg #[.string ⟨f.1.toArray⟩,.int .i64 f.2,.iface 385 (.agg #[.iface a3 a6])]) (by simp[results,results191,go_sem,P,a0,a1]) rfl (kS (a:=⟨f.1,f.2,.opt A⟩) (t:=H) L (c8.b.trans rfl) (by simp only[iN,bW,c2.b]) N ?_)
    exact nC m b8 b1.b.i _ _ _
   |false=>
    go_wp2_with fail;refine(vb m y.r y.i y.h).mono ?_;rintro E u ⟨h,⟨f,H,e6,b6,rfl,s,b3⟩|⟨F,b6,b,n,rfl,p⟩⟩;rotate_left
    .exact aq (ft (y.k.a h) y.k (c7.b.trans (bl b6)) n p)
    have b9:=y.f7 m q h s b3;dsimp only[fQ];have c8:U (dY l C t g=oe l A f H e6):=c7.b.trans (aE b6);have e8:c.S<u.heap.size:=by have:=q.K.2.1;have:=b9.k.F;omega
    have f4:w.heap.size<u.heap.size:=aj b9.d;have f2:¬w.heap.size=u.heap.size:=by omega
    have f3:¬u.heap.size=w.heap.size:=by omega
    have d2:=b9.t m ((Below.refl u.heap.size u).alloc (Y4 _) (.cells #[.string ⟨f.1.toArray⟩,.int .i64 f.2] 160));obtain⟨a7,a8,_⟩:=kx (aJ (w:=u) (o:=.cells #[.string ⟨f.1.toArray⟩,.int .i64 f.2] 160) rfl);go_wp2_with fail;refine(vQ (eG c _) _ d2.r).mono ?_;rintro E f7 ⟨h,⟨g3,g5,e1,rfl,s⟩|⟨F,e1,b,n,rfl,p⟩⟩;rotate_left
    .exact aq (ft (d2.k.a (h.l (by simp))) d2.k (c8.b.trans (bl (ci e1))) n p)
    have c5:=d2.bd m q h s;have a7:=h.cb (b:=u.heap.size) (by simp;omega) a7;have a8:=h.cb (b:=u.heap.size) (by simp;omega) a8;have d4:U (dY l C t g=pz l f A g3 H g5):=c8.b.trans (aE (aW e1));cases g3 with
    |true=>
     have c1:U (dY l C t g=av (lift (jM l)) (λj=>cG ⟨f.1,f.2,.arr A j.1 j.2⟩) H g5):=d4.b;go_wp2_with fail;have b7:=c5.t m ((Below.refl f7.heap.size f7).drew);have x:=Z b7;have K:=Z m;have b0:=Z q;go_region_held2 (λa2=>a2.cell? ⟨u.heap.size,0,none⟩=some (.string ⟨f.1.toArray⟩)/\a2.cell? ⟨u.heap.size,1,none⟩=some (.int .i64 f.2)) (go_keep)
      (first|(go_at_call 247;refine(wQ (eG c _) x.b.r).mono ?_;rintro E f9 ⟨h,⟨j,g6,B,rfl,s⟩|⟨F,B,b,n,rfl,p⟩⟩;rotate_left;exact aq (ft (x.b.k.a (h.l (by simp))) x.b.k (c1.b.trans (bl (ci B))) n p);dsimp only[mQ];have O:=x.b.bd K.b b0.b h s;obtain⟨P,a0,a1,c3⟩:=dS O.d;have e3:=h.cb (b:=u.heap.size) (by simp;omega) a7;have e4:=h.cb (b:=u.heap.size) (by simp;omega) a8;have z:=Z O;have b2:=Z B;clear O h B s))
     go_wp2;obtain⟨L,N⟩:=oi q z.b.k z.b.r (.string ⟨f.1.toArray⟩) (.int .i64 f.2) (.iface 382 (.agg #[.iface a3 a6,.int .i64 j.1,.bool j.2]))
     refine bodyPost_ret (v:=.agg #[.string ⟨f.1.toArray⟩,.int .i64 f.2,.iface 382 (.agg #[.iface a3 a6,.int .i64 j.1,.bool j.2])]) (by simp[results,results191,go_sem,P,a0,a1]) rfl (kS (a:=⟨f.1,f.2,.arr A j.1 j.2⟩) (t:=H) L (c1.b.trans (aE (aW b2.b))) (by simp only[iN,bW,c2.b]) N ?_)
     exact nC K.b b8 z.b.i _ _ _
    |false=>
     go_wp2_with fail;refine(vQ (eG c _) _ c5.r).mono ?_;rintro E f8 ⟨h,⟨g4,e7,e2,rfl,s⟩|⟨F,e2,b,n,rfl,p⟩⟩;rotate_left
     .exact aq (ft (c5.k.a (h.l (by simp))) c5.k (d4.b.trans (bl (ci e2))) n p)
     have b7:=c5.bd m q h s;have a7:=h.cb (b:=u.heap.size) (by simp;omega) a7;have a8:=h.cb (b:=u.heap.size) (by simp;omega) a8;have c1:U (dY l C t g=pA l f A g4 H e7):=d4.b.trans (aE (aW e2));cases g4 with
     |true=>
      have c9:U (dY l C t g=av (lift (jM l)) (λj=>cG ⟨f.1,f.2,.arr A j.1 j.2⟩) H e7):=c1.b;go_wp2_with fail;have h3:=b7.t m ((Below.refl f8.heap.size f8).drew);have x:=Z h3;have K:=Z m;have b0:=Z q;go_region_held2 (λa2=>a2.cell? ⟨u.heap.size,0,none⟩=some (.string ⟨f.1.toArray⟩)/\a2.cell? ⟨u.heap.size,1,none⟩=some (.int .i64 f.2)) (go_keep)
       (first|(go_at_call 247;refine(wQ (eG c _) x.b.r).mono ?_;rintro E f9 ⟨h,⟨j,g6,B,rfl,s⟩|⟨F,B,b,n,rfl,p⟩⟩;rotate_left;exact aq (ft (x.b.k.a (h.l (by simp))) x.b.k (c9.b.trans (bl (ci B))) n p);dsimp only[mQ];have O:=x.b.bd K.b b0.b h s;obtain⟨P,a0,a1,c3⟩:=dS O.d;have e3:=h.cb (b:=u.heap.size) (by simp;omega) a7;have e4:=h.cb (b:=u.heap.size) (by simp;omega) a8;have z:=Z O;have b2:=Z B;clear O h B s))
      go_wp2;obtain⟨L,N⟩:=oi q z.b.k z.b.r (.string ⟨f.1.toArray⟩) (.int .i64 f.2) (.iface 382 (.agg #[.iface a3 a6,.int .i64 j.1,.bool j.2]))
      refine bodyPost_ret (v:=.agg #[.string ⟨f.1.toArray⟩,.int .i64 f.2,.iface 382 (.agg #[.iface a3 a6,.int .i64 j.1,.bool j.2])]) (by simp[results,results191,go_sem,P,a0,a1]) rfl (kS (a:=⟨f.1,f.2,.arr A j.1 j.2⟩) (t:=H) L (c9.b.trans (aE (aW b2.b))) (by simp only[iN,bW,c2.b]) N ?_)
      exact nC K.b b8 z.b.i _ _ _
     |false=>
      have c9:U (dY l C t g=cG ⟨f.1,f.2,A⟩ H e7):=c1.b;obtain⟨P,a0,a1,c3⟩:=dS b7.d;have b1:=Z b7;go_wp2;obtain⟨L,N⟩:=oi q b1.b.k b1.b.r (.string ⟨f.1.toArray⟩) (.int .i64 f.2) (.iface a3 a6)
      refine bodyPost_ret (v:=.agg #[.string ⟨f.1.toArray⟩,.int .i64 f.2,.iface a3 a6]) (by simp[results,results191,go_sem,P,a0,a1]) rfl (kS (a:=⟨f.1,f.2,A⟩) (t:=H) L (c9.b.trans rfl) (by simp only[iN,c2.b]) N ?_)
      exact nC m b8 b1.b.i _ _ _
end
def fM(a:Ad):cM Unit where
 f:=186
 d4:=#[.pointer (some ⟨a.R,0,none⟩)]
 d3:=#[]
 M:=[a.N]
 bs:=[]
 I:=λ_ _=>True
 af:=λb=>lift (fZ b)
def Hg(args:Array Value)(a:World):(callFunc 186 args).run prog a=.ok (.enter 186 args) a:=by kernel_rfl
def FA(args:Array Value)(a:World):(callFunc 251 args).run prog a=.ok (.enter 251 args) a:=by kernel_rfl
def Ab{a:Ad}{c:ByteArray}{s:St}{p:World}(d:Rd a c s p):ig (fM a) a c where
 e0:=Hg
 ca:=λ_ _ _=>trivial
 f9:=by simp[fM];exact d.bg.2.2.2.1
 fn:=by simp[fM];exact d.C.2.2.1
 call:=by
  intro h q o i g e _ l _ _;have:=Hf g l;rw[e.1,e.2.2.1]at this;refine Calls.mono (R:=dC [a.N] h c i (fZ g q) oM) this ?_;rintro t u ⟨f,⟨j,r,b,rfl,m⟩|⟨k,b,n⟩⟩
  .exact⟨f,Y8 ⟨j,o,r,aW b,rfl,m,trivial⟩⟩
  .exact⟨f,Ya ⟨k,ci b,n⟩⟩
def aS(a b:Nat):cM (List (List UInt8)) where
 f:=251
 d4:=#[]
 d3:=#[.pointer (some ⟨b,0,none⟩)]
 M:=[a]
 bs:=[(b,.cells #[.map (some a)] 103)]
 I:=dp a
 af:=λc=>lC (kZ c)
def wZ{h:Ad}{u:ByteArray}{c bx:Nat}(a:cT h c):ig (aS c bx) h u where
 e0:=FA
 ca:=λe b f=>e.h b (λa=>f _ a (by simp[aS]))
 f9:=by simp[aS];exact λi=>a.2.2.1 i.symm
 fn:=by simp[aS];exact a.1
 call:=by
  intro j w x k v d m q e p;have n:k.cell? ⟨bx,0,none⟩=some (.map (some c)):=by
   have:=(p (bx,.cells #[.map (some c)] 103) (by simp[aS])).1;simp at this;simp[World.cell?,this]
  refine Calls.mono (Fy v e n) ?_;have o:cT j c:=⟨m _ a.1,by rw[d.1];exact a.2.1,by rw[d.2.1];exact a.2.2.1,by rw[d.2.2.1];exact a.2.2.2.1,by rw[d.2.2.2];exact a.2.2.2.2⟩;rintro i z ⟨b,⟨t,g,rfl,r⟩|⟨l,g,s⟩⟩
  .obtain⟨_,y,_,f⟩:=id e;exact⟨b,Y8 ⟨(),t,w,rN g,rfl,q.j2 b o f,r⟩⟩
  .exact⟨b,Ya ⟨l,rM g,s⟩⟩
section
variable {a:Ad}{b:Mar.M}{w:World}{d:Type}{c:St}
def hP(e:PX Unit d):PM d:=λc=>match e () c with
 |.ok (a,_,f)=>.ok (a,f)
 |.error b=>.error b
def wM{b:PX Unit d}{e:St}{a:d}{u:Unit}(f:b () c=.ok (a,u,e)):hP b c=.ok (a,e):=by simp only[hP,f]
def wK{a:PX Unit d}(e:a () c=.error b):hP a c=.error b:=by simp only[hP,e]
def mh:Ad:=⟨0,0,0,0,[]⟩
def lX(a:ByteArray):PM aF:=hP (dY a (fM mh))
def gp(a:ByteArray):PM (List UInt8×Nat):=hP (name a (fM mh))
def fV(j:List Nat)(a:Ad)(k:ByteArray)(w:World)(h:Except Mar.M (ao×St))(g:Ending)(c:World):Prop:=
 ai j w c/\((∃f i d e,h=.ok (f,i)/\g=.returned (.pointer (some ⟨d,0,none⟩))/\Rd a k i c/\dw e d f/\bm a.X e c)\/(∃b,h=.error b/\fe w b.no b.m g c))
def dx{e M':List Nat}{l:ByteArray}{w1 d:World}{f:Except Mar.M (ao×St)}{c:Nat}
  (i:ai e w d) (j:ai M' w w1) (k:f=.error b) (g:w1.heap.size<=c) (h:d.heap[c]? = some (.cells #[.int .i64 b.no,.int .i64 b.m] 179)) :
  fV e a l w f (.panicked [{ v:=.iface 143 (.pointer (some ⟨c,0,none⟩)),recovered:=false }]) d:=
 ⟨i,Ya ⟨b,k,c,Yz j.F g,rfl,h⟩⟩
def GM{e:ByteArray}(f:Rd a e c w) :
  Calls prog 191 #[.pointer (some ⟨a.R,0,none⟩),.func (.func 186) #[.pointer (some ⟨a.R,0,none⟩)] #[]] w (dC [a.S,a.N] a e w (lX e c) iN):=by
 refine Calls.mono (Al (C:=fM a) (t:=()) (Ab f) f trivial (λo j=>by simp[fM]at j)) ?_;rintro n p ⟨g,⟨i,h,m,d,rfl,k,_⟩|⟨b,d,l⟩⟩
 .exact⟨g,Y8 ⟨i,m,wM (u:=h) d,rfl,k⟩⟩
 .exact⟨g,Ya ⟨b,wK d,l⟩⟩
def tp{e:ByteArray}(f:Rd a e c w) :
  Calls prog 185 #[.pointer (some ⟨a.R,0,none⟩),.func (.func 186) #[.pointer (some ⟨a.R,0,none⟩)] #[]] w (dC [a.S,a.N] a e w (gp e c) fQ):=by
 refine Calls.mono (yc (C:=fM a) (t:=()) (Ab f) f trivial (λo j=>by simp[fM]at j)) ?_;rintro n p ⟨g,⟨i,h,m,d,rfl,k,_⟩|⟨b,d,l⟩⟩
 .exact⟨g,Y8 ⟨i,m,wM (u:=h) d,rfl,k⟩⟩
 .exact⟨g,Ya ⟨b,wK d,l⟩⟩
def iC(a:ByteArray)(b:Nat):PM ao:=au (iy b) λ_=>au (lX a) λc=>au (bU a [59]) λ_=>bS (.typedef c)
def Rw{s:ByteArray}(l:Nat)(D:Rd a s c w) :
  Calls prog 120 #[.pointer (some ⟨a.R,0,none⟩),.int .i64 l] w (fV [a.R,a.S,a.N] a s w (iC s l c)):=by
 have L:=jq;go_in;go_wp2_with fail;refine(vj l D).mono ?_;rintro x P ⟨y,⟨O,a2,h,rfl,H⟩|⟨b,h,v,f,rfl,g⟩⟩;rotate_left
 .exact aq (dx (y.l (by simp)) (ah [] _) (bj h) f g)
 have m:=y.l (M':=[a.R,a.S,a.N]) (by simp);go_wp2_with fail;refine(GM H).mono ?_;rintro x j ⟨z,⟨d,a3,k,rfl,q⟩|⟨b,k,v,f,rfl,g⟩⟩;rotate_left
 .exact aq (dx (m.a (z.l (by simp))) m ((as h).trans (bj k)) f g)
 have n:=m.a (z.l (M':=[a.R,a.S,a.N]) (by simp));obtain⟨e,i,u⟩:∃e i,U (bW d.k=.iface e i):=by cases d.k<;>exact⟨_,_,rfl⟩
 dsimp only[iN];rw[u.b];have F:=(Below.refl j.heap.size j).alloc (Y4 _) (.cells #[.string ⟨d.t.toArray⟩,.int .i64 d.m,.iface e i] 244)
 have B:=aJ (w:=j) (o:=.cells #[.string ⟨d.t.toArray⟩,.int .i64 d.m,.iface e i] 244) rfl
 have I:=q.t F;have E:=q.al;go_wp2_with fail;refine(rj _ I).mono ?_;rintro x a0 ⟨p,⟨a1,K,r,rfl,J⟩|⟨b,r,v,f,rfl,g⟩⟩;rotate_left
 .exact aq (dx ((n.d _).a (p.l (by simp))) (n.d _) ((as h).trans ((as k).trans (bj r))) f g)
 have C:=Z ((p.i _ (aj B) (by have:=q.K.2.1;simp;omega)).trans B);go_wp2;go_ret;refine⟨(n.d _).a (p.l (by simp)),Y8 ⟨.typedef d,K,j.heap.size,[(j.heap.size,.cells #[.string ⟨d.t.toArray⟩,.int .i64 d.m,.iface e i] 244)],(as h).trans ((as k).trans (as r)),rfl,J,?_,?_⟩⟩
 .show _∈_;simp only[hk,u.b,Yc]
 .intro M A;simp only[Yc]at A;subst A;exact⟨C.b,λG=>by have:=E _ G;simp at this⟩
end
def iv(a:ByteArray)(c:Nat):PM ao:=au (ix c) λ_=>au (gp a) λb=>au (bU a [61]) λ_=>
 au (hG a (di (-2147483648) 4294967295)) λd=>au (bU a [59]) λ_=>bS (.const b.1 b.2 d.1)
def GC{a:Ad}{D:ByteArray}{a0:St}(q:Nat){w:World}(a2:Rd a D a0 w) :
  Calls prog 119 #[.pointer (some ⟨a.R,0,none⟩),.int .i64 q] w (fV [a.R,a.S,a.N] a D w (iv D q a0)):=by
 have b9:=jq;go_in;go_wp2_with fail;refine(BV q a2).mono ?_;rintro h c4 ⟨G,⟨c3,d1,f,rfl,a9⟩|⟨n,f,m,c,rfl,d⟩⟩;rotate_left
 .exact aq (dx (G.l (by simp)) (ah [] _) (bj f) c d)
 have r:=G.l (M':=[a.R,a.S,a.N]) (by simp);go_wp2_with fail;refine(tp a9).mono ?_;rintro h e ⟨H,⟨b,d2,g,rfl,j⟩|⟨n,g,m,c,rfl,d⟩⟩;rotate_left
 .exact aq (dx (r.a (H.l (by simp))) r ((as f).trans (bj g)) c d)
 have F:=r.a (H.l (M':=[a.R,a.S,a.N]) (by simp));dsimp only[fQ];have a5:=j.al;have b8:=j.K.2.1;have b0:=j.G (.cells #[.string ⟨b.1.toArray⟩,.int .i64 b.2,.int .i64 0] 343);have K:=aJ (w:=e) (o:=.cells #[.string ⟨b.1.toArray⟩,.int .i64 b.2,.int .i64 0] 343) rfl;have s:=F.d (.cells #[.string ⟨b.1.toArray⟩,.int .i64 b.2,.int .i64 0] 343);have B:e.heap.size ∉ [a.S]:=by simp;omega
 go_wp2_with fail;refine(ff (eG a _) _ b0).mono ?_;rintro h c5 ⟨y,⟨c9,d3,k,rfl,J⟩|⟨n,k,m,c,rfl,d⟩⟩;rotate_left
 .exact aq (dx (s.a (y.l (by simp))) s ((as f).trans ((as g).trans (bj k))) c d)
 have L:=(y.i _ (aj K) B).trans K;have a3:=s.a (y.l (M':=[a.R,a.S,a.N]) (by simp));go_wp2_with fail;refine(qv _ _ _).mono ?_;rintro h c6 ⟨v,rfl,x,a7⟩;have a6:=a7 (a.aa e.heap.size).X J.al;have b1:=J.t x;have M:=(x.block _ (aj L)).trans L;have t:=a3.a (br _ x);go_wp2_with fail;refine(zd (eG a _) b1 a6).mono ?_;rintro h c7 ⟨z,⟨l,d4,p,rfl,b2⟩|⟨n,p,m,c,rfl,d⟩⟩;rotate_left
 .exact aq (dx (t.a (z.l (by simp))) t ((as f).trans ((as g).trans ((as k).trans (bj p)))) c d)
 have O:=(z.i _ (aj M) B).trans M;have a4:=t.a (z.l (M':=[a.R,a.S,a.N]) (by simp));obtain⟨c0,c1,c2,b7⟩:=dS O;dsimp only[vz];have b5:=bu (i:=2) O (.int .i64 l.1);have b3:=qN (A':=a.aa e.heap.size) j ⟨rfl,rfl,rfl,rfl⟩ b2 (p:=⟨e.heap.size,2,none⟩) (Y4 _) (by simp[Ad.aa]) (.int .i64 l.1);have u:=a4.bs (p:=⟨e.heap.size,2,none⟩) (Nat.le_of_lt_succ (Nat.lt_succ_of_le F.F)) (.int .i64 l.1);have E:=Z b5;go_wp2_with fail;refine(ff (eG a _) _ b3).mono ?_;rintro h c8 ⟨A,⟨d0,b6,C,rfl,b4⟩|⟨n,C,m,c,rfl,d⟩⟩;rotate_left
 .exact aq (dx (u.a (A.l (by simp))) u ((as f).trans ((as g).trans ((as k).trans ((as p).trans (bj C))))) c d)
 have a1:=Z ((A.i _ (aj E.b) B).trans E.b);go_wp2;go_ret;refine⟨u.a (A.l (by simp)),Y8 ⟨.const b.1 b.2 l.1,b6,e.heap.size,[(e.heap.size,.cells #[.string ⟨b.1.toArray⟩,.int .i64 b.2,.int .i64 l.1] 343)],(as f).trans ((as g).trans ((as k).trans ((as p).trans (as C)))),rfl,pi j.C b4,?_,?_⟩⟩
 .show _∈_;simp
 .intro P I;simp only[Yc]at I;subst I;exact⟨a1.b,λa8=>by have:=a5 _ a8;simp at this⟩
section
variable {c:Ad}{e:TypeId}{b:World}{j:St}{g:Type}
def Am{a:cM g}{d:Ad}(h:eF d c){e:ByteArray}{i:g}(l:ig a d e)(k:Rd d e j b)(n:a.I i b)(m:bm d.X a.bs b) :
  Calls prog 191 #[.pointer (some ⟨c.R,0,none⟩),.func (.func a.f) a.d4 a.d3] b (jf (c.S::a.M) d e b (dY e a i j) iN a.I):=by
 have:=Al l k n m;rw[h.1,h.2.1]at this;exact this
def mO(b:ByteArray)(a:cM g)(c:Bool):PX g aF:=if c then cG ⟨[],0,.void⟩else dY b a
def iu(a:ByteArray)(b:cM g):PX g aF:=av (av (lift (cZ a [118,111,105,100])) (mO a b)) λc=>av (lift (bU a [59])) λ_=>cG c
def OI{a:Nat}{m o n c f d:Value}{g:Nat×Nat}(h:b.heap[a]? = some (.cells #[m,o,n] e g)) :
  (((b.setCell ⟨a,0,none⟩ c).setCell ⟨a,1,none⟩ f).setCell ⟨a,2,none⟩ d).heap[a]? = some (.cells #[c,f,d] e g):=by
 have j:=bu (i:=0) h c;have k:=bu (i:=1) j f;have l:=bu (i:=2) k d;exact l
def jF.n2{m:cM g}{f:ByteArray}{l:World}{x y z:Value}{s:g}{C:St}(a:jF m c f b (.cells #[x,y,z] e) s j l)(q:ig m c f)(o:Rd c f C b)(t u w:Value) :
  jF m c f b (.cells #[t,u,w] e) s j (((l.setCell ⟨b.heap.size,0,none⟩ t).setCell ⟨b.heap.size,1,none⟩ u).setCell ⟨b.heap.size,2,none⟩ w) where
 k:=((a.k.bs (Y4 _) _).bs (Y4 _) _).bs (Y4 _) _
 r:=by
  have n:=λ{l:World} (B:Rd (c.aa b.heap.size) f j l) (i:Nat) (v:Value)=>qN (A':=c.aa b.heap.size) o ⟨rfl,rfl,rfl,rfl⟩ B (p:=⟨b.heap.size,i,none⟩) (Y4 _) (by simp[Ad.aa]) v;exact n (n (n a.r 0 _) 1 _) 2 _
 i:=nC q (λA=>by have:=o.al _ (q.fn _ A);omega) a.i _ _ _
 h:=a.h.h ((((ah [b.heap.size] l).O (p:=⟨b.heap.size,0,none⟩) (by simp) _).O (p:=⟨b.heap.size,1,none⟩) (by simp) _).O (p:=⟨b.heap.size,2,none⟩) (by simp) _) (by simp[Ad.aa])
 d:=OI a.d
def FD{d:cM g}{m:ByteArray}{t:g}(A:ig d c m)(z:Rd c m j b)(c0:d.I t b)(b9:bm c.X d.bs b) :
  Calls prog 200 #[.pointer (some ⟨c.R,0,none⟩),.func (.func d.f) d.d4 d.d3] b (jf (c.S::d.M) c m b (iu m d t j) iN d.I):=by
 have a5:b.heap.size ∉ d.M:=λc2=>by have:=z.al _ (A.fn _ c2);omega
 have d1:=z.K.2.1;have x:=wy A z c0 b9 (.cells #[.string ⟨#[]⟩,.int .i64 0,.nilIface] 242);have o:=A.aa b.heap.size;have N:=wy o x.r x.i x.h (.cells #[.string ⟨#[]⟩,.int .i64 0,.iface 444 (.agg #[])] 242)
 have h:=x.k;have K:(b.alloc (.cells #[.string ⟨#[]⟩,.int .i64 0,.nilIface] 242)).heap[b.heap.size]? = _:=x.d;have s:=x.r;go_in;go_wp2_with fail;have b3:b.heap.size ∉ c.S::d.M:=by
  simp only[Yg,not_or];exact⟨by omega,a5⟩
 have J:eF ((c.aa b.heap.size).aa (b.alloc (.cells #[.string ⟨#[]⟩,.int .i64 0,.nilIface] 242)).heap.size) c:=⟨rfl,rfl,rfl,rfl⟩;refine(mN J _ N.r).mono ?_;rintro P d2 ⟨b1,⟨c7,c8,C,rfl,c3⟩|⟨a0,C,O,p,rfl,q⟩⟩;rotate_left
 .exact aq (ft ((h.a N.k).a (b1.l (by simp))) (h.a N.k) (bl (bl (ci C))) p q)
 have l:=N.bd o s b1 c3;have L:(b.alloc (.cells #[.string ⟨#[]⟩,.int .i64 0,.nilIface] 242)).heap.size=b.heap.size+1:=by simp
 cases c7 with
 |true=>
  have y:U (av (lift (cZ m [118,111,105,100])) (mO m d) t j=cG ⟨[],0,.void⟩ t c8):=aE (aW C);go_wp2_with fail;refine(ff J _ l.r).mono ?_;rintro P c5 ⟨B,⟨c6,c9,u,rfl,a4⟩|⟨a0,u,O,p,rfl,q⟩⟩;rotate_left
  .exact aq (ft ((h.a l.k).a (B.l (by simp))) (h.a l.k) ((aE (y.b.trans rfl)).trans (bl (ci u))) p q)
  have w:=l.bd o s B a4;have a3:=(w.k.i _ (aj K) b3).trans K;obtain⟨a7,a8,a9,b8⟩:=dS a3;obtain⟨D,E,F,_⟩:=dS w.d;rw[L]at D E F;have n:=Z w;go_wp2;obtain⟨a1,a2⟩:=oi z (h.a n.b.k) (pi s.C n.b.r) (.string ⟨#[]⟩) (.int .i64 0) (.iface 444 (.agg #[]))
  refine bodyPost_ret (v:=.agg #[.string ⟨#[]⟩,.int .i64 0,.iface 444 (.agg #[])]) (by simp[results,results200,go_sem,a7,a8,a9]) rfl (kS (a:=⟨[],0,.void⟩) (t:=t) a1 ((aE (y.b.trans rfl)).trans (aE (aW u))) (rfl) a2 ?_)
  exact nC A a5 n.b.i _ _ _
 |false=>
  go_wp2_with fail;refine(Am J (o.aa _) l.r l.i l.h).mono ?_;rintro P d3 ⟨b2,⟨f,b6,d0,a6,rfl,c4,c1⟩|⟨a0,a6,O,p,rfl,q⟩⟩;rotate_left
  .exact aq (ft ((h.a l.k).a b2) (h.a l.k) (bl ((aE (aW C)).trans a6)) p q)
  have y:U (av (lift (cZ m [118,111,105,100])) (mO m d) t j=.ok (f,b6,d0)):=(aE (aW C)).trans a6;have b4:=l.f7 o s b2 c4 c1;obtain⟨e,G,b0⟩:∃e G,U (bW f.k=.iface e G):=by cases f.k<;>exact⟨_,_,rfl⟩
  have b5:=b4.n2 o s (.string ⟨f.t.toArray⟩) (.int .i64 f.m) (.iface e G)
  obtain⟨D,E,F,b7⟩:=dS b4.d;rw[L]at D E F b7;rw[L]at b5;have H:=Z b5;dsimp only[iN];rw[b0.b];go_wp2_with fail;refine(ff J _ H.b.r).mono ?_;rintro P c5 ⟨B,⟨c6,c9,u,rfl,a4⟩|⟨a0,u,O,p,rfl,q⟩⟩;rotate_left
  .exact aq (ft ((h.a H.b.k).a (B.l (by simp))) (h.a H.b.k) ((aE y.b).trans (bl (ci u))) p q)
  have w:=H.b.bd o s B a4;have a3:=(w.k.i _ (aj K) b3).trans K;obtain⟨a7,a8,a9,b8⟩:=dS a3;obtain⟨D,E,F,_⟩:=dS w.d;rw[L]at D E F;have n:=Z w;go_wp2;obtain⟨a1,a2⟩:=oi z (h.a n.b.k) (pi s.C n.b.r) (.string ⟨f.t.toArray⟩) (.int .i64 f.m) (.iface e G)
  refine bodyPost_ret (v:=.agg #[.string ⟨f.t.toArray⟩,.int .i64 f.m,.iface e G]) (by simp[results,results200,go_sem,a7,a8,a9]) rfl (kS (a:=f) (t:=b6) a1 ((aE y.b).trans (aE (aW u))) (by simp only[iN,b0.b]) a2 ?_)
  exact nC A a5 n.b.i _ _ _
end
section
variable {a:Nat}{c:Option ao}{w:World}{e:Type}
def OL{P:Program}{T kt et:TypeId}{d:TypeDesc}(u:P.underlying T=some (.map kt et))(l:P.underlying kt=some d){s:ByteArray}(m:IsKey d (.string s)){c:Array MapEntry}{h:Nat}
  (k:w.heap[a]? = some (.map c h)) (p:∀f∈c.toList,IsKey d f.key) (q:∃f∈c.toList,f.key=.string s) (v:Value) :
  ∃(e:Nat) (b:MapEntry),c.toList[e]? = some b/\b.key=.string s/\
   (Instr.mapUpdate T (.map (some a)) (.string s) v).run P w=.ok () (dm w a (.map (c.modify e λb=>{ b with key:=.string s,val:=v }) h)):=by
 have o:=λn=>MapKept.run_checkKey (w:=w) l m n 9999;rcases findNow_spec m c.toList 0 p with⟨i,g⟩|⟨e,b,i,g,j⟩
 .obtain⟨f,x,y⟩:=q;exact absurd y (g f x)
 .refine⟨e,b,g,j,?_⟩;have r:c[e]? = some b:=by simpa using g
  have t:Instr.keyThatStays (.string s) (.string s)=pure (.string s):=by
   unfold Instr.keyThatStays;rw[Y9 (by show (s==s)=true;exact(MapKept.bytes_beq s s).2 rfl)]
  simp[Instr.mapUpdate,Instr.findKey,run_underlying u,run_underlying l,MapKept.run_getObj_map k,o,i,r,j,t,MapKept.run_setObj_map _ k,Result.andThen]
def cL(d:List (List UInt8×Option ao))(c:List UInt8)(b:ao):List (List UInt8×Option ao):=d.map λa=>if a.1==c then (a.1,some b)else a
def CQ(d:List (List UInt8×Option ao))(c:List UInt8)(b:ao):(cL d c b).map (·.1)=d.map (·.1):=by
 unfold cL;rw[List.map_map];apply List.map_congr_left;intro a _;show (if a.1==c then (a.1,some b)else a).1=a.1
 split<;>rfl
def xQ{g:List (List UInt8×e)}{f:List UInt8}{c:e}(b:ay g f=some c):∃a∈g,a.1=f/\a.2=c:=by
 unfold ay at b;cases d:g.find? (λa=>a.1==f)with
 |none=>rw[d]at b;cases b
 |some a=>
  rw[d]at b;exact⟨a,List.mem_of_find?_eq_some d,by simpa using List.find?_some d,by simpa using b⟩
def ts{d:List e}(j:d.Nodup)(a b:Nat)(g:a<d.length)(h:b<d.length)(f:d[a]=d[b]):a=b:=by
 have i:=List.pairwise_iff_getElem.1 j;rcases Nat.lt_trichotomy a b with c|c|c
 .exact absurd f (i a b g h c)
 .exact c
 .exact absurd f.symm (i b a h g c)
def oX{o p:List (Nat×Obj)}{v:Value}(h:∀F∈o,F∈p)(e:je o v c):je p v c:=by
 have y:∀k t,qA o k t->qA p k t:=λk t C=>h _ C;have a:∀s v u w,fv o s v u w->fv p s v u w:=by
  intro s v u w a;rcases a with a|⟨B,z,A,b,d,f,g⟩
  .exact Y8 a
  .exact Ya ⟨B,z,A,b,d,h _ f,g⟩
 cases c with
 |none=>exact e
 |some x=>
  obtain⟨k,D,j⟩:=e;refine⟨k,D,?_⟩;cases x with
  |const q n v=>exact y _ _ j
  |typedef x=>exact h _ j
  |enum q n E=>obtain⟨i,G,b,d,f,g⟩:=j;exact⟨i,G,h _ b,d,a _ _ _ _ f,λm e l=>y _ _ (g m e l)⟩
  |struct q n E=>obtain⟨i,b,d⟩:=j;exact⟨i,h _ b,a _ _ _ _ d⟩
  |union q n J H=>obtain⟨i,r,b,d,f,g⟩:=j;exact⟨i,r,h _ b,d,a _ _ _ _ f,λm e l=>a _ _ _ _ (g m e l)⟩
  |prog q n K I=>obtain⟨i,r,b,d,f,g⟩:=j;exact⟨i,r,h _ b,d,a _ _ _ _ f,λm e l=>a _ _ _ _ (g m e l)⟩
def fK.aH{o:List Nat}{e:List (List UInt8×Option ao)}(G:fK o a e w)(B:a∈o){j:List UInt8}(a0:ay e j=some c)
  {d:ao} {b:Nat} {bs':List (Nat×Obj)} (K:dw bs' b d) (M:bm o bs' w) :
  ∃D,(Instr.mapUpdate 148 (.map (some a)) (.string ⟨j.toArray⟩) (.iface (cD d) (.pointer (some ⟨b,0,none⟩)))).run prog w=.ok () (dm w a D)/\fK o a (cL e j d) (dm w a D):=by
 obtain⟨t,F,n,H,I,A,J⟩:=G;have R:=aj A;obtain⟨g,i,m,_⟩:=xQ a0;obtain⟨f,v,rfl⟩:=List.getElem_of_mem i;have a3:f<n.length:=by omega
 have L:=rE (e.zip n |>.map λg=>(g.1.1,g.2));obtain⟨r,p,l,z,a2⟩:=OL (P:=prog) (T:=148) (kt:=9) (et:=157) (d:=.string) (by kernel_rfl) (by kernel_rfl) (s:=⟨j.toArray⟩) trivial A (by simpa using L)
  ⟨⟨.string ⟨e[f].1.toArray⟩,n[f],f⟩,by
   simp only;rw[List.mem_mapIdx];exact⟨f,by simp;omega,by simp⟩,by simp[m]⟩ (.iface (cD d) (.pointer (some ⟨b,0,none⟩)))
 simp only[List.getElem?_mapIdx]at l;have x:r<e.length:=by
  by_cases x:r<e.length
  .exact x
  .rw[YA (by simp;omega)]at l;cases l
 rw[Yd (by simp;omega)]at l;simp at l;subst l;simp at z;have N:f=r:=by
  have a1:(e.map (·.1))[f]'(by simpa using v)=(e.map (·.1))[r]'(by simpa using x):=by simp[m,z]
  exact ts t _ _ _ _ a1
 subst N;refine⟨_,a2,?_,F++bs',n.set f (.iface (cD d) (.pointer (some ⟨b,0,none⟩))),?_,?_,?_,?_⟩
 .rw[CQ];exact t
 .intro g i;rcases Yn.1 i with i|i
  .exact(H.h (gV _ _ _) (by simpa using B)) g i
  .exact(M.h (gV _ _ _) (by simpa using B)) g i
 .simp[cL,I]
 .rw[ka R];unfold pT;have O:(List.map (λg:(List UInt8×Option ao)×Value=>(g.1.1,g.2)) ((cL e j d).zip (n.set f (.iface (cD d) (.pointer (some ⟨b,0,none⟩)))))).length=(List.map (λg:(List UInt8×Option ao)×Value=>(g.1.1,g.2)) (e.zip n)).length:=by simp[cL]
  rw[O];refine Yo (λE=>some (Obj.map E _)) ?_;apply Array.ext';simp only[Array.toList_modify];apply List.ext_getElem
  .simp[cL]
  .intro h a5 S;have q:h<e.length:=by simp at S;omega
   by_cases k:f=h
   .subst k;simp[cL,List.getElem_modify,m]
   .have y:¬e[h].1=j:=λp=>k (ts t f h (by simpa using v) (by simpa using q) (by simp[m,p]));simp[cL,List.getElem_modify,k,List.getElem_set,y]
 .intro h q a4;have C:h<e.length:=by simp[cL]at q;exact q
  by_cases k:f=h
  .subst k;have u:(cL e j d)[f].2=some d:=by simp[cL,m]
   rw[u,List.getElem_set_self];exact oX (λg i=>Ym _ i) (show je bs' _ (some d)from⟨b,rfl,K⟩)
  .have y:¬e[h].1=j:=λp=>k (ts t f h (by simpa using v) (by simpa using C) (by simp[m,p]));have u:(cL e j d)[h].2=e[h].2:=by simp[cL,y]
   rw[u,List.getElem_set_ne k];exact oX (λg i=>Yf _ i) (J h C (by omega))
end
section
variable {α:Type}{a b:St}
def gN(d:PM α):Prop:=∀a c b,d a=.ok (c,b)->b.g=a.g
def gN.a1{k:Type}{f:PM α}{g:α->PM k}(i:gN f)(h:∀d,gN (g d)):gN (au f g):=by
 intro a l b c;cases e:f a with
 |error m=>rw[bj e]at c;cases c
 |ok j=>
  obtain⟨d,n⟩:=j;rw[as e]at c;rw[h d _ _ _ c,i _ _ _ e]
def gN.ret(d:α):gN (bS d):=by
 intro a e b c;simp only[bS,Except.ok.injEq,Prod.mk.injEq]at c;rw[<-c.2]
def wB(e c:Nat):gN (fj (α:=α) e c):=λa f b d=>by cases d
def qL{a:Prop}[Decidable a]{b c:PM α}(d:gN b)(e:gN c):gN (if a then b else c):=by split<;>assumption
def CB(d:ByteArray):gN (next d):=by
 intro a e b c;unfold next at c
 split at c
 .simp only[Except.ok.injEq,Prod.mk.injEq]at c;rw[<-c.2]
 .cases c
def MY(a:ByteArray)(b:List UInt8):gN (bU a b):=(CB a).a1 λc=>qL (gN.ret _) (wB _ _)
def MX(d:Mar.am):gN (hv d):=by
 intro a e b c;unfold hv at c;split at c
 .simp only[Except.ok.injEq,Prod.mk.injEq]at c;rw[<-c.2]
 .cases c
def MZ(a:Mar.am):gN (hW a):=
 qL (gN.ret _) (qL (MX a) (qL (gN.ret _) (qL (gN.ret _) (wB _ _))))
def Nb(a:ByteArray)(b:Int->Bool):gN (hG a b):=(CB a).a1 λc=>(MZ c).a1 λd=>qL (gN.ret _) (wB _ _)
def Na{g:ByteArray}{f:Int->Bool}{i k:List (Int×Int)}{l:Int}(c:fR g f i a=.ok (l,k,b)):b.g=a.g:=by
 unfold fR at c;cases e:hG g f a with
 |error j=>rw[bl (ci e)]at c;cases c
 |ok d=>
  obtain⟨d,n⟩:=d;rw[aE (aW e)]at c;cases h:ky d.1 d.2 i ⟨6,d.2⟩with
  |error j=>rw[bl (rM h)]at c;cases c
  |ok m=>
   rw[aE (rN h)]at c;simp only[cG,Except.ok.injEq,Prod.mk.injEq]at c;rw[<-c.2.2];exact Nb g f _ _ _ e
def Lt{l:ByteArray}{k:List UInt8×Nat}(c:gp l a=.ok (k,b)):ay b.g k.1=some none:=by
 unfold gp hP name at c;cases j:next l a with
 |error p=>rw[bl (ci j)]at c;cases c
 |ok o=>
  obtain⟨d,e⟩:=o;rw[aE (aW j)]at c;by_cases i:((d.f:Int)==1)=true
  .rw[Y9 i]at c;cases f:ay e.g d.text with
   |none=>
    have h:fZ d e=.ok ((),{ e with g:=e.g++[(d.text,none)] }):=by simp only[fZ,f]
    rw[aE (show (fM mh).af d () e=_ from aW h)]at c;simp only[cG,Except.ok.injEq,Prod.mk.injEq]at c;obtain⟨rfl,rfl⟩:=c;unfold ay at f ⊢;have m:e.g.find? (λg=>g.1==d.text)=none:=by
     cases n:e.g.find? (λg=>g.1==d.text)with
     |none=>rfl
     |some g=>rw[n]at f;cases f
    simp[List.find?_append,m]
   |some q=>
    have h:fZ d e=.error ⟨6,d.m⟩:=by simp only[fZ,f]
    rw[bl (show (fM mh).af d () e=_ from ci h)]at c;cases c
  .rw[Y2 i]at c;cases c
def ei(c nh b:Nat):PM Unit:=λa=>if nh<=c then .error ⟨5,b⟩else .ok ((),a)
def xP(c:List UInt8)(b:ao):PM Unit:=λa=>.ok ((),{ a with g:=cL a.g c b })
def hX(b:ByteArray)(d:Nat):PX (List (Int×Int)) (List UInt8×Nat×Int):=
 av (lift (fI b)) λc=>av (lift (ei d 12 c.m)) λ_=>av (lift (ix c.m)) λ_=>av (lift (gp b)) λa=>av (lift (bU b [61])) λ_=>
  av (fR b (di (-2147483648) 2147483647)) λv=>av (lift (xP a.1 (.const a.1 a.2 v))) λ_=>cG (a.1,a.2,v)
end
section
variable {a:Ad}{e:List (Int×Int)}{c:Nat}{w:World}{g:St}
def jP(a:List UInt8×Nat×Int):Obj:=.cells #[.string ⟨a.1.toArray⟩,.int .i64 a.2.1,.int .i64 a.2.2] 343
def wu(k:List Nat)(a:Ad)(l:ByteArray)(w:World)(c:Nat)(i:Except Mar.M ((List UInt8×Nat×Int)×List (Int×Int)×St))(f:Ending)(b:World):Prop:=
 ai k w b/\((∃h g j e,i=.ok (h,g,j)/\f=.returned (.pointer (some ⟨e,0,none⟩))/\Rd a l j b/\cN c g b/\bm a.X [(e,jP h)] b)\/(∃d,i=.error d/\fe w d.no d.m f b))
def qE{e M':List Nat}{m:ByteArray}{w1 d:World}{g:Except Mar.M ((List UInt8×Nat×Int)×List (Int×Int)×St)}{f:Mar.M}{b:Nat}
  (j:ai e w d) (k:ai M' w w1) (l:g=.error f) (h:w1.heap.size<=b) (i:d.heap[b]? = some (.cells #[.int .i64 f.no,.int .i64 f.m] 179)) :
  wu e a m w c g (.panicked [{ v:=.iface 143 (.pointer (some ⟨b,0,none⟩)),recovered:=false }]) d:=
 ⟨j,Ya ⟨f,l,b,Yz k.F h,rfl,i⟩⟩
def cT.aa(d:cT a c)(b:Nat):cT (a.aa b) c:=⟨Y5 _ d.1,d.2⟩
def Cd{b:Ad}(k:eF b a){d:ByteArray}{v:Value}{f:Int->Bool}(j:Rd b d g w)(l:gx b.X v f w)(n:cT b c)(m:cN c e w) :
  Calls prog 250 #[.pointer (some ⟨a.R,0,none⟩),.map (some c),v] w (jf [a.S,c] b d w (fR d f e g) hU (cN c)):=by
 obtain⟨h,i,o,p⟩:=k;rw[<-h,<-i];exact Cc j l n m
def Kh{a0:ByteArray}(A:Nat)(a3:Rd a a0 g w)(q:cT a c)(d4:cN c e w) :
  Calls prog 193 #[.pointer (some ⟨a.R,0,none⟩),.int .i64 A,.map (some c)] w (wu [a.R,a.S,a.N,c] a a0 w c (hX a0 A e g)):=by
 have h4:=jq;obtain⟨f4,f5,f6,f7,f8,g9⟩:=a3.r;have h1:=AK;have b0:c ∉ [a.S]:=by simp;exact q.2.2.1
 go_in;go_wp2_with fail;refine(yq a3).mono ?_;rintro m h9 ⟨K,⟨G,a2,l,rfl,e5⟩|⟨u,l,p,h,rfl,j⟩⟩;rotate_left
 .exact aq (qE (K.l (by simp)) (ah [] _) (bl (ci l)) h j)
 have d5:=d4.h K b0;have x:=K.l (M':=[a.R,a.S,a.N,c]) (by simp);dsimp only[cq];go_wp2_with fail;by_cases a5:(12:Nat)<=A
 .refine(qg _ _ _ _ (by omega)).mono ?_;rintro m b9 ⟨⟨p,h,rfl,j⟩,c9⟩;exact aq (qE (f:=⟨5,G.m⟩) (x.a (br _ c9)) x ((aE (aW l)).trans (bl (ci (show ei A 12 G.m a2=_ from Y9 a5)))) h j)
 have y:ei A 12 G.m a2=.ok ((),a2):=Y2 a5;refine(qh _ _ _ _ (by omega)).mono ?_;rintro m b9 ⟨rfl,rfl⟩;go_wp2_with fail;refine(BV G.m e5).mono ?_;rintro m b9 ⟨L,⟨h8,i2,s,rfl,e6⟩|⟨u,s,p,h,rfl,j⟩⟩;rotate_left
 .exact aq (qE (x.a (L.l (by simp))) x ((aE (aW l)).trans ((aE (aW y)).trans (bl (ci s)))) h j)
 have d6:=d5.h L (by simp;exact q.2.1);have H:=x.a (L.l (M':=[a.R,a.S,a.N,c]) (by simp));go_wp2_with fail;refine(tp e6).mono ?_;rintro m f ⟨M,⟨b,i3,t,rfl,r⟩|⟨u,t,p,h,rfl,j⟩⟩;rotate_left
 .exact aq (qE (H.a (M.l (by simp))) H ((aE (aW l)).trans ((aE (aW y)).trans ((aE (aW s)).trans (bl (ci t))))) h j)
 have a7:=d6.h M (by simp;exact⟨q.2.2.1,q.2.2.2.1⟩);have a4:=H.a (M.l (M':=[a.R,a.S,a.N,c]) (by simp));dsimp only[fQ];have c8:=r.al;have h2:=r.K.2.1;have h3:=aj a7;have e7:=r.G (.cells #[.string ⟨b.1.toArray⟩,.int .i64 b.2,.int .i64 0] 343);have b2:=aJ (w:=f) (o:=.cells #[.string ⟨b.1.toArray⟩,.int .i64 b.2,.int .i64 0] 343) rfl;have d7:cN c e (f.alloc (.cells #[.string ⟨b.1.toArray⟩,.int .i64 b.2,.int .i64 0] 343)):=a7.h ((ah [] f).d _) (by simp);have I:=a4.d (.cells #[.string ⟨b.1.toArray⟩,.int .i64 b.2,.int .i64 0] 343);have e1:f.heap.size ∉ [a.S]:=by simp;omega
 have e2:f.heap.size ∉ [a.S,c]:=by simp;omega
 go_wp2_with fail;refine(ff (eG a _) _ e7).mono ?_;rintro m i0 ⟨D,⟨i1,i4,z,rfl,b1⟩|⟨u,z,p,h,rfl,j⟩⟩;rotate_left
 .exact aq (qE (I.a (D.l (by simp))) I ((aE (aW l)).trans ((aE (aW y)).trans ((aE (aW s)).trans ((aE (aW t)).trans (bl (ci z)))))) h j)
 have b3:=(D.i _ (aj b2) e1).trans b2;have a8:=d7.h D b0;have c5:=I.a (D.l (M':=[a.R,a.S,a.N,c]) (by simp));go_wp2_with fail;refine(qv _ _ _).mono ?_;rintro m f2 ⟨v,rfl,B,d1⟩;have d0:=d1 (a.aa f.heap.size).X b1.al;have e8:=b1.t B;have b4:=(B.block _ (aj b3)).trans b3;have d8:cN c e f2:=(B.block _ (aj a8)).trans a8;have J:=c5.a (br _ B);go_wp2_with fail;refine(Cd (eG a _) e8 d0 (q.aa _) d8).mono ?_;rintro m a1 ⟨O,⟨k,b7,f3,F,rfl,e9,d9⟩|⟨u,F,p,h,rfl,j⟩⟩;rotate_left
 .exact aq (qE (J.a (O.l (by simp))) J ((aE (aW l)).trans ((aE (aW y)).trans ((aE (aW s)).trans ((aE (aW t)).trans ((aE (aW z)).trans (bl F)))))) h j)
 have b5:=(O.i _ (aj b4) e2).trans b4;have c6:=J.a (O.l (M':=[a.R,a.S,a.N,c]) (by simp));have d2:ay f3.g b.1=some none:=by rw[Na F,MY _ _ _ _ _ z];exact Lt t
 obtain⟨h5,h6,h7,h0⟩:=dS b5;dsimp only[hU];have b6:=bu (i:=2) b5 (.int .i64 k);have f0:=qN (A':=a.aa f.heap.size) r ⟨rfl,rfl,rfl,rfl⟩ e9 (p:=⟨f.heap.size,2,none⟩) (Y4 _) (by simp[Ad.aa]) (.int .i64 k);have e0:cN c b7 (a1.setCell ⟨f.heap.size,2,none⟩ (.int .i64 k)):=d9.h ((ah [f.heap.size] a1).O (by simp) _) (by simp;omega);have c7:=c6.bs (p:=⟨f.heap.size,2,none⟩) (Nat.le_of_lt_succ (Nat.lt_succ_of_le a4.F)) (.int .i64 k);go_wp2_with fail;have E:=pi r.C f0;generalize a1.setCell ⟨f.heap.size,2,none⟩ (.int .i64 k)=n at *
 have a6:bm a.X [(f.heap.size,jP (b.1,b.2,k))] n:=by
  intro b8 a9;simp only[Yc]at a9;subst a9;exact⟨b6,λd3=>by have:=c8 _ d3;simp at this⟩
 have C:Below n.heap.size n n.drew:=(Below.refl _ _).drew;obtain⟨f1,e4,e3⟩:=(E.nm.t C).aH E.C.2.2.1 d2 (d:=.const b.1 b.2 k) (b:=f.heap.size) (bs':=[(f.heap.size,jP (b.1,b.2,k))]) (by show _∈_;simp[jP]) (a6.h (br [] C) (by simp));dsimp only[cD]at e4;obtain⟨f9,g0,g1,g2,g3,g7⟩:=E.r;obtain⟨g4,g5,g6,g8⟩:=dS b6;have c1:=Z c7;have c2:=Z e0;have c4:=Z E;have c0:=Z a6;have c3:=Z e3;go_region;go_wp2;go_ret;have P:ai [a.N] n (dm n.drew a.N f1):=(br _ C).a (gV _ _ _);refine⟨c1.b.a (P.l (by simp)),Y8 ⟨(b.1,b.2,k),b7,_,f.heap.size,?_,rfl,Rd.kj (c4.b.t C) c3.b,c2.b.h P (by simp;exact q.2.2.2.1),c0.b.h P (by simpa using r.C.2.2.1)⟩⟩;exact(aE (aW l)).trans ((aE (aW y)).trans ((aE (aW s)).trans ((aE (aW t)).trans ((aE (aW z)).trans (aE F)))))
end
section
variable {a s:Ad}{l A g n D:Nat}{t z h u:List Nat}{r w:List (Int×Int)}{c:List UInt8×Nat×Int}{e:List (List UInt8×Nat×Int)}{f:List UInt8×Nat}{o:Value}{j q d B:World}{E:List Value}{m x C:St}
def Ad.v(a:Ad)(h:List Nat):Ad:={ a with X:=h++a.X }
def cC(a:Ad)(h:List Nat):eF (a.v h) a:=⟨rfl,rfl,rfl,rfl⟩
def jk{e:ByteArray}(f:a.R∈a.X/\a.S∈a.X/\a.N∈a.X/\a.P∈a.X)(b:Rd (a.v h) e m d):Rd a e m d:=
 ⟨b.me,b.sc,b.nm.a9 (λ_ c=>Ym _ c),f,λg c=>b.al g (Ym _ c),b.pr,b.np,b.gl,b.dn,b.aP⟩
def Rd.ba{e:ByteArray}(f:Rd a e C d)(n:eF s a)(l:Rd s e m j)(o:ai t j q)(g:∀c∈t,d.heap.size<=c/\c∈s.X):Rd s e m q:=by
 obtain⟨w,x,y,z⟩:=f.K;obtain⟨⟨c,h⟩,⟨_,_,i⟩,⟨_,_,k⟩⟩:=f.gl;have h:=li h;have i:=li i;have k:=li k;obtain⟨p,r,u,v⟩:=n;refine l.h o (λc b=>(g c b).2) ?_ ?_ ?_ ?_ ?_ ?_ ?_<;>(intro b;have:=(g _ b).1;omega)
def eJ{b:Option Nat}(a:d.grownBy B b):ai b.toList d B:=
 ⟨a.os,a.tape,a.output,a.size,λg e f=>a.block g e (λc=>f (by rw[<-c];simp))⟩
def qM{n:ByteArray}{i:Option Nat}(p:Rd a n C d)(r:eF s a)(k:Rd s n m j)(x:j.grownBy q i)
  (u:∀b,i=some b->d.heap.size<=b/\b∈s.X) (w:i=some g\/g=j.heap.size) (y:g<q.heap.size):Rd (s.aa g) n m q:=by
 have t:=eJ x;have l:∀c∈i.toList,d.heap.size<=c/\c∈s.X:=λc h=>u c (by simpa using h);have e:=p.ba r k t l;obtain⟨z,A,B,D⟩:=e.C;refine⟨e.me,e.sc,?_,⟨Y5 _ z,Y5 _ A,Y5 _ B,Y5 _ D⟩,?_,e.pr,e.np,e.gl,e.dn,e.aP⟩
 .rcases w with o|o
  .exact e.nm.a9 (λv f=>by
    rcases Yg.1 f with rfl|f
    .exact(u _ o).2
    .exact f)
  .obtain⟨I,J,K,L⟩:=k.K;refine(k.nm.aa (b:=g) (by omega)).h t (λc h=>Y5 _ (l c h).2) (λh=>?_);have:=(l _ h).1;have:=p.K.2.2.1;obtain⟨E,F,G,H⟩:=r;omega
 .intro v f;rcases Yg.1 f with rfl|f
  .exact y
  .exact e.al v f
def bm.aN{a:List Nat}{h:List (Nat×Obj)}{e:Option Nat}(m:bm a h j)(o:j.grownBy q e)(l:∀f,e=some f->f∈a)(n:e=some g\/g=j.heap.size):bm (g::a) h q:=by
 intro s r;obtain⟨k,c⟩:=m s r;have p:=aj k;refine⟨(o.block _ p (λb=>c (l _ b.symm))).trans k,?_⟩;intro d;rcases Yg.1 d with b|d
 .rcases n with i|i
  .exact c (by rw[b];exact l _ i)
  .omega
 .exact c d
def aX{b:TypeId}{f:Nat}{v:Value}(a:d.ownsRow A b D v f E)(l:ai t d B)(k:∀g,v.ownBlock=some g->g ∉ t):B.ownsRow A b D v f E:=by
 refine⟨a.1,?_⟩;rcases a.2 with a|⟨g,e,h,rfl,i,c,j⟩
 .exact Y8 a
 .exact Ya ⟨g,e,h,rfl,i,(l.i _ (aj c) (k g rfl)).trans c,j⟩
def gH{b:TypeId}{f:Nat}{v:Value}(c:d.ownsRow A b D v f E)(a:v.ownBlock=some g):A<=g/\g<d.heap.size:=by
 rcases c.2 with⟨rfl,_⟩|⟨k,i,j,rfl,e,h,l⟩
 .cases a
 .simp only[Value.ownBlock,Yu]at a;subst a;exact⟨e,aj h⟩
def ai.ba(a:ai t d j)(b:ai z j q)(i:∀c∈z,c∈t\/d.heap.size<=c):ai t d q:=
 ⟨b.os.trans a.os,b.c2.trans a.c2,b.c1.trans a.c1,Yz a.F b.F,λe g h=>(b.i e (Yr g a.F) (λk=>by
  rcases i e k with f|f
  .exact h f
  .omega)).trans (a.i e g h)⟩
def ai.cons{a:List Nat}(b:ai t d j)(g:ai z j q)(e:∀c∈t,c∈a)(f:∀c∈z,c∈a):ai a d q:=(b.l e).a (g.l f)
def mX(a:ByteArray)(f:List UInt8×Nat)(e:List (List UInt8×Nat×Int)):PM ao:=au (bU a [125]) λ_=>au (bU a [59]) λ_=>bS (.enum f.1 f.2 e)
def go(a:ByteArray)(f:List UInt8×Nat):Nat->List (List UInt8×Nat×Int)->List (Int×Int)->PM ao
 |0,_,_=>fj 0 0
 |k+1,e,r=>λm=>match hX a e.length r m with
  |.ok (c,w,x)=>au (cZ a [44]) (λd=>if d then go a f k (e++[c]) w else mX a f (e++[c])) x
  |.error b=>.error b
def rC{a:ByteArray}{b:Nat}(d:hX a e.length r m=.ok (c,w,x)) :
  go a f (b+1) e r m=au (cZ a [44]) (λg=>if g then go a f b (e++[c]) w else mX a f (e++[c])) x:=by simp only[go,d]
def th{b:ByteArray}{d:Nat}{a:Mar.M}(c:hX b e.length r m=.error a) :
  go b f (d+1) e r m=.error a:=by simp only[go,c]
def gm(a:ByteArray)(b:Nat):PM ao:=au (iy b) λ_=>au (gp a) λf=>au (bU a [123]) λ_=>go a f 13 [] []
structure jD(a:Ad)(text:ByteArray)(d:World)(l n:Nat)(f:List UInt8×Nat)(e:List (List UInt8×Nat×Int))(u h:List Nat)(r:List (Int×Int))(o:Value)(m:St)(j:World):Prop where
 B:ai [a.R,a.S,a.N] d j
 rd:Rd (a.v h) text m j
 C:l∈h/\n∈h/\l≠n
 E:∀y∈h,d.heap.size<=y
 a0:cN n r j
 I:j.heap[l]? = some (.cells #[.string ⟨f.1.toArray⟩,.int .i64 f.2,o] 253)
 row:j.ownsRow d.heap.size 223 1 o e.length (u.map λb=>Value.pointer (some ⟨b,0,none⟩))
 G:∀g,o.ownBlock=some g->g∈h/\g≠l/\g≠n
 ak:u.length=e.length
 c5:bm (a.v h).X ((u.zip e).map λp=>(p.1,jP p.2)) j
def jD.aZ{b:ByteArray}(g:Rd a b C d)(c:jD a b d l n f e u h r o m j):cT (a.v h) n:=by
 obtain⟨k,p,q,s⟩:=g.K;have i:=c.E _ c.C.2.1;refine⟨Yf _ c.C.2.1,?_,?_,?_,?_⟩<;>simp only[Ad.v]<;>omega
def Ex{K:ByteArray}{v L y:World}{k E:Nat}(M:Rd a K C d)
  (b:jD a K d l n f e u h r o m j) (H:ai [a.R,a.S,a.N,n] j v) (a4:Rd (a.v h) K x v) (b3:cN n w v) (b1:bm (a.v h).X [(k,jP c)] v) (q:Below v.heap.size v L)
  (a3:y.ownsRow d.heap.size 223 1 (.slice (some ⟨g,0,none⟩) (e.length+1) E) (e.length+1) ((u.map λk=>Value.pointer (some ⟨k,0,none⟩))++[.pointer (some ⟨k,0,none⟩)]))
  (G:L.grownBy y o.ownBlock) (F:o.ownBlock=some g\/g=L.heap.size) (b2:g<y.heap.size) :
  jD a K d l n f (e++[c]) (u++[k]) (g::h) w (.slice (some ⟨g,0,none⟩) (e.length+1) E) x (y.setCell ⟨l,2,none⟩ (.slice (some ⟨g,0,none⟩) (e.length+1) E)):=by
 obtain⟨J,a1,b8⟩:=b.C;obtain⟨b6,_⟩:=gH a3 (g:=g) rfl;have b7:=aj b.I;have d0:=aj b.a0;have c1:=b.E _ J;have d1:=b.E _ a1;have c3:=H.F;have c4:=q.size;have c5:=G.size;have a2:g≠l:=by
  rcases F with p|p
  .exact(b.G g p).2.1
  .omega
 have a7:g≠n:=by
  rcases F with p|p
  .exact(b.G g p).2.2
  .omega
 have P:∀k,o.ownBlock=some k->d.heap.size<=k/\k∈(a.v h).X:=λk q=>⟨b.E _ (b.G k q).1,Yf _ (b.G k q).1⟩;have O:=eJ G;have A:ai [l] y (y.setCell ⟨l,2,none⟩ (.slice (some ⟨g,0,none⟩) (e.length+1) E)):=(ah [l] y).O (by simp) _;have I:ai [] v L:=br _ q;obtain⟨c6,c7,c8,c9⟩:=M.K;have b9:l ∉ o.ownBlock.toList:=by
  intro s;exact(b.G l (by simpa using s)).2.1 rfl
 have c0:n ∉ o.ownBlock.toList:=by
  intro s;exact(b.G n (by simpa using s)).2.2 rfl
 have b5:=(((b3.h I (by simp)).h O c0).h A (by simp;omega));have b0:y.heap[l]? = some (.cells #[.string ⟨f.1.toArray⟩,.int .i64 f.2,o] 253):=
  (O.i _ (by omega) b9).trans ((I.i _ (by omega) (by simp)).trans ((H.i _ b7 (by simp;omega)).trans b.I))
 refine⟨?_,?_,⟨Y5 _ J,Y5 _ a1,b8⟩,?_,b5,?_,?_,?_,?_,?_⟩
 .refine(((b.B.ba H ?_).ba I (by simp)).ba O ?_).ba A (by simp;omega)
  .intro c s;simp at s ⊢;rcases s with p|p|p|p
   .exact Y8 (Y8 p)
   .exact Y8 (Ya (Y8 p))
   .exact Y8 (Ya (Ya p))
   .exact Ya (by omega)
  .intro c s;exact Ya (P c (by simpa using s)).1
 .exact M.ba (cC a (g::h)) (qM M (cC a h) (a4.t q) G P F b2) A (by
   intro a5 t;simp only[Yc]at t;subst t;exact⟨c1,Yf _ (Y5 _ J)⟩)
 .intro c2 a0;rcases Yg.1 a0 with rfl|a0
  .exact b6
  .exact b.E c2 a0
 .exact bu (i:=2) b0 _
 .have:=aX a3 A (by
   intro a6 z;simp only[Value.ownBlock,Yu]at z;subst z;simp;exact a2)
  simpa using this
 .intro a6 z;simp only[Value.ownBlock,Yu]at z;subst z;exact⟨Yb,a2,a7⟩
 .simp[b.ak]
 .rw[List.zip_append (by exact b.ak),List.map_append];have a8:∀c∈[a.R,a.S,a.N,n],c∈(a.v h).X:=by
   have:=a4.C;intro a5 t;simp at t;rcases t with rfl|rfl|rfl|rfl
   .exact this.1
   .exact this.2.1
   .exact this.2.2.1
   .exact Yf _ a1
  have b4:=b.c5.h H a8;have a9:bm (a.v h).X (((u.zip e).map λD=>(D.1,jP D.2))++[(k,jP c)]) v:=by
   intro D B;rcases Yn.1 B with B|B
   .exact b4 D B
   .exact b1 D B
  exact((a9.h I (by simp)).aN G (λk q=>(P k q).2) F).h A (by
   intro a5 t;simp only[Yc]at t;subst t;exact Y5 _ (Yf _ J))
end
end Go.Proofs.YtjdhaegijjednaaGreatDoor
namespace Go.Proofs.YtjdhaegijjednaaGreatDoor
open Go.RowKit
open Go.Proofs.Tryz
structure ee where
 f:Nat
 text:List UInt8
 m:Nat
 fin:Nat
 n:Int
 e:Nat
abbrev dt(a:ee):Array Value:=#[.int .i64 a.f,.string ⟨a.text.toArray⟩,.int .i64 a.m,.int .i64 a.fin,.int .i64 a.n,.int .i64 a.e]
def cQ(a:List UInt8)(b:Nat):ee:=match Mar.cd (a.drop (dU a b)) (dU a b)with
 |.ok c=>⟨c.f,c.text,dU a b,dU a b+c.text.length,c.n,0⟩
 |.error d=>⟨5,[],dU a b,0,0,d.no⟩
def rL{b:List UInt8}{a c:Nat}(o:a<b.length)(m:a<c)(n:c<=b.length)(i:∀d (g:d<b.length),a<d->d<c->Mar.bx b[d]=true)(j:∀f:c<b.length,Mar.bx b[c]=false):(b.drop a).take (c-a)=Mar.af (b.drop a):=by
 have:=yE ⟨(b.drop a).toArray⟩ (c-a) (by omega) (by simp[ByteArray.size];omega) (by
  intro d g k l;have e:d<(b.drop a).length:=by simpa[ByteArray.size]using g
  show Mar.bx ((b.drop a)[d]'e)=true;rw[List.getElem_drop];exact i _ (by simp at e;omega) (by omega) (by omega)) (by
  intro f;have e:c-a<(b.drop a).length:=by simpa[ByteArray.size]using f
  show Mar.bx ((b.drop a)[c-a]'e)=false;rw[List.getElem_drop];have h:a+(c-a)=c:=by omega
  simp only[h];exact j _)
 exact this.symm
def px(c:List UInt8)(a b:Nat):(⟨c.toArray⟩:ByteArray).extract a (a+b)=⟨((c.drop a).take b).toArray⟩:=by
 apply ByteArray.ext;simp only[ByteArray.data_extract];apply Array.ext';simp[Array.toList_extract,List.extract]
def Bi{a:List UInt8}(b:Mar.db a=true):¬16<a.length:=by
 have:Mar.hA.all (λd=>decide (d.length<=16))=true:=by decide
 have c:a∈Mar.hA:=by simpa[Mar.db]using b
 have:=List.all_eq_true.1 this a c;simp at this;omega
def EU(b:List UInt8)(h a:Nat)(g:h<=b.length)(b4:b.length<=2000)(I:dU b h=a)(z:a<b.length)(H:Mar.cs b[a]=true)(e:World) :
  Calls prog 80 #[.string ⟨b.toArray⟩,.int .i64 h] e λf a6=>f=.returned (.agg (dt (cQ b h)))/\ai [] e a6:=by
 have C:=λa4=>sW b h g (by omega) a4;rw[I]at C;have C:=Z C;have L:=Z (pL b[a]);have P:=Z (lY b[a]);rw[H]at L;have K:U (cQ b h=match Mar.c0 (Mar.af (b.drop a)) a with|.ok e=>⟨e.f,e.text,a,a+e.text.length,e.n,0⟩|.error y=>⟨5,[],a,0,0,y.no⟩):=by
  show _=_;unfold cQ;rw[I,Yk z];unfold Mar.cd;simp only[H,if_true]
 have b1:(0:Int)<=(a:Int):=by omega
 have b2:(a:Int)<(b.length:Int):=by omega
 have b3:((a:Int)==(b.length:Int))=false:=by rw[Yi];omega
 have b0:(⟨b.toArray⟩:ByteArray)[a]'(by simp[ByteArray.size];exact z)=b[a]:=rfl;clear I H;go_in;go_wp2_with fail;refine(C.b _).mono ?_;rintro f m ⟨rfl,rfl⟩;go_wp2_with fail;refine(L.b _).mono ?_;rintro f m ⟨rfl,rfl⟩;go_wp2_with fail;refine(P.b _).mono ?_;rintro f m ⟨rfl,rfl⟩;go_wp2_with fail;go_loopw [6] (λG a5=>∃c:Nat,G=.int .i64 c/\a<c/\c<=b.length/\U (∀j (D:j<b.length),a<j->j<c->Mar.bx b[j]=true)/\a5=e.alloc (.cells #[.int .i64 0,.string ⟨#[]⟩,.int .i64 0,.int .i64 0,.int .i64 0,.int .i64 0] 112)) (λG _=>b.length-(intOf G).toNat)
 case atStart=>exact⟨a+1,by go_num,by omega,z,(λj D M R=>by omega),rfl⟩
 case round=>
  obtain⟨c,rfl,O,N,u,rfl⟩:=hrel;rcases Yj c b.length with B|B
  .have b5:(0:Int)<=(c:Int):=by omega
   have a7:(c:Int)<(b.length:Int):=by omega
   have a9:(⟨b.toArray⟩:ByteArray)[c]'(by simp[ByteArray.size];exact B)=b[c]:=rfl;have r:=Z (pL b[c]);have w:=Z (lY b[c]);cases k:Mar.bx b[c]with
   |true=>
    have E:U (∀j (D:j<b.length),a<j->j<c+1->Mar.bx b[j]=true):=by
     intro j D M R;by_cases f:j=c
     .subst f;exact k
     .exact u.b j D M (by omega)
    clear u;cases p:Mar.cs b[c]with
    |true=>
     rw[p]at r;clear k p;go_wp2_with fail;refine(r.b _).mono ?_;rintro f m ⟨rfl,rfl⟩;go_wp2;exact⟨⟨c+1,by go_num,by omega,B,E,trivial⟩,by simp[intOf];omega⟩
    |false=>
     rw[p]at r;cases q:Mar.b9 b[c]with
     |true=>
      rw[q]at w;clear k p q;go_wp2_with fail;refine(r.b _).mono ?_;rintro f m ⟨rfl,rfl⟩;go_wp2_with fail;refine(w.b _).mono ?_;rintro f m ⟨rfl,rfl⟩;go_wp2;exact⟨⟨c+1,by go_num,by omega,B,E,trivial⟩,by simp[intOf];omega⟩
     |false=>
      rw[q]at w;have S:((b[c].toNat:Int)==95)=true:=by
       simp only[Mar.bx,p,q,Bool.false_or,beq_iff_eq]at k;rw[k];rfl
      clear k p q;go_wp2_with fail;refine(r.b _).mono ?_;rintro f m ⟨rfl,rfl⟩;go_wp2_with fail;refine(w.b _).mono ?_;rintro f m ⟨rfl,rfl⟩;go_wp2;exact⟨⟨c+1,by go_num,by omega,B,E,trivial⟩,by simp[intOf];omega⟩
   |false=>
    have s:=rL z O N u.b (λ_=>k);have a0:Mar.cs b[c]=false/\Mar.b9 b[c]=false/\((b[c].toNat:Int)==95)=false:=by
     simp only[Mar.bx,Bool.or_eq_false_iff]at k;refine⟨k.1.1,k.1.2,?_⟩;have:=k.2;rw[Yi]at this ⊢;omega
    obtain⟨p,q,S⟩:=a0;rw[p]at r;rw[q]at w;clear k p q;go_wp2_with fail;refine(r.b _).mono ?_;rintro f m ⟨rfl,rfl⟩;go_wp2_with fail;refine(w.b _).mono ?_;rintro f m ⟨rfl,rfl⟩;obtain⟨d,t⟩:∃d,U (d=Mar.af (b.drop a)):=⟨_,rfl⟩;have hcut:(⟨b.toArray⟩:ByteArray).extract a c=⟨d.toArray⟩:=by
     have f:=px b a (c-a);rw[show a+(c-a)=c by omega,s,<-t.b]at f;exact f
    have A:c=a+d.length:=by
     rw[t.b,<-s,YW,YI];omega
    have F:=Z (Bh ⟨d.toArray⟩);have i:U (cQ b h=match Mar.c0 d a with|.ok e=>⟨e.f,e.text,a,a+e.text.length,e.n,0⟩|.error y=>⟨5,[],a,0,0,y.no⟩):=by
     show _=_;rw[K.b,<-t.b]
    have a1:(0:Int)<=(a:Int):=by omega
    have a2:(a:Int)<=(c:Int):=by omega
    have a3:(c:Int)<=(b.length:Int):=by omega
    have x:=Z A;clear s u A;go_wp2_with fail;refine(F.b _).mono ?_;rintro f m ⟨rfl,rfl⟩;cases g:Mar.db d with
    |true=>
     have o:¬16<d.length:=Bi g;have l:U (cQ b h=⟨2,d,a,a+d.length,0,0⟩):=by show _=_;rw[i.b];unfold Mar.c0;rw[Y2 o,Y9 g]
     clear g i;go_wp2;refine bodyPost_ret (v:=.agg (dt ⟨2,d,a,a+d.length,0,0⟩)) (by simp[results,results80,go_sem,x.b]) rfl ?_;exact⟨by rw[l.b],(ah [] e).d _⟩
    |false=>
     by_cases o:16<d.length
     .have l:U (cQ b h=⟨5,[],a,0,0,7⟩):=by show _=_;rw[i.b];unfold Mar.c0;rw[Y9 o]
      have J:(16:Int)<(d.length:Int):=by omega
      clear g i;go_wp2;refine bodyPost_ret (v:=.agg (dt ⟨5,[],a,0,0,7⟩)) (by simp[results,results80,go_sem]) rfl ?_;exact⟨by rw[l.b],(ah [] e).d _⟩
     .have l:U (cQ b h=⟨1,d,a,a+d.length,0,0⟩):=by show _=_;rw[i.b];unfold Mar.c0;rw[Y2 o,Y2 (by rw[g];simp)]
      have J:¬((16:Int)<(d.length:Int)):=by omega
      clear g i;go_wp2;refine bodyPost_ret (v:=.agg (dt ⟨1,d,a,a+d.length,0,0⟩)) (by simp[results,results80,go_sem,x.b]) rfl ?_;exact⟨by rw[l.b],(ah [] e).d _⟩
  .have s:=rL z O N u.b (λa8=>by omega);have a7:¬((c:Int)<(b.length:Int)):=by omega
   obtain⟨d,t⟩:∃d,U (d=Mar.af (b.drop a)):=⟨_,rfl⟩;have hcut:(⟨b.toArray⟩:ByteArray).extract a c=⟨d.toArray⟩:=by
    have f:=px b a (c-a);rw[show a+(c-a)=c by omega,s,<-t.b]at f;exact f
   have A:c=a+d.length:=by
    rw[t.b,<-s,YW,YI];omega
   have F:=Z (Bh ⟨d.toArray⟩);have i:U (cQ b h=match Mar.c0 d a with|.ok e=>⟨e.f,e.text,a,a+e.text.length,e.n,0⟩|.error y=>⟨5,[],a,0,0,y.no⟩):=by
    show _=_;rw[K.b,<-t.b]
   have a1:(0:Int)<=(a:Int):=by omega
   have a2:(a:Int)<=(c:Int):=by omega
   have a3:(c:Int)<=(b.length:Int):=by omega
   have x:=Z A;clear s u A;go_wp2_with fail;refine(F.b _).mono ?_;rintro f m ⟨rfl,rfl⟩;cases g:Mar.db d with
   |true=>
    have o:¬16<d.length:=Bi g;have l:U (cQ b h=⟨2,d,a,a+d.length,0,0⟩):=by show _=_;rw[i.b];unfold Mar.c0;rw[Y2 o,Y9 g]
    clear g i;go_wp2;refine bodyPost_ret (v:=.agg (dt ⟨2,d,a,a+d.length,0,0⟩)) (by simp[results,results80,go_sem,x.b]) rfl ?_;exact⟨by rw[l.b],(ah [] e).d _⟩
   |false=>
    by_cases o:16<d.length
    .have l:U (cQ b h=⟨5,[],a,0,0,7⟩):=by show _=_;rw[i.b];unfold Mar.c0;rw[Y9 o]
     have J:(16:Int)<(d.length:Int):=by omega
     clear g i;go_wp2;refine bodyPost_ret (v:=.agg (dt ⟨5,[],a,0,0,7⟩)) (by simp[results,results80,go_sem]) rfl ?_;exact⟨by rw[l.b],(ah [] e).d _⟩
    .have l:U (cQ b h=⟨1,d,a,a+d.length,0,0⟩):=by show _=_;rw[i.b];unfold Mar.c0;rw[Y2 o,Y2 (by rw[g];simp)]
     have J:¬((16:Int)<(d.length:Int)):=by omega
     clear g i;go_wp2;refine bodyPost_ret (v:=.agg (dt ⟨1,d,a,a+d.length,0,0⟩)) (by simp[results,results80,go_sem,x.b]) rfl ?_;exact⟨by rw[l.b],(ah [] e).d _⟩
def Ag(a:List UInt8)(b:Nat):(⟨a.toArray⟩:ByteArray).extract b a.length=⟨(a.drop b).toArray⟩:=by
 apply ByteArray.ext;simp only[ByteArray.data_extract];apply Array.ext';simp[Array.toList_extract,List.extract];exact List.take_of_length_le (by simp)
def ES(b:List UInt8)(k a:Nat)(b1:k<=b.length)(c6:b.length<=2000)(N:dU b k=a)(x:a<b.length)(C:Mar.b9 b[a]=true)(l:World) :
  Calls prog 80 #[.string ⟨b.toArray⟩,.int .i64 k] l λe b7=>e=.returned (.agg (dt (cQ b k)))/\ai [] l b7:=by
 have H:=λb5=>sW b k b1 (by omega) b5;rw[N]at H;have H:=Z H;have a2:=Z (pL b[a]);have a1:=Z (lY b[a]);have a9:=(oo b[a]).1 C;have M:Mar.cs b[a]=false:=by
  unfold Mar.cs;simp;omega
 have c0:((b[a].toNat:Int)==45)=false:=by rw[Yi];omega
 rw[M]at a2;rw[C]at a1;have a0:U (cQ b k=match Mar.dk (Mar.af (b.drop a)) a with|.ok l=>⟨l.f,l.text,a,a+l.text.length,l.n,0⟩|.error a6=>⟨5,[],a,0,0,a6.no⟩):=by
  show _=_;unfold cQ;rw[N,Yk x];unfold Mar.cd;simp only[M,Ye,if_false]
  rw[Y9 (by rw[C];rfl)];cases Mar.dk (Mar.af (b[a]::List.drop (a+1) b)) a<;>rfl
 have c3:(0:Int)<=(a:Int):=by omega
 have c4:(a:Int)<(b.length:Int):=by omega
 have c5:((a:Int)==(b.length:Int))=false:=by rw[Yi];omega
 have c2:(⟨b.toArray⟩:ByteArray)[a]'(by simp[ByteArray.size];exact x)=b[a]:=rfl;have S:=Z C;clear N C M a9;go_in;go_wp2_with fail;refine(H.b _).mono ?_;rintro e i ⟨rfl,rfl⟩;go_wp2_with fail;refine(a2.b _).mono ?_;rintro e i ⟨rfl,rfl⟩;go_wp2_with fail;refine(a1.b _).mono ?_;rintro e i ⟨rfl,rfl⟩;go_wp2_with fail;go_loopw [6] (λL b6=>∃c:Nat,L=.int .i64 c/\a<c/\c<=b.length/\U (∀h (I:h<b.length),a<h->h<c->Mar.bx b[h]=true)/\b6=l.alloc (.cells #[.int .i64 0,.string ⟨#[]⟩,.int .i64 0,.int .i64 0,.int .i64 0,.int .i64 0] 112)) (λL _=>b.length-(intOf L).toNat)
 case atStart=>exact⟨a+1,by go_num,by omega,x,(λh I a3 a7=>by omega),rfl⟩
 case round=>
  obtain⟨c,rfl,a5,a4,z,rfl⟩:=hrel;rcases Yj c b.length with E|E
  .have c7:(0:Int)<=(c:Int):=by omega
   have b8:(c:Int)<(b.length:Int):=by omega
   have c1:(⟨b.toArray⟩:ByteArray)[c]'(by simp[ByteArray.size];exact E)=b[c]:=rfl;have u:=Z (pL b[c]);have A:=Z (lY b[c]);cases j:Mar.bx b[c]with
   |true=>
    have J:U (∀h (I:h<b.length),a<h->h<c+1->Mar.bx b[h]=true):=by
     intro h I a3 a7;by_cases e:h=c
     .subst e;exact j
     .exact z.b h I a3 (by omega)
    clear z;cases p:Mar.cs b[c]with
    |true=>
     rw[p]at u;clear j p;go_wp2_with fail;refine(u.b _).mono ?_;rintro e i ⟨rfl,rfl⟩;go_wp2;exact⟨⟨c+1,by go_num,by omega,E,J,trivial⟩,by simp[intOf];omega⟩
    |false=>
     rw[p]at u;cases s:Mar.b9 b[c]with
     |true=>
      rw[s]at A;clear j p s;go_wp2_with fail;refine(u.b _).mono ?_;rintro e i ⟨rfl,rfl⟩;go_wp2_with fail;refine(A.b _).mono ?_;rintro e i ⟨rfl,rfl⟩;go_wp2;exact⟨⟨c+1,by go_num,by omega,E,J,trivial⟩,by simp[intOf];omega⟩
     |false=>
      rw[s]at A;have a8:((b[c].toNat:Int)==95)=true:=by
       simp only[Mar.bx,p,s,Bool.false_or,beq_iff_eq]at j;rw[j];rfl
      clear j p s;go_wp2_with fail;refine(u.b _).mono ?_;rintro e i ⟨rfl,rfl⟩;go_wp2_with fail;refine(A.b _).mono ?_;rintro e i ⟨rfl,rfl⟩;go_wp2;exact⟨⟨c+1,by go_num,by omega,E,J,trivial⟩,by simp[intOf];omega⟩
   |false=>
    have w:=rL x a5 a4 z.b (λ_=>j);have b0:Mar.cs b[c]=false/\Mar.b9 b[c]=false/\((b[c].toNat:Int)==95)=false:=by
     simp only[Mar.bx,Bool.or_eq_false_iff]at j;refine⟨j.1.1,j.1.2,?_⟩;have:=j.2;rw[Yi]at this ⊢;omega
    obtain⟨p,s,a8⟩:=b0;rw[p]at u;rw[s]at A;clear j p s;go_wp2_with fail;refine(u.b _).mono ?_;rintro e i ⟨rfl,rfl⟩;go_wp2_with fail;refine(A.b _).mono ?_;rintro e i ⟨rfl,rfl⟩;obtain⟨d,m⟩:∃d,U (d=Mar.af (b.drop a)):=⟨_,rfl⟩;have hcut:(⟨b.toArray⟩:ByteArray).extract a c=⟨d.toArray⟩:=by
     have e:=px b a (c-a);rw[show a+(c-a)=c by omega,w,<-m.b]at e;exact e
    have D:c=a+d.length:=by
     rw[m.b,<-w,YW,YI];omega
    have O:d.length<=2000:=by omega
    obtain⟨o,y,G,B⟩:∃o y,d=o::y/\Mar.b9 o=true:=⟨_,_,by rw[m.b,Yk x];rfl,S.b⟩;have F:Mar.d2 d=cA d false:=by rw[G];exact Cf B
    have f:=Z (vv d false O);clear G B o y;have n:U (cQ b k=match cA d false with|some r=>⟨3,d,a,a+d.length,r,0⟩|none=>⟨5,[],a,0,0,4⟩):=by
     show _=_;rw[a0.b,<-m.b];unfold Mar.dk;rw[F];cases cA d false<;>rfl
    have b2:(0:Int)<=(a:Int):=by omega
    have b3:(a:Int)<=(c:Int):=by omega
    have b4:(c:Int)<=(b.length:Int):=by omega
    have K:=Z D;clear w z D F m;cases g:cA d false with
    |none=>
     rw[g]at f;have t:U (cQ b k=⟨5,[],a,0,0,4⟩):=by show _=_;rw[n.b,g]
     clear g n;go_wp2_with fail;refine(f.b _).mono ?_;rintro e i ⟨rfl,r,rfl,q⟩;clear f q;have P:(none:Option Int).isSome=false:=rfl;go_wp2;refine bodyPost_ret (v:=.agg (dt ⟨5,[],a,0,0,4⟩)) (by simp[results,results80,go_sem]) rfl ?_;exact⟨by rw[t.b],(ah [] l).d _⟩
    |some v=>
     rw[g]at f;have t:U (cQ b k=⟨3,d,a,a+d.length,v,0⟩):=by show _=_;rw[n.b,g]
     clear g n;go_wp2_with fail;refine(f.b _).mono ?_;rintro e i ⟨rfl,r,rfl,q⟩;obtain rfl:=q v rfl;clear f q;have P:∀R:Int,(some R).isSome=true:=λ_=>rfl;go_wp2;refine bodyPost_ret (v:=.agg (dt ⟨3,d,a,a+d.length,r,0⟩)) (by simp[results,results80,go_sem,K.b]) rfl ?_;exact⟨by rw[t.b],(ah [] l).d _⟩
  .have w:=rL x a5 a4 z.b (λb9=>by omega);have b8:¬((c:Int)<(b.length:Int)):=by omega
   obtain⟨d,m⟩:∃d,U (d=Mar.af (b.drop a)):=⟨_,rfl⟩;have hcut:(⟨b.toArray⟩:ByteArray).extract a c=⟨d.toArray⟩:=by
    have e:=px b a (c-a);rw[show a+(c-a)=c by omega,w,<-m.b]at e;exact e
   have D:c=a+d.length:=by
    rw[m.b,<-w,YW,YI];omega
   have O:d.length<=2000:=by omega
   obtain⟨o,y,G,B⟩:∃o y,d=o::y/\Mar.b9 o=true:=⟨_,_,by rw[m.b,Yk x];rfl,S.b⟩;have F:Mar.d2 d=cA d false:=by rw[G];exact Cf B
   have f:=Z (vv d false O);clear G B o y;have n:U (cQ b k=match cA d false with|some r=>⟨3,d,a,a+d.length,r,0⟩|none=>⟨5,[],a,0,0,4⟩):=by
    show _=_;rw[a0.b,<-m.b];unfold Mar.dk;rw[F];cases cA d false<;>rfl
   have b2:(0:Int)<=(a:Int):=by omega
   have b3:(a:Int)<=(c:Int):=by omega
   have b4:(c:Int)<=(b.length:Int):=by omega
   have K:=Z D;clear w z D F m;cases g:cA d false with
   |none=>
    rw[g]at f;have t:U (cQ b k=⟨5,[],a,0,0,4⟩):=by show _=_;rw[n.b,g]
    clear g n;go_wp2_with fail;refine(f.b _).mono ?_;rintro e i ⟨rfl,r,rfl,q⟩;clear f q;have P:(none:Option Int).isSome=false:=rfl;go_wp2;refine bodyPost_ret (v:=.agg (dt ⟨5,[],a,0,0,4⟩)) (by simp[results,results80,go_sem]) rfl ?_;exact⟨by rw[t.b],(ah [] l).d _⟩
   |some v=>
    rw[g]at f;have t:U (cQ b k=⟨3,d,a,a+d.length,v,0⟩):=by show _=_;rw[n.b,g]
    clear g n;go_wp2_with fail;refine(f.b _).mono ?_;rintro e i ⟨rfl,r,rfl,q⟩;obtain rfl:=q v rfl;clear f q;have P:∀R:Int,(some R).isSome=true:=λ_=>rfl;go_wp2;refine bodyPost_ret (v:=.agg (dt ⟨3,d,a,a+d.length,r,0⟩)) (by simp[results,results80,go_sem,K.b]) rfl ?_;exact⟨by rw[t.b],(ah [] l).d _⟩
def EV(b:List UInt8)(k a:Nat)(a8:k<=b.length)(c5:b.length<=2000)(L:dU b k=a)(w:a<b.length)(B:b[a]=45)(l:World) :
  Calls prog 80 #[.string ⟨b.toArray⟩,.int .i64 k] l λe b6=>e=.returned (.agg (dt (cQ b k)))/\ai [] l b6:=by
 have F:=λb4=>sW b k a8 (by omega) b4;rw[L]at F;have F:=Z F;have S:=Z (pL b[a]);have R:=Z (lY b[a]);have K:Mar.cs b[a]=false:=by rw[B];rfl
 have a1:Mar.b9 b[a]=false:=by rw[B];rfl
 have b9:((b[a].toNat:Int)==45)=true:=by rw[B];rfl
 rw[K]at S;rw[a1]at R;have P:U (cQ b k=match Mar.dk (Mar.af (b.drop a)) a with|.ok l=>⟨l.f,l.text,a,a+l.text.length,l.n,0⟩|.error a4=>⟨5,[],a,0,0,a4.no⟩):=by
  show _=_;unfold cQ;rw[L,Yk w];unfold Mar.cd;simp only[K,Ye,if_false]
  rw[Y9 (by rw[B];rfl)];cases Mar.dk (Mar.af (b[a]::List.drop (a+1) b)) a<;>rfl
 have c2:(0:Int)<=(a:Int):=by omega
 have c3:(a:Int)<(b.length:Int):=by omega
 have c4:((a:Int)==(b.length:Int))=false:=by rw[Yi];omega
 have c1:(⟨b.toArray⟩:ByteArray)[a]'(by simp[ByteArray.size];exact w)=b[a]:=rfl;have O:=Z B;clear L B K a1;go_in;go_wp2_with fail;refine(F.b _).mono ?_;rintro e i ⟨rfl,rfl⟩;go_wp2_with fail;refine(S.b _).mono ?_;rintro e i ⟨rfl,rfl⟩;go_wp2_with fail;refine(R.b _).mono ?_;rintro e i ⟨rfl,rfl⟩;go_wp2_with fail;go_loopw [6] (λJ b5=>∃d:Nat,J=.int .i64 d/\a<d/\d<=b.length/\U (∀h (G:h<b.length),a<h->h<d->Mar.bx b[h]=true)/\b5=l.alloc (.cells #[.int .i64 0,.string ⟨#[]⟩,.int .i64 0,.int .i64 0,.int .i64 0,.int .i64 0] 112)) (λJ _=>b.length-(intOf J).toNat)
 case atStart=>exact⟨a+1,by go_num,by omega,w,(λh G a0 a5=>by omega),rfl⟩
 case round=>
  obtain⟨d,rfl,a3,a2,z,rfl⟩:=hrel;rcases Yj d b.length with D|D
  .have c6:(0:Int)<=(d:Int):=by omega
   have b7:(d:Int)<(b.length:Int):=by omega
   have c0:(⟨b.toArray⟩:ByteArray)[d]'(by simp[ByteArray.size];exact D)=b[d]:=rfl;have t:=Z (pL b[d]);have A:=Z (lY b[d]);cases j:Mar.bx b[d]with
   |true=>
    have H:U (∀h (G:h<b.length),a<h->h<d+1->Mar.bx b[h]=true):=by
     intro h G a0 a5;by_cases e:h=d
     .subst e;exact j
     .exact z.b h G a0 (by omega)
    clear z;cases p:Mar.cs b[d]with
    |true=>
     rw[p]at t;clear j p;go_wp2_with fail;refine(t.b _).mono ?_;rintro e i ⟨rfl,rfl⟩;go_wp2;exact⟨⟨d+1,by go_num,by omega,D,H,trivial⟩,by simp[intOf];omega⟩
    |false=>
     rw[p]at t;cases n:Mar.b9 b[d]with
     |true=>
      rw[n]at A;clear j p n;go_wp2_with fail;refine(t.b _).mono ?_;rintro e i ⟨rfl,rfl⟩;go_wp2_with fail;refine(A.b _).mono ?_;rintro e i ⟨rfl,rfl⟩;go_wp2;exact⟨⟨d+1,by go_num,by omega,D,H,trivial⟩,by simp[intOf];omega⟩
     |false=>
      rw[n]at A;have a6:((b[d].toNat:Int)==95)=true:=by
       simp only[Mar.bx,p,n,Bool.false_or,beq_iff_eq]at j;rw[j];rfl
      clear j p n;go_wp2_with fail;refine(t.b _).mono ?_;rintro e i ⟨rfl,rfl⟩;go_wp2_with fail;refine(A.b _).mono ?_;rintro e i ⟨rfl,rfl⟩;go_wp2;exact⟨⟨d+1,by go_num,by omega,D,H,trivial⟩,by simp[intOf];omega⟩
   |false=>
    have u:=rL w a3 a2 z.b (λ_=>j);have a7:Mar.cs b[d]=false/\Mar.b9 b[d]=false/\((b[d].toNat:Int)==95)=false:=by
     simp only[Mar.bx,Bool.or_eq_false_iff]at j;refine⟨j.1.1,j.1.2,?_⟩;have:=j.2;rw[Yi]at this ⊢;omega
    obtain⟨p,n,a6⟩:=a7;rw[p]at t;rw[n]at A;clear j p n;go_wp2_with fail;refine(t.b _).mono ?_;rintro e i ⟨rfl,rfl⟩;go_wp2_with fail;refine(A.b _).mono ?_;rintro e i ⟨rfl,rfl⟩;obtain⟨c,m⟩:∃c,U (c=Mar.af (b.drop a)):=⟨_,rfl⟩;have hcut:(⟨b.toArray⟩:ByteArray).extract a d=⟨c.toArray⟩:=by
     have e:=px b a (d-a);rw[show a+(d-a)=d by omega,u,<-m.b]at e;exact e
    have C:d=a+c.length:=by
     rw[m.b,<-u,YW,YI];omega
    have b0:c.length<=2000:=by omega
    obtain⟨y,x⟩:∃y,c=45::y:=⟨_,by rw[m.b,Yk w,O.b];rfl⟩;have E:Mar.d2 c=cA c.tail true:=by rw[x];exact Ce y
    have f:=Z (vv c.tail true (by rw[List.length_tail];omega));have n:(⟨c.toArray⟩:ByteArray).extract 1 c.length=⟨c.tail.toArray⟩:=by
     have e:=Ag c 1;rw[List.drop_one]at e;exact e
    have a9:(1:Int)<=(c.length:Int):=by rw[x];simp;omega
    clear x;have o:U (cQ b k=match cA c.tail true with|some r=>⟨3,c,a,a+c.length,r,0⟩|none=>⟨5,[],a,0,0,4⟩):=by
     show _=_;rw[P.b,<-m.b];unfold Mar.dk;rw[E];cases cA c.tail true<;>rfl
    have b1:(0:Int)<=(a:Int):=by omega
    have b2:(a:Int)<=(d:Int):=by omega
    have b3:(d:Int)<=(b.length:Int):=by omega
    have I:=Z C;clear u z C E m;cases g:cA c.tail true with
    |none=>
     rw[g]at f;have s:U (cQ b k=⟨5,[],a,0,0,4⟩):=by show _=_;rw[o.b,g]
     clear g o;go_wp2_with fail;refine(f.b _).mono ?_;rintro e i ⟨rfl,r,rfl,q⟩;clear f q;have M:(none:Option Int).isSome=false:=rfl;go_wp2;refine bodyPost_ret (v:=.agg (dt ⟨5,[],a,0,0,4⟩)) (by simp[results,results80,go_sem]) rfl ?_;exact⟨by rw[s.b],(ah [] l).d _⟩
    |some v=>
     rw[g]at f;have s:U (cQ b k=⟨3,c,a,a+c.length,v,0⟩):=by show _=_;rw[o.b,g]
     clear g o;go_wp2_with fail;refine(f.b _).mono ?_;rintro e i ⟨rfl,r,rfl,q⟩;obtain rfl:=q v rfl;clear f q;have M:∀N:Int,(some N).isSome=true:=λ_=>rfl;go_wp2;refine bodyPost_ret (v:=.agg (dt ⟨3,c,a,a+c.length,r,0⟩)) (by simp[results,results80,go_sem,I.b]) rfl ?_;exact⟨by rw[s.b],(ah [] l).d _⟩
  .have u:=rL w a3 a2 z.b (λb8=>by omega);have b7:¬((d:Int)<(b.length:Int)):=by omega
   obtain⟨c,m⟩:∃c,U (c=Mar.af (b.drop a)):=⟨_,rfl⟩;have hcut:(⟨b.toArray⟩:ByteArray).extract a d=⟨c.toArray⟩:=by
    have e:=px b a (d-a);rw[show a+(d-a)=d by omega,u,<-m.b]at e;exact e
   have C:d=a+c.length:=by
    rw[m.b,<-u,YW,YI];omega
   have b0:c.length<=2000:=by omega
   obtain⟨y,x⟩:∃y,c=45::y:=⟨_,by rw[m.b,Yk w,O.b];rfl⟩;have E:Mar.d2 c=cA c.tail true:=by rw[x];exact Ce y
   have f:=Z (vv c.tail true (by rw[List.length_tail];omega));have n:(⟨c.toArray⟩:ByteArray).extract 1 c.length=⟨c.tail.toArray⟩:=by
    have e:=Ag c 1;rw[List.drop_one]at e;exact e
   have a9:(1:Int)<=(c.length:Int):=by rw[x];simp;omega
   clear x;have o:U (cQ b k=match cA c.tail true with|some r=>⟨3,c,a,a+c.length,r,0⟩|none=>⟨5,[],a,0,0,4⟩):=by
    show _=_;rw[P.b,<-m.b];unfold Mar.dk;rw[E];cases cA c.tail true<;>rfl
   have b1:(0:Int)<=(a:Int):=by omega
   have b2:(a:Int)<=(d:Int):=by omega
   have b3:(d:Int)<=(b.length:Int):=by omega
   have I:=Z C;clear u z C E m;cases g:cA c.tail true with
   |none=>
    rw[g]at f;have s:U (cQ b k=⟨5,[],a,0,0,4⟩):=by show _=_;rw[o.b,g]
    clear g o;go_wp2_with fail;refine(f.b _).mono ?_;rintro e i ⟨rfl,r,rfl,q⟩;clear f q;have M:(none:Option Int).isSome=false:=rfl;go_wp2;refine bodyPost_ret (v:=.agg (dt ⟨5,[],a,0,0,4⟩)) (by simp[results,results80,go_sem]) rfl ?_;exact⟨by rw[s.b],(ah [] l).d _⟩
   |some v=>
    rw[g]at f;have s:U (cQ b k=⟨3,c,a,a+c.length,v,0⟩):=by show _=_;rw[o.b,g]
    clear g o;go_wp2_with fail;refine(f.b _).mono ?_;rintro e i ⟨rfl,r,rfl,q⟩;obtain rfl:=q v rfl;clear f q;have M:∀N:Int,(some N).isSome=true:=λ_=>rfl;go_wp2;refine bodyPost_ret (v:=.agg (dt ⟨3,c,a,a+c.length,r,0⟩)) (by simp[results,results80,go_sem,I.b]) rfl ?_;exact⟨by rw[s.b],(ah [] l).d _⟩
def OO(a:UInt8):Mar.e1 a=(((a.toNat:Int)==123)||((a.toNat:Int)==125)||((a.toNat:Int)==40)||((a.toNat:Int)==41)||((a.toNat:Int)==91)||((a.toNat:Int)==93)||((a.toNat:Int)==60)||((a.toNat:Int)==62)||((a.toNat:Int)==42)||((a.toNat:Int)==44)||((a.toNat:Int)==59)||((a.toNat:Int)==58)||((a.toNat:Int)==61)):=by
 have b:((a.toNat:Int)==123)=(a==123):=kg a 123 (by omega);have g:((a.toNat:Int)==125)=(a==125):=kg a 125 (by omega);have h:((a.toNat:Int)==40)=(a==40):=kg a 40 (by omega);have i:((a.toNat:Int)==41)=(a==41):=kg a 41 (by omega);have j:((a.toNat:Int)==91)=(a==91):=kg a 91 (by omega);have k:((a.toNat:Int)==93)=(a==93):=kg a 93 (by omega);have l:((a.toNat:Int)==60)=(a==60):=kg a 60 (by omega);have m:((a.toNat:Int)==62)=(a==62):=kg a 62 (by omega);have n:((a.toNat:Int)==42)=(a==42):=kg a 42 (by omega);have c:((a.toNat:Int)==44)=(a==44):=kg a 44 (by omega);have d:((a.toNat:Int)==59)=(a==59):=kg a 59 (by omega);have e:((a.toNat:Int)==58)=(a==58):=kg a 58 (by omega);have f:((a.toNat:Int)==61)=(a==61):=kg a 61 (by omega);rw[b,g,h,i,j,k,l,m,n,c,d,e,f];simp only[Mar.e1,List.contains_cons,List.contains_nil,Bool.or_false,Bool.or_assoc]
def ET(a:List UInt8)(b:Nat)(h:b<=a.length)(k:a.length<=2000)(f:dU a b=a.length)(d:World) :
  Calls prog 80 #[.string ⟨a.toArray⟩,.int .i64 b] d λe j=>e=.returned (.agg (dt (cQ a b)))/\ai [] d j:=by
 have c:=λi=>sW a b h (by omega) i;rw[f]at c;have c:=Z c;have g:U (cQ a b=⟨0,[],a.length,a.length,0,0⟩):=by
  show _=_;unfold cQ;rw[f,List.drop_length];rfl
 go_in;go_wp2_with fail;refine(c.b _).mono ?_;rintro e l ⟨rfl,rfl⟩;go_wp2;refine bodyPost_ret (v:=.agg (dt ⟨0,[],a.length,a.length,0,0⟩)) (by simp[results,results80,go_sem]) rfl ?_;exact⟨by rw[g.b],(ah [] d).d _⟩
def EX(b:List UInt8)(d a:Nat)(u:d<=b.length)(G:b.length<=2000)(s:dU b d=a)(l:a<b.length)(r:Mar.cs b[a]=false)(q:Mar.b9 b[a]=false)(p:b[a]≠45)(h:World) :
  Calls prog 80 #[.string ⟨b.toArray⟩,.int .i64 d] h λe x=>e=.returned (.agg (dt (cQ b d)))/\ai [] h x:=by
 have g:=λw=>sW b d u (by omega) w;rw[s]at g;have g:=Z g;have o:=Z (pL b[a]);have n:=Z (lY b[a]);rw[r]at o;rw[q]at n;have y:((b[a].toNat:Int)==45)=false:=by
  have:b[a].toNat≠45:=λe=>p (UInt8.toNat_inj.1 (by simpa using e));rw[Yi];omega
 have m:U (cQ b d=if Mar.e1 b[a]then ⟨4,[b[a]],a,a+1,0,0⟩else ⟨5,[],a,0,0,2⟩):=by
  show _=_;unfold cQ;rw[s,Yk l];unfold Mar.cd;simp only[r,q,Ye,if_false,Bool.false_or]
  rw[Y2 (by simpa using p)];cases Mar.e1 b[a]<;>rfl
 have B:(0:Int)<=(a:Int):=by omega
 have C:(a:Int)<(b.length:Int):=by omega
 have D:((a:Int)==(b.length:Int))=false:=by rw[Yi];omega
 have E:(a:Int)<=(a:Int)+1:=by omega
 have F:(a:Int)+1<=(b.length:Int):=by omega
 have A:(⟨b.toArray⟩:ByteArray)[a]'(by simp[ByteArray.size];exact l)=b[a]:=rfl;have hcut:(⟨b.toArray⟩:ByteArray).extract a (a+1)=⟨[b[a]].toArray⟩:=by
  rw[px,Yk l];rfl
 have j:=Z (OO b[a]);generalize z:b[a]=k at *
 go_in;go_wp2_with fail;refine(g.b _).mono ?_;rintro e t ⟨rfl,rfl⟩;go_wp2_with fail;refine(o.b _).mono ?_;rintro e t ⟨rfl,rfl⟩;go_wp2_with fail;refine(n.b _).mono ?_;rintro e t ⟨rfl,rfl⟩;cases f:Mar.e1 k with
 |true=>
  have i:U (cQ b d=⟨4,[k],a,a+1,0,0⟩):=by show _=_;rw[m.b,f];rfl
  go_wp2;all_goals
   first
    |(exfalso;have c:=j.b;rw[f]at c;simp only[*, Bool.or_self]at c;done)
    |(exfalso;have c:=j.b;rw[f]at c;simp only[*, Bool.or_self, Bool.true_eq_false, reduceCtorEq]at c;done)
    |(refine bodyPost_ret (v:=.agg (dt ⟨4,[k],a,a+1,0,0⟩)) (by simp[results,results80,go_sem]) rfl ?_;exact⟨by rw[i.b], (ah [] h).d _⟩)
 |false=>
  have i:U (cQ b d=⟨5,[],a,0,0,2⟩):=by show _=_;rw[m.b,f];rfl
  have c:=j.b;rw[f]at c;simp only[Bool.false_eq,Bool.or_eq_false_iff]at c;obtain⟨⟨⟨⟨⟨⟨⟨⟨⟨⟨⟨⟨H,M⟩,N⟩,O⟩,P⟩,R⟩,S⟩,a0⟩,a1⟩,I⟩,J⟩,K⟩,L⟩:=c;go_wp2;refine bodyPost_ret (v:=.agg (dt ⟨5,[],a,0,0,2⟩)) (by simp[results,results80,go_sem]) rfl ?_;exact⟨by rw[i.b],(ah [] h).d _⟩
def AN{a:List UInt8}{b:Nat}(c:b<=a.length):dU a b<=a.length:=by
 unfold dU Mar.dM;have:=Mar.l7 ((a.drop b).length+1) (a.drop b);rw[YI]at this ⊢;omega
def EW(a:List UInt8)(b:Nat)(d:b<=a.length)(e:a.length<=2000)(c:World) :
  Calls prog 80 #[.string ⟨a.toArray⟩,.int .i64 b] c λj k=>j=.returned (.agg (dt (cQ a b)))/\ai [] c k:=by
 have l:=AN d;rcases Yj (dU a b) a.length with f|m
 .cases g:Mar.cs a[dU a b]with
  |true=>exact EU a b _ d e rfl f g c
  |false=>
   cases h:Mar.b9 a[dU a b]with
   |true=>exact ES a b _ d e rfl f h c
   |false=>
    by_cases i:a[dU a b]=45
    .exact EV a b _ d e rfl f i c
    .exact EX a b _ d e rfl f g h i c
 .exact ET a b d e (by omega) c
end Go.Proofs.YtjdhaegijjednaaGreatDoor
namespace Go.Proofs.YtjdhaegijjednaaGreatDoor
open Go.RowKit
open Go.MapKept
open Go.Proofs.Tryz
section
variable {a:Ad}{f j:Nat}{h d:List Nat}{i:List (Int×Int)}{b:List (List UInt8×Nat×Int)}{c:List UInt8×Nat}{k:Value}{g w:World}{e l m:St}
def xH(w:World)(f:Nat):Nat:=match w.cell? ⟨f,2,none⟩with
 |some (.slice _ c _)=>c
 |_=>0
def IU:(prog.info? 223).map (λa=>(a.zero,a.size,a.bytes))=some (some (.pointer none),1,8):=by kernel_rfl
def jD.ck{o:ByteArray}(n:jD a o w f j c b d h i k e g):∃ad l,k=.slice ad b.length l:=by
 rcases n.row.2 with⟨rfl,m⟩|⟨q,l,p,rfl,_⟩
 .exact⟨none,0,by rw[m]⟩
 .exact⟨_,_,rfl⟩
def Ki{b:Ad}(l:eF b a){d:ByteArray}(c:Nat)(k:Rd b d e w)(n:cT b j)(m:cN j i w) :
  Calls prog 193 #[.pointer (some ⟨a.R,0,none⟩),.int .i64 c,.map (some j)] w (wu [a.R,a.S,a.N,j] b d w j (hX d c i e)):=by
 obtain⟨f,g,h,o⟩:=l;rw[<-f,<-g,<-h];exact Kh c k n m
def Kj{f:ByteArray}{c:Nat}{g:List (Int×Int)}{h:List UInt8×Nat×Int}(a:hX f c i e=.ok (h,g,l)):c<12:=by
 rcases Yj c 12 with b|b
 .exact b
 .exfalso;unfold hX at a;cases d:fI f e with
  |error n=>rw[bl (ci d)]at a;cases a
  |ok j=>
   obtain⟨k,m⟩:=j;rw[aE (aW d),bl (ci (show ei c 12 k.m m=_ from Y9 b))]at a;cases a
def Bq{a e:Nat}{c d:Value}{ad:Option Addr}{b:TypeId}(h:g.heap[f]? = some (.cells #[c,d,.slice ad a e] b)):xH g f=a:=by
 obtain⟨_,_,i,_⟩:=dS h;unfold xH;rw[i]
def jD.bd{p:ByteArray}{q:World}(u:Rd a p m w)(n:jD a p w f j c b d h i k e g)(o:ai [a.S] g q)(r:Rd (a.v h) p l q) :
  jD a p w f j c b d h i k l q:=by
 obtain⟨x,y,z,A⟩:=u.K;have B:=n.E _ n.C.1;have C:=n.E _ n.C.2.1;refine⟨n.B.a (o.l (by simp)),r,n.C,n.E,n.a0.h o (by simp;omega),(o.i _ (aj n.I) (by simp;omega)).trans n.I,aX n.row o ?_,n.G,n.ak,n.c5.h o (by intro D s;simp only[Yc]at s;subst s;exact r.C.2.1)⟩;intro t v;have:=n.E _ (n.G t v).1;simp;omega
def jD.fin{v:ByteArray}(u:Rd a v m w)(o:jD a v w f j c b d h i k e g)(P:b.length<=12)
  {F:Except Mar.M (ao×St)} (D:F=.ok (.enum c.1 c.2 b,e)):fV [a.R,a.S,a.N] a v w F (.returned (.pointer (some ⟨f,0,none⟩))) g:=by
 have z:∀s,w.heap.size<=s->s ∉ a.X:=λs L J=>by have:=u.al _ J;omega
 have E:bm a.X ((d.zip b).map λl=>(l.1,jP l.2)) g:=o.c5.a9 (λa0 K=>Ym _ K);have A:g.heap[f]? = some (.cells #[.string ⟨c.1.toArray⟩,.int .i64 c.2,k] 253)/\f ∉ a.X:=⟨o.I,z _ (o.E _ o.C.1)⟩;have B:∀n (q:n<b.length) (r:n<d.length),(d[n],jP b[n])∈((d.zip b).map λl=>(l.1,jP l.2)):=by
  intro n q r;rw[YE];exact⟨(d[n],b[n]),by rw[List.mem_iff_getElem];exact⟨n,by simp;omega,by simp⟩,rfl⟩
 refine⟨o.B,Y8 ⟨.enum c.1 c.2 b,e,f,?_⟩⟩;rcases o.row.2 with⟨rfl,q⟩|⟨t,x,y,rfl,G,H,I,M,O,C⟩
 .refine⟨(f,.cells #[.string ⟨c.1.toArray⟩,.int .i64 c.2,.slice none 0 0] 253)::((d.zip b).map λl=>(l.1,jP l.2)),D,rfl,jk u.C o.rd,⟨.slice none 0 0,d,Yb,o.ak,Y8 ⟨rfl,q,?_⟩,λn q r=>Y5 _ (B n q r)⟩,?_⟩
  .have:d=[]:=Yv.1 (by rw[o.ak,q]);rw[this];rfl
  .intro l p;rcases Yg.1 p with rfl|p
   .exact A
   .exact E l p
 .refine⟨(f,.cells #[.string ⟨c.1.toArray⟩,.int .i64 c.2,.slice (some ⟨t,0,none⟩) b.length x] 253)::(t,.cells y 223)::((d.zip b).map λl=>(l.1,jP l.2)),D,rfl,jk u.C o.rd,⟨_,d,Yb,o.ak,Ya ⟨t,x,y,rfl,⟨I,by omega⟩,by simp,?_⟩,λn q r=>Y5 _ (Y5 _ (B n q r))⟩,?_⟩
  .rw[Nat.mul_one]at C;rw[YU,o.ak];exact C
  .intro l p;rcases Yg.1 p with rfl|p
   .exact A
   .rcases Yg.1 p with rfl|p
    .exact⟨H,z _ G⟩
    .exact E l p
def HB{m:ByteArray}(x:Nat)(o:Rd a m e w) :
  Calls prog 121 #[.pointer (some ⟨a.R,0,none⟩),.int .i64 x] w (fV [a.R,a.S,a.N] a m w (gm m x e)):=by
 have j8:=jq;have j9:=jr;obtain⟨h9,g3,h5,h6,h7⟩:=info_parts IU;go_in;go_wp2_with fail;refine(vj x o).mono ?_;rintro z k9 ⟨b1,⟨g,l3,F,rfl,e0⟩|⟨s,F,n,p,rfl,q⟩⟩;rotate_left
 .exact aq (dx (b1.l (by simp)) (ah [] _) (bj F) p q)
 have a0:=b1.l (M':=[a.R,a.S,a.N]) (by simp);clear b1;go_wp2_with fail;refine(tp e0).mono ?_;rintro z C ⟨b2,⟨c,l4,M,rfl,b6⟩|⟨s,M,n,p,rfl,q⟩⟩;rotate_left
 .exact aq (dx (a0.a (b2.l (by simp))) a0 ((as F).trans (bj M)) p q)
 have a6:=a0.a (b2.l (M':=[a.R,a.S,a.N]) (by simp));clear b2 a0;dsimp only[fQ];have c7:=b6.al;have j7:=b6.K.2.1;have e1:=b6.G (.cells #[.string ⟨c.1.toArray⟩,.int .i64 c.2,.slice none 0 0] 253);have b7:=aJ (w:=C) (o:=.cells #[.string ⟨c.1.toArray⟩,.int .i64 c.2,.slice none 0 0] 253) rfl;have a1:=a6.d (.cells #[.string ⟨c.1.toArray⟩,.int .i64 c.2,.slice none 0 0] 253);have h2:C.heap.size ∉ [a.S]:=by simp;omega
 go_wp2_with fail;refine(ff (eG a _) _ e1).mono ?_;rintro z u ⟨a2,⟨l0,c1,a3,rfl,e2⟩|⟨s,a3,n,p,rfl,q⟩⟩;rotate_left
 .exact aq (dx (a1.a (a2.l (by simp))) a1 ((as F).trans ((as M).trans (bj a3))) p q)
 have b8:=(a2.i _ (aj b7) h2).trans b7;have g9:=aj b8;have a7:=a1.a (a2.l (M':=[a.R,a.S,a.N]) (by simp));have c6:gm m x e=go m c 13 [] [] c1:=(as F).trans ((as M).trans (as a3));have d6:jD a m w C.heap.size u.heap.size c [] [] [u.heap.size,C.heap.size] [] (.slice none 0 0) c1 (u.alloc (.map #[] 0)):=by
  have g5:ai [] u (u.alloc (.map #[] 0)):=(ah [] u).d _;refine⟨a7.d _,e2.G _,⟨by simp,by simp,by omega⟩,?_,aJ (w:=u) rfl,(g5.i _ g9 (by simp)).trans b8,⟨rfl,Y8 ⟨rfl,rfl⟩⟩,(by intro A K;cases K),rfl,(by intro k6 h3;cases h3)⟩;intro O e5;have k7:=a6.F;have k8:=a7.F;simp at e5;rcases e5 with rfl|rfl<;>omega
 have c3:=Z d6;have c2:=Z c6;have j2:=Z c7;clear a2 b7 a1 e1 d6 c6 b8 a7 e2 F M a3 e0 a6 c7;go_wp2;go_loopw [7] (λn g=>∃(O:Bool) (b:List (List UInt8×Nat×Int)) (d h:List Nat) (i:List (Int×Int)) (k:Value) (l:St),n=.bool O/\b.length<=12/\U (jD a m w C.heap.size u.heap.size c b d h i k l g)/\
   U (gm m x e=(if O then go m c (13-b.length) b i else mX m c b) l)) (λ_ g=>13-xH g C.heap.size)
 case atStart=>exact⟨true,[],[],_,[],_,c1,rfl,by simp,c3,c2⟩
 case round=>
  obtain⟨O,b,d,h,i,k,l,rfl,h0,f,I⟩:=hrel;clear c3 c2;cases O with
  |false=>
   go_wp2_with fail;refine(ff (cC a h) _ f.b.rd).mono ?_;rintro z j ⟨r,⟨l1,j1,y,rfl,L⟩|⟨s,y,n,p,rfl,q⟩⟩;rotate_left
   .exact aq (dx (f.b.B.a (r.l (by simp))) f.b.B (I.b.trans (bj y)) p q)
   have P:=Z (f.b.bd o r L);clear r L;go_wp2_with fail;refine(ff (cC a h) _ P.b.rd).mono ?_;rintro z H ⟨b4,⟨l2,l5,b9,rfl,e3⟩|⟨s,b9,n,p,rfl,q⟩⟩;rotate_left
   .exact aq (dx (P.b.B.a (b4.l (by simp))) P.b.B (I.b.trans ((as y).trans (bj b9))) p q)
   have D:=Z (P.b.bd o b4 e3);clear b4 e3;go_wp2;go_ret;exact D.b.fin o h0 (I.b.trans ((as y).trans (as b9)))
  |true=>
   obtain⟨ad,E,rfl⟩:=f.b.ck;obtain⟨k3,k4,k5,j6⟩:=dS f.b.I;have d0:Below wr.heap.size wr wr.drew:=(Below.refl _ _).drew;have f2:=Z (Ki (cC a h) b.length (f.b.rd.t d0) (f.b.aZ o) ((d0.block _ (aj f.b.a0)).trans f.b.a0));have f4:U (13-b.length=(12-b.length)+1):=by show _=_;omega
   have a5:U (gm m x e=go m c ((12-b.length)+1) b i l):=by
    have J:=I.b;rw[f4.b]at J;exact J
   clear I;have d2:∀(s:Mar.M) (n:Nat) (a4:World),hX m b.length i l=.error s->wr.heap.size<=n->ai [a.R,a.S,a.N,u.heap.size] wr.drew a4->a4.heap[n]? = some (.cells #[.int .i64 s.no,.int .i64 s.m] 179)->
     fV [a.R,a.S,a.N] a m w (gm m x e) (.panicked [{ v:=.iface 143 (.pointer (some ⟨n,0,none⟩)),recovered:=false }]) a4:=by
    intro s n a4 g0 f8 g4 f9;have k2:=f.b.E _ f.b.C.2.1;refine dx (f.b.B.ba (((ah _ wr).ae).a g4) ?_) f.b.B (a5.b.trans (th g0)) f8 f9;intro G d5;simp at d5 ⊢;rcases d5 with o|o|o|o
    .exact Y8 (Y8 o)
    .exact Y8 (Ya (Y8 o))
    .exact Y8 (Ya (Ya o))
    .exact Ya (by omega)
   have f3:=Z d2;have h4:∀A,(Value.slice ad b.length E).ownBlock=some A->A ∉ [a.R,a.S,a.N,u.heap.size]:=by
    intro A K;have J:=f.b.G A K;have f7:=f.b.E _ J.1;obtain⟨i0,i1,i2,i3⟩:=o.K;simp;omega
   have a8:∀j,ai [a.R,a.S,a.N,u.heap.size] wr.drew j->(∀B,(j.alloc B).ownsRow w.heap.size 223 1 (.slice ad b.length E) b.length (d.map λn=>Value.pointer (some ⟨n,0,none⟩)))/\
     j.heap[C.heap.size]? = some (.cells #[.string ⟨c.1.toArray⟩,.int .i64 c.2,.slice ad b.length E] 253)/\w.heap.size<=j.heap.size:=by
    intro j r;have b3:=((ah _ wr).ae).a r;have J:=f.b.E _ f.b.C.1;obtain⟨i0,i1,i2,i3⟩:=o.K;have f7:=f.b.C.2.2;refine⟨λB=>aX (aX f.b.row b3 h4) ((ah [] j).d B) (by simp),(b3.i _ (aj f.b.I) (by simp;omega)).trans f.b.I,Yz f.b.B.F b3.F⟩
   have f0:=Z a8;have c9:∀j B H,ai [a.R,a.S,a.N,u.heap.size] wr.drew j->(j.alloc B).grownBy H (Value.slice ad b.length E).ownBlock->H.heap[C.heap.size]? = some (.cells #[.string ⟨c.1.toArray⟩,.int .i64 c.2,.slice ad b.length E] 253):=by
    intro j B H r K;obtain⟨_,c5,_⟩:=a8 j r;have g6:=aj c5;exact(K.block _ (by simp;omega) (λz=>(f.b.G _ z.symm).2.1 rfl)).trans ((((ah [] j).d B).i _ g6 (by simp)).trans c5)
   have f1:=Z c9;have h8:(Value.pointer none).cells.size=1:=rfl;have g7:b.length+1<=maxLen:=by unfold maxLen;omega
   have g8:(b.length+1)*8<=140737488355328:=by omega
   clear d2 a8 c9;go_wp2_with fail;go_region_law (first
    |(go_simp;go_at_call 193;refine f2.b.mono ?_;rintro z j ⟨r,⟨G,e6,j1,n,y,rfl,L,d7,d3⟩|⟨s,y,n,p,rfl,q⟩⟩;rotate_left;exact(show bodyPost prog Tryz.f121 (fV [a.R,a.S,a.N] a m w (gm m x e)) (Exit.panic _) _ j from aq (f3.b s n j y p r q));dsimp only;obtain⟨d8,a9,k1⟩:=f0.b j r;obtain⟨i5,i6,i7,g1⟩:=dS a9;have h1:=aj a9;have k0:=Nat.ne_of_lt h1)
    |(refine step_append_lies _ (by rfl) _ _ _ (by rfl) w.heap.size 223 h9 _ 1 8 underlying251 g3 h5 h6 h7 h8 (by omega) (.slice ad b.length E) b.length (d.map λn=>Value.pointer (some ⟨n,0,none⟩)) (by rfl) (d8 _) ⟨j.heap.size,0,none⟩ 1 1 [.pointer (some ⟨n,0,none⟩)] (by rfl) (by rfl) (World.news_of_block (cs:=#[.pointer (some ⟨n,0,none⟩)]) (t:=223) (fr:=(0,0)) (heap_alloc_new j _)) (by simp[Value.oneCell']) (by omega) g7 g8 (by simp;omega) (j.heap.size+1) (by simp) ?_;intro A j4 H d9 b0 c8 d4;have d1:=f1.b j _ H r b0;obtain⟨i8,i9,j0,g2⟩:=dS d1))
   all_goals
    have j5:=Kj y
    have D:=Z (Ex o f.b (((ah _ wr).ae).a r) L d7 d3 ((Below.refl j.heap.size j).alloc (Y4 _) _) d9 b0 (by simpa using c8) d4)
    clear r L d7 d3 d9 b0 c8 d4 d1 i8 i9 j0 g2 a9 i5 i6 i7 g1 d8
    go_wp2_with fail
    refine(mN (cC a (A::h)) _ D.b.rd).mono ?_
    rintro z i4 ⟨b5,⟨e7,e8,c0,rfl,e4⟩|⟨s,c0,j3,p,rfl,q⟩⟩
    rotate_left
    .exact(show bodyPost prog Tryz.f121 (fV [a.R,a.S,a.N] a m w (gm m x e)) (Exit.panic _) _ i4 from aq (dx (D.b.B.a (b5.l (by simp))) D.b.B (a5.b.trans ((rC y).trans (bj c0))) p q))
    have c4:=Z (D.b.bd o b5 e4)
    have e9:U (gm m x e=(if e7=true then go m c (13-(b++[G]).length) (b++[G]) e6 else mX m c (b++[G])) e8):=by
     refine a5.b.trans ((rC y).trans ((as c0).trans ?_));have:13-(b++[G]).length=12-b.length:=by simp
     rw[this]
    have f5:=Bq f.b.I
    have f6:=Bq c4.b.I
    clear b5 e4
    go_wp2
    refine⟨⟨e7,b++[G],d++[n],A::h,e6,_,e8,rfl,by simp;omega,c4,e9⟩,?_⟩
    rw[f5,f6]
    omega
end
section
variable {b:Ad}{c:World}{a:St}{d:Type}
def jE(b:Ad)(c:World)(j:List Nat->d->St->World->Prop)(g:Except Mar.M (Unit×d×St))(f:Ending)(e:World):Prop:=
 (∃k h i,g=.ok ((),h,i)/\f=.returned (.tuple #[])/\j k h i e)\/(∃a,g=.error a/\ai [b.R,b.S,b.N] c e/\fe c a.no a.m f e)
def lH{M':List Nat}{w1 e:World}{h:List Nat->d->St->World->Prop}{g:Except Mar.M (Unit×d×St)}{f:Mar.M}{a:Nat}
  (k:ai [b.R,b.S,b.N] c e) (l:ai M' c w1) (m:g=.error f) (i:w1.heap.size<=a) (j:e.heap[a]? = some (.cells #[.int .i64 f.no,.int .i64 f.m] 179)) :
  jE b c h g (.panicked [{ v:=.iface 143 (.pointer (some ⟨a,0,none⟩)),recovered:=false }]) e:=
 Ya ⟨f,m,k,a,Yz l.F i,rfl,j⟩
structure uh(d:Type)(b:Ad)(text:ByteArray)(c:World)(nh:Nat) where
 f:Nat
 i1:Array Value
 af:PX d Unit
 J:Nat->List Nat->d->St->World->Prop
 e0:∀(args:Array Value) (u:World),(callFunc f args).run prog u=.ok (.enter f args) u
 rd:∀{n Y t a u},J n Y t a u->Rd (b.v Y) text a u
 B:∀{n Y t a u},J n Y t a u->ai [b.R,b.S,b.N] c u
 bd:∀{n Y t a σ' u u'},J n Y t a u->ai [b.S] u u'->Rd (b.v Y) text σ' u'->J n Y t σ' u'
 call:∀{n Y t a u},n<nh->J n Y t a u->Calls prog f i1 u (jE b c (J (n+1)) (af t a))
def hh(b:ByteArray)(nh:Nat)(c:PX d Unit):Nat->Nat->PX d Unit
 |0,_=>lift (fj 0 0)
 |k+1,a=>av (if a=0 then cG false else lift (cZ b [125])) λf=>if f then cG ()else
   av (lift (fI b)) λe=>av (lift (ei a nh e.m)) λ_=>av c λ_=>hh b nh c k (a+1)
def eu(a:ByteArray)(nh:Nat)(b:PX d Unit):PX d Unit:=av (lift (bU a [123])) λ_=>hh a nh b (nh+2) 0
def yp{d:Ad}(h:eF d b){e:ByteArray}(g:Rd d e a c) :
  Calls prog 72 #[.pointer (some ⟨b.S,0,none⟩)] c (dC [b.S] d e c (fI e a) cq):=by
 obtain⟨i,f,j,k⟩:=h;rw[<-f];exact yq g
def lU(c:ByteArray)(nh:Nat)(b:PX d Unit)(e a:Nat):PX d Unit:=
 av (lift (fI c)) λf=>av (lift (ei a nh f.m)) λ_=>av b λ_=>hh c nh b e (a+1)
def wP{h:ByteArray}(nh:Nat)(e:uh d b h c nh){i:List Nat}{g:d}{j:World}(c5:nh<=1000)(J:e.J 0 i g a j) :
  Calls prog 195 #[.pointer (some ⟨b.R,0,none⟩),.int .i64 nh,.func (.func e.f) #[] e.i1] j (jE b c (λi g a j=>∃f≤nh,e.J f i g a j) (eu h nh e.af g a)):=by
 have c3:=e.e0;have c4:=AK;go_in;go_wp2_with fail;refine(ff (cC b i) _ (e.rd J)).mono ?_;rintro o c6 ⟨a8,⟨c7,c2,a2,rfl,b9⟩|⟨p,a2,n,k,rfl,l⟩⟩;rotate_left
 .exact aq (lH ((e.B J).a (a8.l (by simp))) (e.B J) (bl (ci a2)) k l)
 have b5:=Z (e.bd J a8 b9);have b4:U (eu h nh e.af g a=hh h nh e.af (nh+2) 0 g c2):=aE (aW a2);dsimp only[cq];go_wp2;go_loopw [6] (λa4 c1=>∃(f:Nat) (z:List Nat) (s:d) (F:St),a4=.int .i64 f/\f<=nh/\U (e.J f z s F c1)/\U (eu h nh e.af g a=hh h nh e.af (nh+2-f) f s F)) (λa4 _=>nh+1-(intOf a4).toNat)
 case atStart=>exact⟨0,_,_,_,rfl,by omega,b5,b4⟩
 case round=>
  obtain⟨f,z,s,F,rfl,b8,v,b3⟩:=hrel;have K:U (eu h nh e.af g a=hh h nh e.af ((nh+1-f)+1) f s F):=by
   have a7:=b3.b;rw[show nh+2-f=(nh+1-f)+1 by omega]at a7;exact a7
  by_cases x:f=0
  .have b6:wr.cell? ⟨b.R,0,none⟩=some (.pointer (some ⟨b.S,0,none⟩)):=(e.rd v.b).r.1;have H:U (eu h nh e.af g a=lU h nh e.af (nh+1-f) f s F):=by
    refine K.b.trans ?_;simp only[hh,Y9 x];rfl
   have I:=v;have b7:((f:Int)==0)=true:=by simp[x]
   go_wp2_with fail;refine(yp (cC b z) (e.rd I.b)).mono ?_;rintro o a5 ⟨B,⟨t,u,m,rfl,a1⟩|⟨p,m,n,k,rfl,l⟩⟩;rotate_left
   .exact(show bodyPost prog Tryz.f195 (jE b c (λi g a j=>∃f≤nh,e.J f i g a j) (eu h nh e.af g a)) (Exit.panic _) _ a5 from aq (lH ((e.B I.b).a (B.l (by simp))) (e.B I.b) (H.b.trans (bl (ci m))) k l))
   have q:=Z (e.bd I.b B a1);dsimp only[cq];go_wp2_with fail;by_cases A:nh<=f
   .refine(qg _ _ _ _ (by omega)).mono ?_;rintro o E ⟨⟨n,k,rfl,l⟩,P⟩;exact(show bodyPost prog Tryz.f195 (jE b c (λi g a j=>∃f≤nh,e.J f i g a j) (eu h nh e.af g a)) (Exit.panic _) _ E from aq (lH (f:=⟨5,t.m⟩) ((e.B q.b).a (br _ P)) (e.B q.b) (H.b.trans ((aE (aW m)).trans (bl (ci (show ei f nh t.m u=_ from Y9 A))))) k l))
   have C:ei f nh t.m u=.ok ((),u):=Y2 A;refine(qh _ _ _ _ (by omega)).mono ?_;rintro o E ⟨rfl,rfl⟩;go_wp2_with fail;refine(e.call (by omega) q.b).mono ?_;rintro o a6 (⟨N,D,G,r,rfl,O⟩|⟨p,r,a0,n,k,rfl,l⟩);rotate_left
   .exact(show bodyPost prog Tryz.f195 (jE b c (λi g a j=>∃f≤nh,e.J f i g a j) (eu h nh e.af g a)) (Exit.panic _) _ a6 from aq (Ya ⟨p,H.b.trans ((aE (aW m)).trans ((aE (aW C)).trans (bl r))),a0,n,k,rfl,l⟩))
   have M:=Z O;have L:U (eu h nh e.af g a=hh h nh e.af (nh+2-(f+1)) (f+1) D G):=by
    refine H.b.trans ((aE (aW m)).trans ((aE (aW C)).trans ((aE r).trans ?_)));rw[show nh+2-(f+1)=nh+1-f by omega]
   go_wp2;exact⟨⟨f+1,N,D,G,by simp[x],by omega,M,L⟩,by simp[intOf,x];try omega⟩
  .have b7:((f:Int)==0)=false:=by simp;omega
   go_wp2_with fail;refine(mN (cC b z) _ (e.rd v.b)).mono ?_;rintro o b0 ⟨a9,⟨b1,b2,a3,rfl,c0⟩|⟨p,a3,n,k,rfl,l⟩⟩;rotate_left
   .refine(show bodyPost prog Tryz.f195 (jE b c (λi g a j=>∃f≤nh,e.J f i g a j) (eu h nh e.af g a)) (Exit.panic _) _ b0 from aq (lH ((e.B v.b).a (a9.l (by simp))) (e.B v.b) (K.b.trans ?_) k l));simp only[hh,Y2 x];exact bl (ci a3)
   have w:=Z (e.bd v.b a9 c0);have y:U (eu h nh e.af g a=(if b1=true then cG ()else lU h nh e.af (nh+1-f) f) s b2):=by
    refine K.b.trans ?_;simp only[hh,Y2 x];exact aE (aW a3)
   have b6:b0.cell? ⟨b.R,0,none⟩=some (.pointer (some ⟨b.S,0,none⟩)):=(e.rd w.b).r.1;cases b1 with
   |true=>
    go_wp2;go_end0;exact Y8 ⟨_,s,b2,y.b,rfl,f,b8,w.b⟩
   |false=>
    go_wp2_with fail;refine(yp (cC b z) (e.rd w.b)).mono ?_;rintro o a5 ⟨B,⟨t,u,m,rfl,a1⟩|⟨p,m,n,k,rfl,l⟩⟩;rotate_left
    .exact(show bodyPost prog Tryz.f195 (jE b c (λi g a j=>∃f≤nh,e.J f i g a j) (eu h nh e.af g a)) (Exit.panic _) _ a5 from aq (lH ((e.B w.b).a (B.l (by simp))) (e.B w.b) (y.b.trans (bl (ci m))) k l))
    have q:=Z (e.bd w.b B a1);dsimp only[cq];go_wp2_with fail;by_cases A:nh<=f
    .refine(qg _ _ _ _ (by omega)).mono ?_;rintro o E ⟨⟨n,k,rfl,l⟩,P⟩;exact(show bodyPost prog Tryz.f195 (jE b c (λi g a j=>∃f≤nh,e.J f i g a j) (eu h nh e.af g a)) (Exit.panic _) _ E from aq (lH (f:=⟨5,t.m⟩) ((e.B q.b).a (br _ P)) (e.B q.b) (y.b.trans ((aE (aW m)).trans (bl (ci (show ei f nh t.m u=_ from Y9 A))))) k l))
    have C:ei f nh t.m u=.ok ((),u):=Y2 A;refine(qh _ _ _ _ (by omega)).mono ?_;rintro o E ⟨rfl,rfl⟩;go_wp2_with fail;refine(e.call (by omega) q.b).mono ?_;rintro o a6 (⟨N,D,G,r,rfl,O⟩|⟨p,r,a0,n,k,rfl,l⟩);rotate_left
    .exact(show bodyPost prog Tryz.f195 (jE b c (λi g a j=>∃f≤nh,e.J f i g a j) (eu h nh e.af g a)) (Exit.panic _) _ a6 from aq (Ya ⟨p,y.b.trans ((aE (aW m)).trans ((aE (aW C)).trans (bl r))),a0,n,k,rfl,l⟩))
    have M:=Z O;have L:U (eu h nh e.af g a=hh h nh e.af (nh+2-(f+1)) (f+1) D G):=by
     refine y.b.trans ((aE (aW m)).trans ((aE (aW C)).trans ((aE r).trans ?_)));rw[show nh+2-(f+1)=nh+1-f by omega]
    go_wp2;exact⟨⟨f+1,N,D,G,by go_num,by omega,M,L⟩,by simp[intOf];omega⟩
end
def uo(w:World):Calls prog 194 #[] w λd c=>∃b a,d=.returned (aS b a).v/\w.heap.size<=b/\w.heap.size<=a/\b≠a/\(aS b a).I [] c/\Below w.heap.size w c/\c.heap[a]? = some (.cells #[.map (some b)] 103):=by
 have h:=jr;have g:=jq;go_in;go_wp2;go_ret;have e:(w.alloc (.map #[] 0)).heap.size=w.heap.size+1:=by simp
 refine⟨w.heap.size,w.heap.size+1,rfl,by omega,by omega,by omega,?_,((Below.refl w.heap.size w).alloc (Y4 _) _).alloc (by omega) _,?_⟩
 .have f:((w.alloc (.map #[] 0)).alloc (.cells #[.map (some w.heap.size)] 103)).heap[w.heap.size]? = some (.map #[] 0):=
   (((ah [] (w.alloc (.map #[] 0))).d _).i _ (by omega) (by simp)).trans (aJ (w:=w) rfl)
  exact⟨by simp,[],rfl,f⟩
 .rw[<-e];exact aJ (w:=w.alloc (.map #[] 0)) rfl
section
variable {c:Ad}{f:List Nat}{h:List aF}{l:List UInt8×Nat}{k:Value}{m:List (List UInt8)}{e j:World}{n o p:St}
structure dE where
 D:Nat
 rb:Nat
 db:Nat
 cb:Nat
 q:Nat
 bx:Nat
def dE.bk(a:dE):List Nat:=[a.D,a.rb,a.db,a.cb,a.q]
structure jH(c:Ad)(text:ByteArray)(j:World)(a:dE)(l:List UInt8×Nat)(h:List aF)(f:List Nat)(m:List (List UInt8))(k:Value)(n:St)(e:World):Prop where
 B:ai [c.R,c.S,c.N] j e
 rd:Rd (c.v f) text n e
 C:∀b∈a.bk,b∈f
 H:a.bk.Nodup
 E:∀y∈f,j.heap.size<=y
 G:∀g,k.ownBlock=some g->g∈f/\g ∉ a.bk
 aH:dp a.q m e
 cl:bm (c.v f).X (aS a.q a.bx).bs e
 I:e.heap[a.D]? = some (.cells #[.string ⟨l.1.toArray⟩,.int .i64 l.2,k] 353)
 vr:e.heap[a.rb]? = some (.cells #[.pointer (some ⟨c.R,0,none⟩)] 145)
 vd:e.heap[a.db]? = some (.cells #[.pointer (some ⟨a.D,0,none⟩)] 229)
 vc:e.heap[a.cb]? = some (.cells #[(aS a.q a.bx).v] 341)
 row:e.ownsRow j.heap.size 242 3 k h.length (h.flatMap hk)
def jH.bd{g:ByteArray}{r:World}{i:dE}(v:Rd c g p j)(a:jH c g j i l h f m k n e)(b:ai [c.S] e r)(s:Rd (c.v f) g o r) :
  jH c g j i l h f m k o r:=by
 obtain⟨y,z,A,B⟩:=v.K;have d:∀q∈i.bk,q ∉ [c.S]:=λq w=>by have:=a.E _ (a.C q w);simp;omega
 refine⟨a.B.a (b.l (by simp)),s,a.C,a.H,a.E,a.G,a.aH.h b (d _ (by simp[dE.bk])),a.cl.h b (by intro C t;simp only[Yc]at t;subst t;exact s.C.2.1),(b.i _ (aj a.I) (d _ (by simp[dE.bk]))).trans a.I,
  (b.i _ (aj a.vr) (d _ (by simp[dE.bk]))).trans a.vr,(b.i _ (aj a.vd) (d _ (by simp[dE.bk]))).trans a.vd,(b.i _ (aj a.vc) (d _ (by simp[dE.bk]))).trans a.vc,aX a.row b ?_⟩
 intro u x;have:=a.E _ (a.G u x).1;simp;omega
def Fl{H:ByteArray}{y I u:World}{b:dE}{g z:Nat}{a7:List (List UInt8)}{d:aF}(K:Rd c H p j)
  (s:jH c H j b l h f m k n e) (F:ai [c.S,b.q] e y) (a5:Rd (c.v f) H o y) (b4:dp b.q a7 y) (r:Below y.heap.size y I)
  (a3:u.ownsRow j.heap.size 242 3 (.slice (some ⟨g,0,none⟩) (h.length+1) z) (h.length+1) (h.flatMap hk++hk d))
  (E:I.grownBy u k.ownBlock) (L:k.ownBlock=some g\/g=I.heap.size) (b3:g<u.heap.size) :
  jH c H j b l (h++[d]) (g::f) a7 (.slice (some ⟨g,0,none⟩) (h.length+1) z) o (u.setCell ⟨b.D,2,none⟩ (.slice (some ⟨g,0,none⟩) (h.length+1) z)):=by
 obtain⟨b6,_⟩:=gH a3 (g:=g) rfl;have x:b.D∈b.bk:=by simp[dE.bk]
 have b9:b.rb∈b.bk:=by simp[dE.bk]
 have b8:b.db∈b.bk:=by simp[dE.bk]
 have b7:b.cb∈b.bk:=by simp[dE.bk]
 have R:b.q∈b.bk:=by simp[dE.bk]
 have b5:=s.H;simp only[dE.bk,List.nodup_cons,Yg,List.not_mem_nil,or_false,not_or]at b5;have J:∀a∈b.bk,j.heap.size<=a:=λa r=>s.E _ (s.C a r);have N:∀a∈b.bk,a<e.heap.size:=λa r=>by
  have:=s.rd.al a (Yf _ (s.C a r));exact this
 have c2:=F.F;have c3:=r.size;have c4:=E.size;have a1:g ∉ b.bk:=by
  rcases L with A|A
  .exact(s.G g A).2
  .intro t;have:=N g t;omega
 have O:∀a,k.ownBlock=some a->j.heap.size<=a/\a∈(c.v f).X:=λa r=>⟨s.E _ (s.G a r).1,Yf _ (s.G a r).1⟩;have M:=eJ E;have w:ai [b.D] u (u.setCell ⟨b.D,2,none⟩ (.slice (some ⟨g,0,none⟩) (h.length+1) z)):=(ah [b.D] u).O (by simp) _;have G:ai [] y I:=br _ r;obtain⟨c5,c6,c7,c8⟩:=K.K;have a6:∀a∈b.bk,a ∉ k.ownBlock.toList:=by
  intro a r t;exact(s.G a (by simpa using t)).2 r
 have a8:∀a∈b.bk,a≠b.q->u.heap[a]? = e.heap[a]?:=by
  intro a r a4;have a2:=N a r;have c1:=J a r;exact(M.i _ (by omega) (a6 a r)).trans ((G.i _ (by omega) (by simp)).trans (F.i _ a2 (by simp;omega)))
 have a0:∀a∈b.bk,a≠b.q->a≠b.D->(u.setCell ⟨b.D,2,none⟩ (.slice (some ⟨g,0,none⟩) (h.length+1) z)).heap[a]? = e.heap[a]?:=by
  intro a r a4 b1;have a2:=N a r;exact(w.i _ (by omega) (by simpa using b1)).trans (a8 a r a4)
 have b2:∀C∈[c.S,b.q],C∈(c.v f).X:=by
  intro a9 v;simp at v;rcases v with rfl|rfl
  .exact a5.C.2.1
  .exact Yf _ (s.C _ R)
 refine⟨?_,?_,λa r=>Y5 _ (s.C a r),s.H,?_,?_,?_,?_,?_,?_,?_,?_,?_⟩
 .refine(((s.B.ba F ?_).ba G (by simp)).ba M ?_).ba w ?_
  .intro C t;simp at t ⊢;rcases t with A|A
   .exact Y8 (Ya (Y8 A))
   .exact Ya (by have:=J _ R;omega)
  .intro C t;exact Ya (O C (by simpa using t)).1
  .intro C t;simp only[Yc]at t;subst t;exact Ya (J _ x)
 .exact K.ba (cC c (g::f)) (qM K (cC c f) (a5.t r) E O L b3) w (by
   intro a9 v;simp only[Yc]at v;subst v;exact⟨J _ x,Yf _ (Y5 _ (s.C _ x))⟩)
 .intro c0 P;rcases Yg.1 P with rfl|P
  .exact b6
  .exact s.E c0 P
 .intro b0 B;simp only[Value.ownBlock,Yu]at B;subst B;exact⟨Yb,a1⟩
 .exact((b4.h G (by simp)).h M (a6 _ R)).h w (by simp;omega)
 .exact(((s.cl.h F b2).h G (by simp)).aN E (λa r=>(O a r).2) L).h w (by
   intro a9 v;simp only[Yc]at v;subst v;exact Y5 _ (Yf _ (s.C _ x)))
 .exact bu (i:=2) ((a8 _ x (by omega)).trans s.I) _
 .exact(a0 _ b9 (by omega) (by omega)).trans s.vr
 .exact(a0 _ b8 (by omega) (by omega)).trans s.vd
 .exact(a0 _ b7 (by omega) (by omega)).trans s.vc
 .have:=aX a3 w (by
   intro b0 B;simp only[Value.ownBlock,Yu]at B;subst B;intro t;simp only[Yc]at t;exact a1 (t▸x))
  simpa using this
end
end Go.Proofs.YtjdhaegijjednaaGreatDoor
namespace Go.Proofs.YtjdhaegijjednaaGreatDoor
open Go.Proofs.Tryz
section
variable {b f c:Nat}
section
variable {e : Program} {a : Array Oper} {Q : Exit -> Act -> World -> Prop} {d : Region.Mode} {S : World -> Prop}
abbrev pp(e:Program)(a:Array Oper)(Q:Exit->Act->World->Prop)(b:Nat):Exit->Act->World->Prop:=λi c d=>match i with
 |.normal=>wpOp e a Q b (λg k=>Q .normal g k) c d
 |.exit f=>Q (.exit f) c d
 |.goto j=>Q (.goto j) c d
 |.ret=>Q .ret c d
 |.panic h=>Q (.panic h) c d
 |.outgrown=>Q .outgrown c d
def JG(c:LetsOut (pp e a Q b)):LetsOut Q:=c
def Me{f:Oper}{d:Act}{g:World}{h:Act->World->Prop}(c:f.wp e d g h (pp e a Q b)):f.wp e d g h Q:=by
 unfold Oper.wp at *
 generalize (execOp d.eval f).run e g=j at *
 cases j with
 |ok i k=>cases i<;>simp only[Oper.upon]at c ⊢<;>exact c
 |halt l k=>cases l<;>simp only[Oper.upon]at c ⊢<;>exact c
def Ss{i:Act}{j:World}{h:Act->World->Prop}(c:wpOp e a (pp e a Q b) f h i j):wpOp e a Q f h i j:=by
 unfold wpOp at *
 split
 .rename_i d;simp only[d]at c;exact c
 .rename_i m d;simp only[d]at c;split
  .rename_i g;simp only[g,if_true]at c
   rcases c with c|⟨k,l⟩
   .exact Y8 (Me c)
   .exact Ya ⟨k,JG l⟩
  .rename_i g;simp only[g]at c;exact c
def pt(d:Region.Mode)(a:Array Oper):Bool:=(List.range a.size).all λc=>match a[c]? with
 |some e=>e.after.all λb=>!Region.binds d b||decide (b.on<c)
 |none=>true
def ra(d:Region.Mode)(a:Array Oper)(b:Nat):Bool:=(List.range b).all λc=>(List.range a.size).any λf=>match a[f]? with
 |some g=>g.after.any λe=>Region.binds d e&&e.on==c
 |none=>false
def zR(e:pt d a=true){h:Oper}(g:a[c]? = some h){b:_}(k:b∈h.after)(j:Region.binds d b=true):b.on<c:=by
 simp only[pt,List.all_eq_true,List.mem_range]at e;have f:=e c (Array.getElem?_eq_some_iff.1 g).1;simp only[g,Array.all_eq_true_iff_forall_mem]at f;have i:=f b k;simpa[j]using i
def GG(k:ra d a b=true)(n:c<b):∃f:Nat,∃g:Oper,a[f]? = some g/\∃e∈g.after,Region.binds d e=true/\e.on=c:=by
 simp only[ra,List.all_eq_true,List.mem_range]at k;have l:=k c n;rw[List.any_eq_true]at l;obtain⟨f,_,h⟩:=l;cases j:a[f]? with
 |none=>simp[j]at h
 |some g=>
  simp only[j]at h;obtain⟨e,m,i⟩:=Array.any_eq_true'.1 h;simp only[Bool.and_eq_true,beq_iff_eq]at i;exact⟨f,g,j,e,m,i.1,i.2⟩
def qz(d:Region.Mode)(a:Array Oper)(e:Array Bool):Prop:=
 ∀c f,a[c]? = some f->e.getD c false=true->∀b∈f.after,Region.binds d b=true->e.getD b.on false=true
def qz.cl{b:Array Bool}(m:qz d a b)(o:f∈Region.ready d a b):qz d a (b.setIfInBounds f true):=by
 intro c p k j e h g;refine getD_set_true ?_;by_cases i:f=c
 .subst i;obtain⟨_,q,l,n⟩:=mem_ready.1 o;rw[k]at l;cases l
  exact n e h g
 .rw[getD_set_ne false i]at j;exact m c p k j e h g
def DU{a:Array Bool}(b:c<a.size):a.getD c false=a.getD c true:=by
 simp[b]
def Di(k:pt d a=true){b:Array Bool}(r:b.size=a.size):∀c,c<a.size->b.getD c true=false->Region.ready d a b≠[]:=by
 intro c;induction c using Nat.strongRecOn with
 |ind c q=>
  intro h m i;by_cases f:∀g,a[c]? = some g->∀e∈g.after,Region.binds d e=true->b.getD e.on false=true
  .have:c∈Region.ready d a b:=mem_ready.2 ⟨m,a[c],by simp[h],f _ (by simp[h])⟩;rw[i]at this;cases this
  .simp only[Classical.not_forall]at f;obtain⟨g,p,e,l,j,o⟩:=f;have n:=zR k p l j;refine q e.on n (by omega) ?_ i;rw[<-DU (by omega)];simpa using o
def Fx(o:pt d a=true)(x:a.size=b+1)(q:ra d a b=true){g:Array Bool}(A:g.size=a.size)(p:qz d a g)(u:b∈Region.ready d a g) :
  ∀h c,b-c=h->c<b->g.getD c false=true:=by
 intro h;induction h using Nat.strongRecOn with
 |ind h v=>
  intro c z r;obtain⟨f,w,e,l,j,i,k⟩:=GG q r;have s:=zR o e j i;have y:=(Array.getElem?_eq_some_iff.1 e).1;rw[k]at s;by_cases t:f=b
  .subst t;obtain⟨_,B,m,n⟩:=mem_ready.1 u;rw[e]at m;cases m
   rw[<-k];exact n l j i
  .have:=v (b-f) (by omega) f rfl (by omega);rw[<-k];exact p f w e this l j i
def BX(k:pt d a=true)(j:a.size=b+1)(m:ra d a b=true){e:Array Bool}(h:e.size=a.size)(l:qz d a e)(q:b∈Region.ready d a e) :
  Region.ready d a (e.setIfInBounds b true)=[]:=by
 cases i:Region.ready d a (e.setIfInBounds b true)with
 |nil=>rfl
 |cons c rest=>
  exfalso;have n:c∈Region.ready d a (e.setIfInBounds b true):=by rw[i];exact Yb
  obtain⟨f,r,p,_⟩:=mem_ready.1 n;have o:=(Array.getElem?_eq_some_iff.1 p).1;by_cases g:b=c
  .subst g;simp[h,o]at f
  .rw[getD_set_ne true g]at f;have:=Fx k j m h l q (b-c) c rfl (by omega);rw[DU (by omega)]at this;rw[this]at f;cases f
def Sp(o:pt d a=true)(u:a.size=b+1)(v:ra d a b=true):∀(m:Nat) (h:Array Bool) (n:Act) (r:World),
  h.size=a.size->qz d a h->h.getD b true=false->wpAnyH e d a (pp e a Q b) S m (h.setIfInBounds b true) n r->wpAny e d a Q (m+1) h n r:=by
 intro m;induction m with
 |zero=>
  intro h n r k p q l;refine⟨λg=>absurd g (Di o k b (by omega) q),λf j=>?_⟩;by_cases i:f=b
  .subst i;exact wpOp_mono (λs t g=>⟨BX o u v k p j,g⟩) l.2
  .have:=ready_mono j i;rw[l.1]at this;cases this
 |succ m y=>
  intro h n r k p q l;refine⟨λg=>absurd g (Di o k b (by omega) q),λf j=>?_⟩;by_cases i:f=b
  .subst i;have w:=BX o u v k p j;refine wpOp_mono (λs t g=>⟨λ_=>g,?_⟩) (l.1 w);rw[w];intro c x;cases x
  .refine wpOp_mono (λs t g=>?_) (Ss (l.2 f (ready_mono j i)));refine y (h.setIfInBounds f true) s t (by simp[k]) (p.cl j) (by rw[getD_set_ne true i];exact q) ?_;rw[Array.setIfInBounds_comm _ _ i];exact g.2
def cR(S:World->Prop){id:Nat}{f:Act}{d:World}(o:e.follows .mixedOrders=true)(g:a.size=b+1)(m:pt .any a=true)(n:ra .any a b=true)(l:S d.drew)
  (j:S d.drew->wpAnyH e .any a (pp e a Q b) S b ((Array.replicate (b+1) false).setIfInBounds b true) f d.drew):(Code.region id a true).wp e Q f d:=by
 refine wp_region_any o ?_;have k:=j l;rw[g];refine Sp m g n b _ f _ (by simp[g]) ?_ (by simp) k;intro c p _ i;exfalso;rcases Yj c (b+1)with h|h
 .simp[h]at i
 .simp[h]at i
def Jz{g:Oper}{c:Act}{d:World}(j:a[b]? = some g)
  (h:∀f:Act->World->Prop,Shut (∀c d,Q .normal c d->f c d)->if Region.wanted g (yielded a c.tmps)=true then Oper.wp e g c d f Q else f (c.put g.dst undef) d) :
  pp e a Q b .normal c d:=wpOp_step j (λf i=>h f (λc d k=>i c d k))
def tk{g:Oper}{v:Value}{l:Nat}{i:Array Bool}{b:Act}{c:World}(p:a[f]? = some g)(h:(Region.noSelect a&&Region.free d a i f&&(Region.ready d a i).contains f)=true)
  (n:∀k b c,Q (.panic k) (b.put g.dst v) c->Q (.panic k) b c) (q:Region.wanted g (yielded a b.tmps)=true) (o:S c) (r:∀j,S j->(execOp b.eval g).run e j=.ok (.value v) j)
  (m:wpAnyH e d a Q S l (i.setIfInBounds f true) (b.put g.dst v) c):wpAnyH e d a Q S (l+1) i b c:=by
 simp only[Bool.and_eq_true]at h;exact wpAnyH_take p h.1.1 h.1.2 h.2 n (Y8 ⟨q,r⟩) o m
def aK(c:List Value)(a:List Deferred)(b:Nat)(v:Value):Act.put ⟨c.toArray,a⟩ (some b) v=⟨(c.set b v).toArray,a⟩:=by simp[Act.put]
def aL(a:Act)(v:Value):Act.put a none v=a:=rfl
end
end
end Go.Proofs.YtjdhaegijjednaaGreatDoor
