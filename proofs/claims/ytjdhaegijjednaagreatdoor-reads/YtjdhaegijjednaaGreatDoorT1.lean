import Derived.Shelf.Strings.Builder1
import Derived.Shelf.Small.Strs
import Derived.Shelf.Small.Wraps
import Derived.Shelf.Strings.BuilderF
import Derived.Shelf.Strings.BuilderK
import Derived.Shelf.Strconv.Itoa0
import Derived.Shelf.Strconv.Itoa1
import Derived.Shelf.LaysM
import Derived.Shelf.Strconv.Itoa2
import Derived.Shelf.Strconv.Itoa3
import Derived.Shelf.Strconv.Itoa4
import Derived.Shelf.Strconv.ParseIntEmpty
import Derived.Shelf.Strconv.Clone
import Derived.Shelf.Strconv.SyntaxError
import Derived.Shelf.LaysC
import Derived.Shelf.Strconv.ToError
import Derived.Shelf.Strconv.Lower
import Derived.Shelf.Strconv.ParseUint10
import Derived.Shelf.Strconv.ParseUint10Empty
import Derived.Shelf.Strconv.ParseUint10Any
import Derived.Shelf.Strconv.ParseInt10
import Derived.Shelf.Strconv.RangeError
import Derived.Shelf.Strconv.ToErrorRange
import Derived.Shelf.Strconv.ParseUintEmpty
import Derived.Shelf.Strconv.ParseUint10b64
import Derived.Shelf.Strconv.ParseUint10b32
import Derived.Shelf.Strconv.ParseUint10b16
import Derived.Shelf.Strconv.ParseUint10b8
import Derived.Shelf.Strconv.ParseUint10At
import Derived.Shelf.Strconv.ParseInt10At64
import Derived.Shelf.Strconv.ParseInt10At32
import Derived.Shelf.Strconv.ParseInt10At16
import Derived.Shelf.Strconv.ParseInt10At8
import Derived.Shelf.Strconv.ParseInt10All
import Derived.Shelf.Strconv.ParseIntPublic10
import Derived.Shelf.Strconv.ErrVarParseInt
import Derived.Shelf.Strings.Search1
import Derived.Shelf.Strings.Search2
import Derived.Shelf.Strings.Cut
import Derived.Shelf.Strings.Shaped
import Derived.Shelf.Strings.Prefix
import Derived.Test.YtjdhaegijjednaaGreatDoorProg
import Derived.WalkKit
import GoSem.Claim
import Derived.Lib.IndexMore
import Derived.Lib.Strings
import Derived.Lib.ParseIntBCases
import Derived.WalkSpells
import Derived.WalkSmall
import Derived.Lib.AtoiErrMem
import Derived.Lib.ConvBytes
import Derived.Lib.Hide
import Derived.Lib.AtoiAllMem
import Derived.BigCall
import Derived.BigGuard
import Derived.Deep.RegionHeld3
import Derived.Deep.RegionHeld2
import Derived.Deep.DeepCutAuto
import Derived.Deep.QuietTactic
import Derived.BigQuiet
import Derived.MapKept
import Derived.Deep.AppendLies
import Derived.Deep.RegionLaw
set_option linter.all false
set_option maxRecDepth 100000
set_option maxHeartbeats 4000000
namespace Go.Proofs
open Go.Shelf
def Tryz.lays137_ren:Go.Shelf.Ren:=⟨fun | 137=>236 | 217=>262 | 266=>272 | n=>n,fun | 9=>9 | 5=>5 | 3=>3 | n=>n,fun | n=>n⟩
theorem Tryz.lays137:Go.Proofs.Lays.n137 Tryz.prog Tryz.lays137_ren:={
 mixed:=by kernel_rfl
 f137:=Tryz.func236.trans (congrArg some (by kernel_rfl))
 f217:=Tryz.func262.trans (congrArg some (by kernel_rfl))
 f266:=Tryz.func272.trans (congrArg some (by kernel_rfl))
 t3:=Tryz.underlying3
 a3:=Tryz.isAgg3
 z3:=Tryz.sizeOf3
 v3:=Tryz.zeroValue3
 t5:=Tryz.underlying5
 a5:=Tryz.isAgg5
 z5:=Tryz.sizeOf5
 v5:=Tryz.zeroValue5
 t9:=Tryz.underlying9
 a9:=Tryz.isAgg9
 z9:=Tryz.sizeOf9
 v9:=Tryz.zeroValue9 }
open Go.RowKit in
theorem Tryz.strings_IndexByte (s:ByteArray) (c:Int) (w:World) :
  Calls Tryz.prog 236 #[.string s,.int .u8 c] w fun e w'=>e = .returned (.int .i64 (Lib.indexByte s.data.toList c.toNat.toUInt8))∧w'=w:=Any.strings_IndexByte Tryz.lays137 s c w
def Tryz.lays210_ren:Go.Shelf.Ren:=⟨fun | 210=>270 | 206=>276 | n=>n,fun | 9=>9 | 4=>4 | 3=>3 | n=>n,fun | n=>n⟩
def Tryz.lays103_ren:Go.Shelf.Ren:=⟨fun | 103=>260 | 210=>270 | 206=>276 | n=>n,fun | 9=>9 | 4=>4 | 24=>42 | 3=>3 | n=>n,fun | n=>n⟩
theorem Tryz.lays103:Go.Proofs.Lays.n103 Tryz.prog Tryz.lays103_ren:={
 mixed:=by kernel_rfl
 f103:=Tryz.func260.trans (congrArg some (by kernel_rfl))
 f206:=Tryz.func276.trans (congrArg some (by kernel_rfl))
 f210:=Tryz.func270.trans (congrArg some (by kernel_rfl))
 t3:=Tryz.underlying3
 a3:=Tryz.isAgg3
 z3:=Tryz.sizeOf3
 v3:=Tryz.zeroValue3
 t4:=Tryz.underlying4
 a4:=Tryz.isAgg4
 z4:=Tryz.sizeOf4
 v4:=Tryz.zeroValue4
 t9:=Tryz.underlying9
 a9:=Tryz.isAgg9
 z9:=Tryz.sizeOf9
 v9:=Tryz.zeroValue9
 t24:=Tryz.underlying42
 a24:=Tryz.isAgg42
 z24:=Tryz.sizeOf42
 v24:=Tryz.zeroValue42 }
open Go.RowKit in
theorem Tryz.strings_CutPrefix (s p:ByteArray) (w:World) :
  Calls Tryz.prog 260 #[.string s,.string p] w fun e w'=>e = .returned (.tuple #[.string ⟨(Lib.trimPrefix s.data.toList p.data.toList).toArray⟩,.bool (Lib.hasPrefix s.data.toList p.data.toList)])∧w'=w:=Any.strings_CutPrefix Tryz.lays103 s p w
def Tryz.laysM316_ren:Go.Shelf.Ren:=⟨fun | 316=>266 | n=>n,fun | 9=>9 | 3=>3 | 4=>4 | 37=>97 | 0=>0 | 127=>319 | 5=>5 | n=>n,fun | n=>n⟩
theorem Tryz.laysM316:Go.Proofs.LaysM.n316 Tryz.prog Tryz.laysM316_ren:={
 mixed:=by kernel_rfl
 f316:=Tryz.func266.trans (congrArg some (by kernel_rfl))
 t0:=Tryz.underlying0
 a0:=Tryz.isAgg0
 z0:=Tryz.sizeOf0
 v0:=Tryz.zeroValue0
 t3:=Tryz.underlying3
 a3:=Tryz.isAgg3
 z3:=Tryz.sizeOf3
 v3:=Tryz.zeroValue3
 t4:=Tryz.underlying4
 a4:=Tryz.isAgg4
 z4:=Tryz.sizeOf4
 v4:=Tryz.zeroValue4
 t9:=Tryz.underlying9
 a9:=Tryz.isAgg9
 z9:=Tryz.sizeOf9
 v9:=Tryz.zeroValue9
 t37:=Tryz.underlying97
 a37:=Tryz.isAgg97
 z37:=Tryz.sizeOf97
 v37:=Tryz.zeroValue97
 t127:=Tryz.underlying319
 a127:=Tryz.isAgg319
 z127:=Tryz.sizeOf319
 v127:=Tryz.zeroValue319
 t5:=Tryz.underlying5
 a5:=Tryz.isAgg5
 z5:=Tryz.sizeOf5
 v5:=Tryz.zeroValue5
 i0:=by kernel_rfl
 i3:=by kernel_rfl
 i4:=by kernel_rfl
 i5:=by kernel_rfl
 i9:=by kernel_rfl
 i37:=by kernel_rfl
 i127:=by kernel_rfl }
open Go.RowKit in
theorem Tryz.stringslite_Clone (s:ByteArray) (w:World) (hlim:s.size≤281474976710656) :
  Calls Tryz.prog 266 #[.string s] w fun e w'=>e = .returned (.string s)∧Below w.heap.size w w':=Any.stringslite_Clone Tryz.laysM316 s w hlim
def Tryz.laysC245_ren:Go.Shelf.Ren:=⟨fun | 245=>279 | 279=>287 | 280=>288 | 281=>289 | 282=>290 | 316=>266 | 171=>293 | 205=>292 | 243=>294 | 246=>295 | 283=>296 | 284=>297 | 285=>298 | 286=>299 | 129=>301 | 317=>300 | 318=>302 | 319=>303 | 320=>304 | 337=>305 | 338=>306 | n=>n,fun | 9=>9 | 3=>3 | 75=>55 | 167=>467 | 4=>4 | 168=>469 | 210=>475 | 37=>97 | 0=>0 | 127=>319 | 145=>479 | 143=>477 | 2=>2 | 171=>481 | 53=>421 | 5=>5 | 173=>484 | 212=>486 | 51=>218 | 20=>20 | 213=>487 | 46=>332 | 232=>490 | 233=>491 | 80=>70 | n=>n,fun | 15=>3 | 16=>4 | 17=>5 | 18=>6 | 19=>7 | n=>n⟩
theorem Tryz.laysC245:Go.Proofs.LaysC.n245 Tryz.prog Tryz.laysC245_ren:={
 mixed:=by kernel_rfl
 f129:=Tryz.func301.trans (congrArg some (by kernel_rfl))
 f171:=Tryz.func293.trans (congrArg some (by kernel_rfl))
 f205:=Tryz.func292.trans (congrArg some (by kernel_rfl))
 f243:=Tryz.func294.trans (congrArg some (by kernel_rfl))
 f245:=Tryz.func279.trans (congrArg some (by kernel_rfl))
 f246:=Tryz.func295.trans (congrArg some (by kernel_rfl))
 f279:=Tryz.func287.trans (congrArg some (by kernel_rfl))
 f280:=Tryz.func288.trans (congrArg some (by kernel_rfl))
 f281:=Tryz.func289.trans (congrArg some (by kernel_rfl))
 f282:=Tryz.func290.trans (congrArg some (by kernel_rfl))
 f283:=Tryz.func296.trans (congrArg some (by kernel_rfl))
 f284:=Tryz.func297.trans (congrArg some (by kernel_rfl))
 f285:=Tryz.func298.trans (congrArg some (by kernel_rfl))
 f286:=Tryz.func299.trans (congrArg some (by kernel_rfl))
 f316:=Tryz.func266.trans (congrArg some (by kernel_rfl))
 f317:=Tryz.func300.trans (congrArg some (by kernel_rfl))
 f318:=Tryz.func302.trans (congrArg some (by kernel_rfl))
 f319:=Tryz.func303.trans (congrArg some (by kernel_rfl))
 f320:=Tryz.func304.trans (congrArg some (by kernel_rfl))
 f337:=Tryz.func305.trans (congrArg some (by kernel_rfl))
 f338:=Tryz.func306.trans (congrArg some (by kernel_rfl))
 t0:=Tryz.underlying0
 a0:=Tryz.isAgg0
 z0:=Tryz.sizeOf0
 v0:=Tryz.zeroValue0
 t2:=Tryz.underlying2
 a2:=Tryz.isAgg2
 z2:=Tryz.sizeOf2
 v2:=Tryz.zeroValue2
 t3:=Tryz.underlying3
 a3:=Tryz.isAgg3
 z3:=Tryz.sizeOf3
 v3:=Tryz.zeroValue3
 t4:=Tryz.underlying4
 a4:=Tryz.isAgg4
 z4:=Tryz.sizeOf4
 v4:=Tryz.zeroValue4
 t5:=Tryz.underlying5
 a5:=Tryz.isAgg5
 z5:=Tryz.sizeOf5
 v5:=Tryz.zeroValue5
 t9:=Tryz.underlying9
 a9:=Tryz.isAgg9
 z9:=Tryz.sizeOf9
 v9:=Tryz.zeroValue9
 t20:=Tryz.underlying20
 a20:=Tryz.isAgg20
 z20:=Tryz.sizeOf20
 v20:=Tryz.zeroValue20
 t37:=Tryz.underlying97
 a37:=Tryz.isAgg97
 z37:=Tryz.sizeOf97
 v37:=Tryz.zeroValue97
 t46:=Tryz.underlying332
 a46:=Tryz.isAgg332
 z46:=Tryz.sizeOf332
 v46:=Tryz.zeroValue332
 t51:=Tryz.underlying218
 a51:=Tryz.isAgg218
 z51:=Tryz.sizeOf218
 v51:=Tryz.zeroValue218
 t53:=Tryz.underlying421
 a53:=Tryz.isAgg421
 z53:=Tryz.sizeOf421
 v53:=Tryz.zeroValue421
 t75:=Tryz.underlying55
 a75:=Tryz.isAgg55
 z75:=Tryz.sizeOf55
 v75:=Tryz.zeroValue55
 t127:=Tryz.underlying319
 a127:=Tryz.isAgg319
 z127:=Tryz.sizeOf319
 v127:=Tryz.zeroValue319
 t143:=Tryz.underlying477
 a143:=Tryz.isAgg477
 z143:=Tryz.sizeOf477
 v143:=Tryz.zeroValue477
 t145:=Tryz.underlying479
 a145:=Tryz.isAgg479
 z145:=Tryz.sizeOf479
 v145:=Tryz.zeroValue479
 t167:=Tryz.underlying467
 a167:=Tryz.isAgg467
 z167:=Tryz.sizeOf467
 v167:=Tryz.zeroValue467
 t168:=Tryz.underlying469
 a168:=Tryz.isAgg469
 z168:=Tryz.sizeOf469
 v168:=Tryz.zeroValue469
 t171:=Tryz.underlying481
 a171:=Tryz.isAgg481
 z171:=Tryz.sizeOf481
 v171:=Tryz.zeroValue481
 t173:=Tryz.underlying484
 a173:=Tryz.isAgg484
 z173:=Tryz.sizeOf484
 v173:=Tryz.zeroValue484
 t210:=Tryz.underlying475
 a210:=Tryz.isAgg475
 z210:=Tryz.sizeOf475
 v210:=Tryz.zeroValue475
 t212:=Tryz.underlying486
 a212:=Tryz.isAgg486
 z212:=Tryz.sizeOf486
 v212:=Tryz.zeroValue486
 t213:=Tryz.underlying487
 a213:=Tryz.isAgg487
 z213:=Tryz.sizeOf487
 t232:=Tryz.underlying490
 a232:=Tryz.isAgg490
 z232:=Tryz.sizeOf490
 v232:=Tryz.zeroValue490
 t233:=Tryz.underlying491
 a233:=Tryz.isAgg491
 z233:=Tryz.sizeOf491
 v233:=Tryz.zeroValue491
 g15:=by kernel_rfl
 g16:=by kernel_rfl
 g17:=by kernel_rfl
 g18:=by kernel_rfl
 g19:=by kernel_rfl
 t80:=Tryz.underlying70
 a80:=Tryz.isAgg70
 z80:=Tryz.sizeOf70
 v80:=Tryz.zeroValue70
 i0:=by kernel_rfl
 i2:=by kernel_rfl
 i3:=by kernel_rfl
 i4:=by kernel_rfl
 i5:=by kernel_rfl
 i9:=by kernel_rfl
 i20:=by kernel_rfl
 i37:=by kernel_rfl
 i46:=by kernel_rfl
 i51:=by kernel_rfl
 i53:=by kernel_rfl
 i75:=by kernel_rfl
 i80:=by kernel_rfl
 i127:=by kernel_rfl
 i143:=by kernel_rfl
 i145:=by kernel_rfl
 i167:=by kernel_rfl
 i168:=by kernel_rfl
 i171:=by kernel_rfl
 i173:=by kernel_rfl
 i210:=by kernel_rfl
 i212:=by kernel_rfl
 i232:=by kernel_rfl
 i233:=by kernel_rfl
 m15:=by kernel_rfl
 m16:=by kernel_rfl
 m17:=by kernel_rfl
 m18:=by kernel_rfl
 m19:=by kernel_rfl
 c0:=by kernel_rfl
 c2:=by kernel_rfl
 c3:=by kernel_rfl
 c4:=by kernel_rfl
 c5:=by kernel_rfl
 c9:=by kernel_rfl
 c20:=by kernel_rfl
 c37:=by kernel_rfl
 c46:=by kernel_rfl
 c51:=by kernel_rfl
 c53:=by kernel_rfl
 c75:=by kernel_rfl
 c80:=by kernel_rfl
 c127:=by kernel_rfl
 c143:=by kernel_rfl
 c145:=by kernel_rfl
 c167:=by kernel_rfl
 c168:=by kernel_rfl
 c171:=by kernel_rfl
 c173:=by kernel_rfl
 c210:=by kernel_rfl
 c212:=by kernel_rfl
 c213:=by kernel_rfl
 c232:=by kernel_rfl
 c233:=by kernel_rfl }
open Go.RowKit in
theorem Tryz.strconv_toError_syntax (fn s:ByteArray) (base bits:Int) (ev:Value) (w:World) (hlim:s.size≤281474976710656) (hv:w.cell? ⟨3,0,none⟩=some ev) (hev:ev = .nilIface∨∃ te pe,ev = .iface te pe) :
  Calls Tryz.prog 279 #[.string fn,.string s,.int .i64 base,.int .i64 bits,.iface 467 (.int .i64 2)] w fun e w'=>∃ N,e = .returned (.iface 469 (.pointer (some ⟨N,0,none⟩)))∧w.heap.size≤N∧w'.heap[N]? = some (.cells #[.string fn,.string s,ev] 475 (0,0))∧Below w.heap.size w w':=Any.strconv_toError_syntax Tryz.laysC245 fn s base bits ev w hlim hv hev
def Tryz.lays321_ren:Go.Shelf.Ren:=⟨fun | 321=>285 | n=>n,fun | 5=>5 | n=>n,fun | n=>n⟩
theorem Tryz.lays321:Go.Proofs.Lays.n321 Tryz.prog Tryz.lays321_ren:={
 mixed:=by kernel_rfl
 f321:=Tryz.func285.trans (congrArg some (by kernel_rfl))
 t5:=Tryz.underlying5
 a5:=Tryz.isAgg5
 z5:=Tryz.sizeOf5
 v5:=Tryz.zeroValue5 }
open Go.RowKit in
theorem Tryz.internal_strconv_lower (c:Int) (w:World) :
  Calls Tryz.prog 285 #[.int .u8 c] w fun e w'=>e = .returned (.int .u8 (bits .or .u8 c 32))∧w'=w:=Any.internal_strconv_lower Tryz.lays321 c w
def Tryz.lays287_ren:Go.Shelf.Ren:=⟨fun | 287=>278 | 321=>285 | 322=>286 | n=>n,fun | 9=>9 | 3=>3 | 53=>421 | 75=>55 | 4=>4 | 167=>467 | 5=>5 | 46=>332 | 37=>97 | 0=>0 | 21=>21 | 80=>70 | n=>n,fun | n=>n⟩
theorem Tryz.lays287:Go.Proofs.Lays.n287 Tryz.prog Tryz.lays287_ren:={
 mixed:=by kernel_rfl
 f287:=Tryz.func278.trans (congrArg some (by kernel_rfl))
 f321:=Tryz.func285.trans (congrArg some (by kernel_rfl))
 f322:=Tryz.func286.trans (congrArg some (by kernel_rfl))
 t0:=Tryz.underlying0
 a0:=Tryz.isAgg0
 z0:=Tryz.sizeOf0
 v0:=Tryz.zeroValue0
 t3:=Tryz.underlying3
 a3:=Tryz.isAgg3
 z3:=Tryz.sizeOf3
 v3:=Tryz.zeroValue3
 t4:=Tryz.underlying4
 a4:=Tryz.isAgg4
 z4:=Tryz.sizeOf4
 v4:=Tryz.zeroValue4
 t5:=Tryz.underlying5
 a5:=Tryz.isAgg5
 z5:=Tryz.sizeOf5
 v5:=Tryz.zeroValue5
 t9:=Tryz.underlying9
 a9:=Tryz.isAgg9
 z9:=Tryz.sizeOf9
 v9:=Tryz.zeroValue9
 t21:=Tryz.underlying21
 a21:=Tryz.isAgg21
 z21:=Tryz.sizeOf21
 v21:=Tryz.zeroValue21
 t37:=Tryz.underlying97
 a37:=Tryz.isAgg97
 z37:=Tryz.sizeOf97
 v37:=Tryz.zeroValue97
 t46:=Tryz.underlying332
 a46:=Tryz.isAgg332
 z46:=Tryz.sizeOf332
 v46:=Tryz.zeroValue332
 t53:=Tryz.underlying421
 a53:=Tryz.isAgg421
 z53:=Tryz.sizeOf421
 v53:=Tryz.zeroValue421
 t75:=Tryz.underlying55
 a75:=Tryz.isAgg55
 z75:=Tryz.sizeOf55
 v75:=Tryz.zeroValue55
 t167:=Tryz.underlying467
 a167:=Tryz.isAgg467
 z167:=Tryz.sizeOf467
 v167:=Tryz.zeroValue467 }
open Go.RowKit in
theorem Tryz.internal_strconv_ParseUint_empty (base bits:Int) (w:World) :
  Calls Tryz.prog 278 #[.string ⟨#[]⟩,.int .i64 base,.int .i64 bits] w fun e w'=>e = .returned (.tuple #[.int .u64 0,.iface 467 (.int .i64 2)])∧w'=w:=Any.internal_strconv_ParseUint_empty Tryz.lays287 base bits w
def Tryz.laysC174_ren:Go.Shelf.Ren:=⟨fun | 174=>275 | 247=>281 | 245=>279 | 287=>278 | 279=>287 | 280=>288 | 281=>289 | 282=>290 | 321=>285 | 322=>286 | 316=>266 | 171=>293 | 205=>292 | 243=>294 | 246=>295 | 283=>296 | 284=>297 | 285=>298 | 286=>299 | 129=>301 | 317=>300 | 318=>302 | 319=>303 | 320=>304 | 337=>305 | 338=>306 | n=>n,fun | 9=>9 | 3=>3 | 2=>2 | 75=>55 | 85=>463 | 4=>4 | 167=>467 | 5=>5 | 53=>421 | 175=>460 | 46=>332 | 168=>469 | 37=>97 | 0=>0 | 210=>475 | 21=>21 | 127=>319 | 145=>479 | 143=>477 | 171=>481 | 173=>484 | 212=>486 | 51=>218 | 20=>20 | 213=>487 | 232=>490 | 233=>491 | 80=>70 | n=>n,fun | 15=>3 | 16=>4 | 17=>5 | 18=>6 | 19=>7 | n=>n⟩
theorem Tryz.laysC174:Go.Proofs.LaysC.n174 Tryz.prog Tryz.laysC174_ren:={
 mixed:=by kernel_rfl
 f129:=Tryz.func301.trans (congrArg some (by kernel_rfl))
 f171:=Tryz.func293.trans (congrArg some (by kernel_rfl))
 f174:=Tryz.func275.trans (congrArg some (by kernel_rfl))
 f205:=Tryz.func292.trans (congrArg some (by kernel_rfl))
 f243:=Tryz.func294.trans (congrArg some (by kernel_rfl))
 f245:=Tryz.func279.trans (congrArg some (by kernel_rfl))
 f246:=Tryz.func295.trans (congrArg some (by kernel_rfl))
 f247:=Tryz.func281.trans (congrArg some (by kernel_rfl))
 f279:=Tryz.func287.trans (congrArg some (by kernel_rfl))
 f280:=Tryz.func288.trans (congrArg some (by kernel_rfl))
 f281:=Tryz.func289.trans (congrArg some (by kernel_rfl))
 f282:=Tryz.func290.trans (congrArg some (by kernel_rfl))
 f283:=Tryz.func296.trans (congrArg some (by kernel_rfl))
 f284:=Tryz.func297.trans (congrArg some (by kernel_rfl))
 f285:=Tryz.func298.trans (congrArg some (by kernel_rfl))
 f286:=Tryz.func299.trans (congrArg some (by kernel_rfl))
 f287:=Tryz.func278.trans (congrArg some (by kernel_rfl))
 f316:=Tryz.func266.trans (congrArg some (by kernel_rfl))
 f317:=Tryz.func300.trans (congrArg some (by kernel_rfl))
 f318:=Tryz.func302.trans (congrArg some (by kernel_rfl))
 f319:=Tryz.func303.trans (congrArg some (by kernel_rfl))
 f320:=Tryz.func304.trans (congrArg some (by kernel_rfl))
 f321:=Tryz.func285.trans (congrArg some (by kernel_rfl))
 f322:=Tryz.func286.trans (congrArg some (by kernel_rfl))
 f337:=Tryz.func305.trans (congrArg some (by kernel_rfl))
 f338:=Tryz.func306.trans (congrArg some (by kernel_rfl))
 t0:=Tryz.underlying0
 a0:=Tryz.isAgg0
 z0:=Tryz.sizeOf0
 v0:=Tryz.zeroValue0
 t2:=Tryz.underlying2
 a2:=Tryz.isAgg2
 z2:=Tryz.sizeOf2
 v2:=Tryz.zeroValue2
 t3:=Tryz.underlying3
 a3:=Tryz.isAgg3
 z3:=Tryz.sizeOf3
 v3:=Tryz.zeroValue3
 t4:=Tryz.underlying4
 a4:=Tryz.isAgg4
 z4:=Tryz.sizeOf4
 v4:=Tryz.zeroValue4
 t5:=Tryz.underlying5
 a5:=Tryz.isAgg5
 z5:=Tryz.sizeOf5
 v5:=Tryz.zeroValue5
 t9:=Tryz.underlying9
 a9:=Tryz.isAgg9
 z9:=Tryz.sizeOf9
 v9:=Tryz.zeroValue9
 t20:=Tryz.underlying20
 a20:=Tryz.isAgg20
 z20:=Tryz.sizeOf20
 v20:=Tryz.zeroValue20
 t21:=Tryz.underlying21
 a21:=Tryz.isAgg21
 z21:=Tryz.sizeOf21
 v21:=Tryz.zeroValue21
 t37:=Tryz.underlying97
 a37:=Tryz.isAgg97
 z37:=Tryz.sizeOf97
 v37:=Tryz.zeroValue97
 t46:=Tryz.underlying332
 a46:=Tryz.isAgg332
 z46:=Tryz.sizeOf332
 v46:=Tryz.zeroValue332
 t51:=Tryz.underlying218
 a51:=Tryz.isAgg218
 z51:=Tryz.sizeOf218
 v51:=Tryz.zeroValue218
 t53:=Tryz.underlying421
 a53:=Tryz.isAgg421
 z53:=Tryz.sizeOf421
 v53:=Tryz.zeroValue421
 t75:=Tryz.underlying55
 a75:=Tryz.isAgg55
 z75:=Tryz.sizeOf55
 v75:=Tryz.zeroValue55
 t85:=Tryz.underlying463
 a85:=Tryz.isAgg463
 z85:=Tryz.sizeOf463
 v85:=Tryz.zeroValue463
 t127:=Tryz.underlying319
 a127:=Tryz.isAgg319
 z127:=Tryz.sizeOf319
 v127:=Tryz.zeroValue319
 t143:=Tryz.underlying477
 a143:=Tryz.isAgg477
 z143:=Tryz.sizeOf477
 v143:=Tryz.zeroValue477
 t145:=Tryz.underlying479
 a145:=Tryz.isAgg479
 z145:=Tryz.sizeOf479
 v145:=Tryz.zeroValue479
 t167:=Tryz.underlying467
 a167:=Tryz.isAgg467
 z167:=Tryz.sizeOf467
 v167:=Tryz.zeroValue467
 t168:=Tryz.underlying469
 a168:=Tryz.isAgg469
 z168:=Tryz.sizeOf469
 v168:=Tryz.zeroValue469
 t171:=Tryz.underlying481
 a171:=Tryz.isAgg481
 z171:=Tryz.sizeOf481
 v171:=Tryz.zeroValue481
 t173:=Tryz.underlying484
 a173:=Tryz.isAgg484
 z173:=Tryz.sizeOf484
 v173:=Tryz.zeroValue484
 t175:=Tryz.underlying460
 a175:=Tryz.isAgg460
 z175:=Tryz.sizeOf460
 v175:=Tryz.zeroValue460
 t210:=Tryz.underlying475
 a210:=Tryz.isAgg475
 z210:=Tryz.sizeOf475
 v210:=Tryz.zeroValue475
 t212:=Tryz.underlying486
 a212:=Tryz.isAgg486
 z212:=Tryz.sizeOf486
 v212:=Tryz.zeroValue486
 t213:=Tryz.underlying487
 a213:=Tryz.isAgg487
 z213:=Tryz.sizeOf487
 t232:=Tryz.underlying490
 a232:=Tryz.isAgg490
 z232:=Tryz.sizeOf490
 v232:=Tryz.zeroValue490
 t233:=Tryz.underlying491
 a233:=Tryz.isAgg491
 z233:=Tryz.sizeOf491
 v233:=Tryz.zeroValue491
 g15:=by kernel_rfl
 g16:=by kernel_rfl
 g17:=by kernel_rfl
 g18:=by kernel_rfl
 g19:=by kernel_rfl
 t80:=Tryz.underlying70
 a80:=Tryz.isAgg70
 z80:=Tryz.sizeOf70
 v80:=Tryz.zeroValue70
 i0:=by kernel_rfl
 i2:=by kernel_rfl
 i3:=by kernel_rfl
 i4:=by kernel_rfl
 i5:=by kernel_rfl
 i9:=by kernel_rfl
 i20:=by kernel_rfl
 i21:=by kernel_rfl
 i37:=by kernel_rfl
 i46:=by kernel_rfl
 i51:=by kernel_rfl
 i53:=by kernel_rfl
 i75:=by kernel_rfl
 i80:=by kernel_rfl
 i85:=by kernel_rfl
 i127:=by kernel_rfl
 i143:=by kernel_rfl
 i145:=by kernel_rfl
 i167:=by kernel_rfl
 i168:=by kernel_rfl
 i171:=by kernel_rfl
 i173:=by kernel_rfl
 i175:=by kernel_rfl
 i210:=by kernel_rfl
 i212:=by kernel_rfl
 i232:=by kernel_rfl
 i233:=by kernel_rfl
 m15:=by kernel_rfl
 m16:=by kernel_rfl
 m17:=by kernel_rfl
 m18:=by kernel_rfl
 m19:=by kernel_rfl
 c0:=by kernel_rfl
 c2:=by kernel_rfl
 c3:=by kernel_rfl
 c4:=by kernel_rfl
 c5:=by kernel_rfl
 c9:=by kernel_rfl
 c20:=by kernel_rfl
 c21:=by kernel_rfl
 c37:=by kernel_rfl
 c46:=by kernel_rfl
 c51:=by kernel_rfl
 c53:=by kernel_rfl
 c75:=by kernel_rfl
 c80:=by kernel_rfl
 c85:=by kernel_rfl
 c127:=by kernel_rfl
 c143:=by kernel_rfl
 c145:=by kernel_rfl
 c167:=by kernel_rfl
 c168:=by kernel_rfl
 c171:=by kernel_rfl
 c173:=by kernel_rfl
 c175:=by kernel_rfl
 c210:=by kernel_rfl
 c212:=by kernel_rfl
 c213:=by kernel_rfl
 c232:=by kernel_rfl
 c233:=by kernel_rfl }
open Go.RowKit in
theorem Tryz.strconv_ParseInt_10_at64_ok (s:ByteArray) (hmax:s.size≤9223372036854775806) (v:Int) (h:Lib.parseIntB 64 s.data.toList = .ok v) (w:World) :
  Calls Tryz.prog 275 #[.string s,.int .i64 10,.int .i64 64] w fun e w'=>e = .returned (.tuple #[.int .i64 v,.nilIface])∧(w'=w∨∃ t,w'=Lib.bytesWorld w 5 t):=Any.strconv_ParseInt_10_at64_ok Tryz.laysC174 s hmax v h w
open Go.RowKit in
theorem Tryz.strconv_ParseInt_10_at64_syntax (s:ByteArray) (hlim:s.size≤281474976710656) (h:Lib.parseIntB 64 s.data.toList = .«syntax») (ev:Value) (w:World) (hv:w.cell? ⟨3,0,none⟩=some ev) (hev:ev = .nilIface∨∃ te pe,ev = .iface te pe) :
  Calls Tryz.prog 275 #[.string s,.int .i64 10,.int .i64 64] w fun e w'=>∃ N,e = .returned (.tuple #[.int .i64 (0),.iface 469 (.pointer (some ⟨N,0,none⟩))])∧w.heap.size≤N∧w'.heap[N]? = some (.cells #[.string ⟨#[80,97,114,115,101,73,110,116]⟩,.string s,ev] 475 (0,0))∧Below w.heap.size w w':=Any.strconv_ParseInt_10_at64_syntax Tryz.laysC174 s hlim h ev w hv hev
open Go.RowKit in
theorem Tryz.strconv_ParseInt_10_at64_range (s:ByteArray) (hlim:s.size≤281474976710656) (h:Lib.parseIntB 64 s.data.toList = .range) (ev:Value) (w:World) (hv:w.cell? ⟨4,0,none⟩=some ev) (hev:ev = .nilIface∨∃ te pe,ev = .iface te pe) :
  Calls Tryz.prog 275 #[.string s,.int .i64 10,.int .i64 64] w fun e w'=>∃ N,e = .returned (.tuple #[.int .i64 (Lib.intSat 64 s.data.toList),.iface 469 (.pointer (some ⟨N,0,none⟩))])∧w.heap.size≤N∧w'.heap[N]? = some (.cells #[.string ⟨#[80,97,114,115,101,73,110,116]⟩,.string s,ev] 475 (0,0))∧Below w.heap.size w w':=Any.strconv_ParseInt_10_at64_range Tryz.laysC174 s hlim h ev w hv hev
def Tryz.lays219_ren:Go.Shelf.Ren:=⟨fun | 219=>277 | 217=>262 | 225=>282 | 224=>283 | 267=>284 | 266=>272 | 314=>291 | n=>n,fun | 9=>9 | 3=>3 | 4=>4 | 5=>5 | 46=>332 | 146=>472 | 51=>218 | n=>n,fun | 1=>2 | n=>n⟩
def Tryz.lays145_ren:Go.Shelf.Ren:=⟨fun | 145=>261 | 220=>271 | 219=>277 | 217=>262 | 225=>282 | 224=>283 | 267=>284 | 266=>272 | 314=>291 | n=>n,fun | 9=>9 | 4=>4 | 59=>454 | 3=>3 | 5=>5 | 46=>332 | 146=>472 | 51=>218 | n=>n,fun | 1=>2 | n=>n⟩
theorem Tryz.lays145:Go.Proofs.Lays.n145 Tryz.prog Tryz.lays145_ren:={
 mixed:=by kernel_rfl
 f145:=Tryz.func261.trans (congrArg some (by kernel_rfl))
 f217:=Tryz.func262.trans (congrArg some (by kernel_rfl))
 f219:=Tryz.func277.trans (congrArg some (by kernel_rfl))
 f220:=Tryz.func271.trans (congrArg some (by kernel_rfl))
 f224:=Tryz.func283.trans (congrArg some (by kernel_rfl))
 f225:=Tryz.func282.trans (congrArg some (by kernel_rfl))
 f266:=Tryz.func272.trans (congrArg some (by kernel_rfl))
 f267:=Tryz.func284.trans (congrArg some (by kernel_rfl))
 f314:=Tryz.func291.trans (congrArg some (by kernel_rfl))
 t3:=Tryz.underlying3
 a3:=Tryz.isAgg3
 z3:=Tryz.sizeOf3
 v3:=Tryz.zeroValue3
 t4:=Tryz.underlying4
 a4:=Tryz.isAgg4
 z4:=Tryz.sizeOf4
 v4:=Tryz.zeroValue4
 t5:=Tryz.underlying5
 a5:=Tryz.isAgg5
 z5:=Tryz.sizeOf5
 v5:=Tryz.zeroValue5
 t9:=Tryz.underlying9
 a9:=Tryz.isAgg9
 z9:=Tryz.sizeOf9
 v9:=Tryz.zeroValue9
 t46:=Tryz.underlying332
 a46:=Tryz.isAgg332
 z46:=Tryz.sizeOf332
 v46:=Tryz.zeroValue332
 t51:=Tryz.underlying218
 a51:=Tryz.isAgg218
 z51:=Tryz.sizeOf218
 v51:=Tryz.zeroValue218
 t59:=Tryz.underlying454
 a59:=Tryz.isAgg454
 z59:=Tryz.sizeOf454
 v59:=Tryz.zeroValue454
 t146:=Tryz.underlying472
 a146:=Tryz.isAgg472
 z146:=Tryz.sizeOf472
 v146:=Tryz.zeroValue472
 g1:=by kernel_rfl }
open Go.RowKit Go.Lib in
theorem Tryz.strings_Cut (s sep:ByteArray) (m:Int) (w:World) (hs:s.size < 4294967281) (hm:w.cell? ⟨2,0,none⟩=some (.int .i64 m)) :
  Calls Tryz.prog 261 #[.string s,.string sep] w fun e w'=>e = .returned (.tuple #[.string ⟨(Lib.cut s.data.toList sep.data.toList).1.toArray⟩,.string ⟨(Lib.cut s.data.toList sep.data.toList).2.1.toArray⟩,.bool (Lib.cut s.data.toList sep.data.toList).2.2])∧∃ n,w'=w.drewN n:=Any.strings_Cut Tryz.lays145 s sep m w hs hm
def Tryz.lays101_ren:Go.Shelf.Ren:=⟨fun | 101=>274 | 208=>280 | 206=>276 | n=>n,fun | 9=>9 | 4=>4 | 3=>3 | n=>n,fun | n=>n⟩
theorem Tryz.lays101:Go.Proofs.Lays.n101 Tryz.prog Tryz.lays101_ren:={
 mixed:=by kernel_rfl
 f101:=Tryz.func274.trans (congrArg some (by kernel_rfl))
 f206:=Tryz.func276.trans (congrArg some (by kernel_rfl))
 f208:=Tryz.func280.trans (congrArg some (by kernel_rfl))
 t3:=Tryz.underlying3
 a3:=Tryz.isAgg3
 z3:=Tryz.sizeOf3
 v3:=Tryz.zeroValue3
 t4:=Tryz.underlying4
 a4:=Tryz.isAgg4
 z4:=Tryz.sizeOf4
 v4:=Tryz.zeroValue4
 t9:=Tryz.underlying9
 a9:=Tryz.isAgg9
 z9:=Tryz.sizeOf9
 v9:=Tryz.zeroValue9 }
open Go.RowKit Go.Lib in
theorem Tryz.strings_TrimPrefix (s p:ByteArray) (w:World) :
  Calls Tryz.prog 274 #[.string s,.string p] w fun e w'=>e = .returned (.string ⟨(Lib.trimPrefix s.data.toList p.data.toList).toArray⟩)∧w'=w:=Any.strings_TrimPrefix Tryz.lays101 s p w
end Go.Proofs
namespace Go.Proofs.YtjdhaegijjednaaGreatDoor
open Go.Proofs.Tryz
def U(p:Prop):Prop:=p
theorem U.j{p:Prop}(h:U p):p:=h
abbrev Y2:=@if_neg
abbrev Y4:=@Nat.le_refl
abbrev Y5:=@List.mem_cons_of_mem
abbrev Y8:=@Or.inl
abbrev Y9:=@if_pos
abbrev Ya:=@Or.inr
abbrev Yb:=@List.mem_cons_self
abbrev Yc:=@List.mem_singleton
abbrev Yd:=@List.getElem?_eq_getElem
abbrev Ye:=@Bool.false_eq_true
abbrev Yf:=@List.mem_append_left
abbrev Yg:=@List.mem_cons
abbrev Yh:=@List.mem_of_getElem?
abbrev Yi:=@beq_eq_false_iff_ne
abbrev Yj:=@Nat.lt_or_ge
abbrev Yk:=@List.drop_eq_getElem_cons
abbrev Ym:=@List.mem_append_right
abbrev Yn:=@List.mem_append
abbrev Yo:=@congrArg
abbrev Yp:=@And.intro
abbrev Yq:=@List.length_append
abbrev Yr:=@Nat.lt_of_lt_of_le
abbrev Ys:=@List.getElem?_append_left
abbrev Yt:=@List.take_succ_eq_append_getElem
abbrev Yu:=@Option.some.injEq
abbrev Yv:=@List.length_eq_zero_iff
abbrev Yw:=@List.getElem?_append_right
abbrev Yy:=@List.getElem_mem
abbrev Yz:=@Nat.le_trans
abbrev YA:=@List.getElem?_eq_none
abbrev YB:=@List.getElem?_eq_some_iff
abbrev YC:=@List.length_cons
abbrev YD:=@List.flatMap_cons
abbrev YE:=@List.mem_map
abbrev YF:=@List.length_set
abbrev YG:=@List.take_length
abbrev YH:=@List.append_nil
abbrev YI:=@List.length_drop
abbrev YJ:=@List.nodup_append
abbrev YK:=@List.flatMap_append
abbrev YM:=@List.length_pos_iff
abbrev YN:=@List.append_assoc
abbrev YO:=@Array.getElem?_eq_none
abbrev YP:=@List.getElem?_set
abbrev YQ:=@Option.some.inj
abbrev YR:=@List.drop_eq_nil_of_le
abbrev YS:=@List.foldl_append
abbrev YT:=@List.nil_append
abbrev YU:=@List.length_map
abbrev YV:=@Nat.zero_le
abbrev YW:=@List.length_take
abbrev YX:=@List.cons_append
abbrev YY:=@List.foldl_cons
end Go.Proofs.YtjdhaegijjednaaGreatDoor
namespace Go.Proofs.YtjdhaegijjednaaGreatDoor
open Go.RowKit
open Go.Proofs.Tryz
def jw:∀(b:Fn) (first a:Array Value) (c:World),(Instr.makeFunc b first a).run Tryz.prog c=.ok (.func b first a) c:=λ_ _ _ _=>rfl
def jx:∀(b:TypeId) (a:World),(Instr.makeMap b none).run Tryz.prog a=.ok (.map (some a.heap.size)) (a.alloc (.map #[] 0)):=λ_ _=>rfl
def wo(b c:TypeId)(d:∀a,(Instr.typeAssert .nilIface b c true).run Tryz.prog a=.ok (.tuple #[.pointer none,.bool false]) a):∀a,(Instr.typeAssert .nilIface b c true).run Tryz.prog a=.ok (.tuple #[.pointer none,.bool false]) a:=d
def en(d:TypeId)(b:Nat)(c e:TypeId)(f:∀a,(Instr.typeAssert (.iface d (.pointer (some ⟨b,0,none⟩))) c e true).run Tryz.prog a=.ok (.tuple #[.pointer none,.bool false]) a):∀a,(Instr.typeAssert (.iface d (.pointer (some ⟨b,0,none⟩))) c e true).run Tryz.prog a=.ok (.tuple #[.pointer none,.bool false]) a:=f
def mC(d:TypeId)(b:Nat)(c e:TypeId)(f:∀a,(Instr.typeAssert (.iface d (.pointer (some ⟨b,0,none⟩))) c e true).run Tryz.prog a=.ok (.tuple #[.pointer (some ⟨b,0,none⟩),.bool true]) a):∀a,(Instr.typeAssert (.iface d (.pointer (some ⟨b,0,none⟩))) c e true).run Tryz.prog a=.ok (.tuple #[.pointer (some ⟨b,0,none⟩),.bool true]) a:=f
def ru(d:TypeId)(e:∀(b c:Value) (a:World),(Instr.field d (.agg #[b,c]) 0).run Tryz.prog a=.ok b a):∀(b c:Value) (a:World),(Instr.field d (.agg #[b,c]) 0).run Tryz.prog a=.ok b a:=e
end Go.Proofs.YtjdhaegijjednaaGreatDoor
namespace Go.Proofs.YtjdhaegijjednaaGreatDoor
open Go.Proofs.Tryz
namespace Mar
def d0(a:UInt8):Bool:=(decide (97<=a.toNat)&&decide (a.toNat<=122))||(decide (65<=a.toNat)&&decide (a.toNat<=90))
def dk(a:UInt8):Bool:=decide (48<=a.toNat)&&decide (a.toNat<=57)
def cX(a:UInt8):Bool:=d0 a||dk a||a.toNat==95
def ba:List UInt8->List UInt8
 |[]=>[]
 |c::a=>c::a.takeWhile cX
def i7:List (List UInt8):=
 [[99,111,110,115,116],[116,121,112,101,100,101,102],[101,110,117,109],[115,116,114,117,99,116],[117,110,105,111,110],
  [115,119,105,116,99,104],[99,97,115,101],[100,101,102,97,117,108,116],[118,111,105,100],[105,110,116],
  [117,110,115,105,103,110,101,100],[104,121,112,101,114],[98,111,111,108],[111,112,97,113,117,101],[115,116,114,105,110,103],
  [112,114,111,103,114,97,109],[118,101,114,115,105,111,110],[84,82,85,69],[70,65,76,83,69]]
def e3(a:List UInt8):Bool:=i7.contains a
def fB(a:List UInt8):Nat:=
 if Lib.hasPrefix a [47,42]then (if 0<=Lib.index (a.drop 2) [42,47]then (Lib.index (a.drop 2) [42,47]).toNat+4 else 0)else 0
def f9(a:UInt8):Bool:=a==32||a==9||a==10
def d6:List UInt8->Nat
 |[]=>0
 |a::b=>if f9 a then 1 else fB (a::b)
def e7:Nat->List UInt8->Nat
 |0,_=>0
 |f+1,a=>if d6 a=0 then 0 else d6 a+e7 f (a.drop (d6 a))
def fx(a:List UInt8):Nat:=e7 (a.length+1) a
def m0(a b:List UInt8)(g:b≠[])(c:0<=Lib.index a b):(Lib.index a b).toNat+b.length<=a.length:=by
 induction a with
 |nil=>
  cases b with
  |nil=>exact absurd rfl g
  |cons i l=>simp[Lib.index]at c
 |cons f a h=>
  unfold Lib.index at c ⊢;by_cases e:b.isPrefixOf (f::a)=true
  .simp only[e,if_true,↓reduceIte]
   have:=(List.isPrefixOf_iff_prefix.1 e).length_le;simpa using this
  .simp only[e,Ye,↓reduceIte]at c ⊢;by_cases d:(Lib.index a b==-1)=true
   .simp[d]at c
   .simp only[d,Ye,↓reduceIte]at c ⊢;have j:=Lib.index_ge a b;have k:Lib.index a b≠-1:=by simpa using d
    have:=h (by omega);simp only[YC];omega
def l9(a:List UInt8):fB a<=a.length:=by
 unfold fB;split
 .rename_i c;have d:=(List.isPrefixOf_iff_prefix.1 c).length_le;simp at d;split
  .rename_i b;have:=m0 (a.drop 2) [42,47] (by simp) b;simp at this;omega
  .omega
 .omega
def la(a:List UInt8):d6 a<=a.length:=by
 cases a with
 |nil=>simp[d6]
 |cons b d=>
  by_cases c:f9 b=true
  .simp[d6,c]
  .have:=l9 (b::d);simp only[d6,c,Ye,↓reduceIte];exact this
def n2(b:Nat)(a:List UInt8):e7 b a<=a.length:=by
 induction b generalizing a with
 |zero=>simp[e7]
 |succ b d=>
  unfold e7;split
  .omega
  .have c:=d (a.drop (d6 a));have e:=la a;simp at c;omega
structure bi where
 H:Nat
 text:List UInt8
 n:Int
 w:Nat
structure a5 where
 no:Nat
 w:Nat
def d7(a:List UInt8)(b:Nat):Except a5 bi:=
 if 16<a.length then .error ⟨7,b⟩else if e3 a then .ok ⟨2,a,0,b⟩else .ok ⟨1,a,0,b⟩
def g0(a:List UInt8):Bool:=decide (1<a.length)&&a.getD 0 0==48
def f6(a:List UInt8):Option Int:=
 if g0 (Lib.trimPrefix a [45])then none else
 match Lib.parseIntB 64 a with
 |.ok v=>if -2147483648<=v/\v<=4294967295 then some v else none
 |_=>none
def d3(a:UInt8):Option Nat:=
 if 48<=a.toNat/\a.toNat<=57 then some (a.toNat-48)
 else if 97<=a.toNat/\a.toNat<=102 then some (a.toNat-87)
 else if 65<=a.toNat/\a.toNat<=70 then some (a.toNat-55)
 else none
def c3:Nat->List UInt8->Option Nat
 |acc,[]=>some acc
 |acc,a::c=>match d3 a with
  |some b=>c3 (acc*16+b) c
  |none=>none
def g8(a:List UInt8):Option Int:=
 if 8<a.length then none else if a=[]then none else (c3 0 a).map Int.ofNat
def f0(a:List UInt8):Option Int:=if Lib.hasPrefix a [48,120]then g8 (a.drop 2)else f6 a
def e5(b:List UInt8)(a:Nat):Except a5 bi:=
 match f0 b with
 |some c=>.ok ⟨3,b,c,a⟩
 |none=>.error ⟨4,a⟩
def gF(a:UInt8):Bool:=[123,125,40,41,91,93,60,62,42,44,59,58,61].contains a
def ds(d:List UInt8)(b:Nat):Except a5 bi:=
 match d with
 |[]=>.ok ⟨0,[],0,b⟩
 |a::c=>
  if d0 a then d7 (ba (a::c)) b
  else if dk a||a==45 then e5 (ba (a::c)) b
  else if gF a then .ok ⟨4,[a],0,b⟩
  else .error ⟨2,b⟩
def lc{c:UInt8}{b:Nat}(a:d3 c=some b):b<16:=by
 unfold d3 at a;split at a
 .simp at a;omega
 .split at a
  .simp at a;omega
  .split at a
   .simp at a;omega
   .cases a
end Mar
namespace Mar
def n1{b:UInt8}(a:gF b=true):d0 b=false/\dk b=false/\(b==45)=false/\cX b=false/\f9 b=false/\b≠47:=by
 simp only[gF,List.contains_eq_mem,Yg,List.not_mem_nil,or_false,decide_eq_true_eq]at a;rcases a with a|a|a|a|a|a|a|a|a|a|a|a|a<;>subst a<;>decide
end Mar
end Go.Proofs.YtjdhaegijjednaaGreatDoor
namespace Go.Proofs.YtjdhaegijjednaaGreatDoor
open Go.RowKit
open Go.Proofs.Tryz
def lE{a b:Bool}(c:a=b):Ending.returned (.bool a)=.returned (.bool b):=by rw[c]
def tL{c:IntKind}{a b:Int}(d:a=b):Ending.returned (.int c a)=.returned (.int c b):=by rw[d]
def CL{a b:ByteArray}(c:a=b):Ending.returned (.string a)=.returned (.string b):=by rw[c]
def Bk(a:UInt8)(b:World) :
  Calls prog 237 #[.int .u8 a.toNat] b λc d=>c=.returned (.bool (Mar.d0 a))/\d=b:=by
 go_in;go_wp2;all_goals
  go_ret
  refine⟨lE ?_,rfl⟩
  unfold Mar.d0
  rw[Bool.eq_iff_iff]
  simp
  try omega
def Bj(a:UInt8)(b:World) :
  Calls prog 240 #[.int .u8 a.toNat] b λc d=>c=.returned (.bool (Mar.dk a))/\d=b:=by
 go_in;go_wp2;all_goals
  go_ret
  refine⟨lE ?_,rfl⟩
  unfold Mar.dk
  rw[Bool.eq_iff_iff]
  simp
  try omega
def Jm(a:ByteArray)(b:World) :
  Calls prog 263 #[.string a] b λc d=>c=.returned (.bool (Mar.e3 a.data.toList))/\d=b:=by
 rw[<-ByteArray.toList_eq];go_in;go_wp2;all_goals
  first
   |(exfalso;simp_all;done)
   |(go_ret;refine⟨lE ?_, rfl⟩;simp only[Mar.e3, Mar.i7, List.contains_cons, *, Bool.true_or, Bool.false_or, Bool.or_true, List.contains_nil])
section
variable {a:UInt8}
def Z{a:Prop}(b:a):U a:=b
def wz(a:ByteArray)(b:World)(f:a.size<=281474976710656) :
  Calls prog 242 #[.string a] b λc d=>c=.returned (.string a)/\Below b.heap.size b d:=by
 go_in;go_wp2_with (go_at_call 266;refine(Tryz.stringslite_Clone _ _ f).mono ?_;rintro c d ⟨rfl,e⟩);go_ret;exact⟨rfl,e⟩
def yL(e:ByteArray)(b:Nat)(p:1<=b)(j:b<=e.size)(h:∀c (f:c<e.size),1<=c->c<b->Mar.cX e[c]=true)
  (i:∀k:b<e.size,Mar.cX e[b]=false):Mar.ba e.data.toList=e.data.toList.take b:=by
 obtain⟨⟨d⟩⟩:=e;replace j:b<=d.length:=j;replace h:∀c (f:c<d.length),1<=c->c<b->Mar.cX d[c]=true:=h;replace i:∀k:b<d.length,Mar.cX d[b]=false:=i;show Mar.ba d=d.take b;cases d with
 |nil=>simp[Mar.ba]
 |cons a g=>
  obtain⟨b,rfl⟩:∃o,b=o+1:=⟨b-1,by omega⟩;simp only[Mar.ba,List.take_succ_cons,List.cons.injEq,true_and];simp only[YC]at j;have m:∀l∈g.take b,Mar.cX l=true:=by
   intro l n;obtain⟨c,f,rfl⟩:=List.getElem_of_mem n;have q:c<b:=by simp at f;omega
   have:=h (c+1) (by simp at f ⊢;omega) (by omega) (by omega);simpa using this
  conv=>lhs;rw[<-List.take_append_drop b g]
  rw[List.takeWhile_append_of_pos m];have:(g.drop b).takeWhile Mar.cX=[]:=by
   by_cases k:b<g.length
   .rw[Yk k];have:=i (by simp;omega);simp only[List.getElem_cons_succ]at this;rw[List.takeWhile_cons_of_neg (by simp[this])]
   .rw[List.drop_of_length_le (by omega)];rfl
  rw[this,YH]
def IT(b:Mar.d0 a=true):Mar.cX a=true:=by simp[Mar.cX,b]
def IS(b:Mar.dk a=true):Mar.cX a=true:=by simp[Mar.cX,b]
def IU(b:((a.toNat:Int)==95)=true):Mar.cX a=true:=by
 have:a.toNat=95:=by simp at b;omega
 simp[Mar.cX,this]
def IV(b:¬Mar.d0 a=true)(c:¬Mar.dk a=true)(d:((a.toNat:Int)==95)=false):Mar.cX a=false:=by
 have:¬a.toNat=95:=by simp at d;omega
 simp at b c;simp[Mar.cX,b,c,this]
def xx(b:ByteArray)(a:Nat):b.extract 0 a=⟨(b.data.toList.take a).toArray⟩:=by
 apply ByteArray.ext;simp only[ByteArray.data_extract];apply Array.ext';simp[Array.toList_extract,List.extract]
def OF(b:ByteArray)(i:World)(w:b.size<=281474976710656)(u:0<b.size) :
  Calls prog 239 #[.string b] i λd j=>d=.returned (.string ⟨(Mar.ba b.data.toList).toArray⟩)/\Below i.heap.size i j:=by
 go_in;go_wp2;go_loop [3] (λh=>∃c:Nat,1<=c/\c<=b.size/\h=.int .i64 c/\∀a (e:a<b.size),1<=a->a<c->Mar.cX b[a]=true) (λh=>b.size-(intOf h).toNat);case atStart=>exact⟨1,by omega,by omega,rfl,by omega⟩
 case round=>
  obtain⟨c,k,l,rfl,p⟩:=hrel;have f:U (∀a (e:a<b.size),1<=a->a<c->Mar.cX b[a]=true):=p;have m:(b.extract 0 c).size<=281474976710656:=by simp;omega
  by_cases q:c<b.size
  .have s:Mar.cX b[c]=true->U (∀a (e:a<b.size),1<=a->a<c+1->Mar.cX b[a]=true):=by
    intro r a e o v;by_cases d:a=c
    .subst d;exact r
    .exact f.j a e o (by omega)
   have iQ:=Z s;go_wp2_with (first
     |(go_at_call 237;refine(Bk _ _).mono ?_;rintro d j ⟨rfl,rfl⟩)
     |(go_at_call 240;refine(Bj _ _).mono ?_;rintro d j ⟨rfl,rfl⟩)
     |(go_at_call 242;refine(wz _ _ m).mono ?_;rintro d t ⟨rfl,g⟩))
   .exact⟨⟨c+1,by omega,by omega,by go_num,(iQ.j (IT ‹_›)).j⟩,by simp[intOf];omega⟩
   .exact⟨⟨c+1,by omega,by omega,by go_num,(iQ.j (IS ‹_›)).j⟩,by simp[intOf];omega⟩
   .exact⟨⟨c+1,by omega,by omega,by go_num,(iQ.j (IU ‹_›)).j⟩,by simp[intOf];omega⟩
   .go_ret;refine⟨CL ?_,g⟩;rw[xx,yL b c k l f.j (λ_=>IV ‹_› ‹_› ‹_›)]
  .go_wp2_with (go_at_call 242;refine(wz _ _ m).mono ?_;rintro d t ⟨rfl,g⟩);go_ret;refine⟨CL ?_,g⟩;rw[xx,yL b c k l f.j (λn=>absurd n q)]
end
section
variable {f:Nat}{l:List UInt8}
def GE(a:(!Lib.hasPrefix l [47,42])=true):Mar.fB l=0:=by
 simp at a;simp[Mar.fB,a]
def DX{a:List UInt8}(b:(!Lib.hasPrefix l a)=false):Lib.trimPrefix l a=l.drop a.length:=by
 simp at b;simp[Lib.trimPrefix,b]
def GG(a:(!Lib.hasPrefix l [47,42])=false)(b:(!(Lib.cut (Lib.trimPrefix l [47,42]) [42,47]).snd.snd)=true):Mar.fB l=0:=by
 rw[DX a]at b;simp at a;unfold Lib.cut at b;by_cases c:0<=Lib.index (l.drop 2) [42,47]
 .simp[c]at b
 .simp[Mar.fB,a,c]
def GH(a:(!Lib.hasPrefix l [47,42])=false)(c:(!(Lib.cut (Lib.trimPrefix l [47,42]) [42,47]).snd.snd)=false) :
  2+((Lib.cut (Lib.trimPrefix l [47,42]) [42,47]).fst.length:Int)+2=(Mar.fB l:Int):=by
 rw[DX a]at c ⊢;simp at a;unfold Lib.cut at c ⊢;by_cases b:0<=Lib.index (l.drop 2) [42,47]
 .have:=Mar.m0 (l.drop 2) [42,47] (by simp) b;simp at this;simp[Mar.fB,a,b];omega
 .simp[b]at c
def GS(l a:List UInt8):(Lib.cut l a).fst.length<=l.length:=by
 unfold Lib.cut;split<;>simp;omega
def zg(l a:List UInt8):(Lib.trimPrefix l a).length<=l.length:=by
 unfold Lib.trimPrefix;split<;>simp
def GI(a:ByteArray)(f:Int)(d:World)(j:a.size<4294967281)(h:d.cell? ⟨2,0,none⟩=some (.int .i64 f)) :
  Calls prog 235 #[.string a] d λc e=>c=.returned (.int .i64 (Mar.fB a.data.toList))/\∃b,e=d.drewN b:=by
 have k:a.size=a.data.toList.length:=by simp
 have g:(⟨(Lib.trimPrefix a.data.toList [47,42]).toArray⟩:ByteArray).size<4294967281:=by
  have:=zg a.data.toList [47,42];show (Lib.trimPrefix a.data.toList [47,42]).toArray.size<_;simp only[List.size_toArray];omega
 have i:((Lib.cut (Lib.trimPrefix a.data.toList [47,42]) [42,47]).fst.length:Int)<=4294967281:=by
  have:=zg a.data.toList [47,42];have:=GS (Lib.trimPrefix a.data.toList [47,42]) [42,47];omega
 go_in;go_wp2_with (first
  |(go_at_call 260;refine(Tryz.strings_CutPrefix _ _ _).mono ?_;rintro c e ⟨rfl,rfl⟩)
  |(go_at_call 261;refine(Tryz.strings_Cut _ _ f _ g h).mono ?_;rintro c e ⟨rfl,b,rfl⟩))
 .go_ret;exact⟨tL (by rw[GE ‹_›];rfl),0,rfl⟩
 .go_ret;exact⟨tL (by rw[GG ‹_› ‹_›];rfl),b,rfl⟩
 .go_ret;exact⟨tL (GH ‹_› ‹_›),b,rfl⟩
def FY(a:UInt8):(0<=Lib.indexByte [32,9,10] ((a.toNat:Int).toNat.toUInt8))↔Mar.f9 a=true:=by
 have:((a.toNat:Int).toNat.toUInt8)=a:=by simp
 rw[this];unfold Mar.f9;simp only[Lib.indexByte];by_cases c:a=32
 .subst c;decide
 .by_cases d:a=9
  .subst d;decide
  .by_cases e:a=10
   .subst e;decide
   .have f:((32:UInt8)==a)=false:=by simp;exact λb=>c b.symm
    have g:((9:UInt8)==a)=false:=by simp;exact λb=>d b.symm
    have h:((10:UInt8)==a)=false:=by simp;exact λb=>e b.symm
    simp[f,g,h,c,d,e]
def wU(a:UInt8):(0<=Lib.indexByte [32,9,10] a)↔Mar.f9 a=true:=by
 have:=FY a;have b:((a.toNat:Int).toNat.toUInt8)=a:=by simp
 rwa[b]at this
def xw(a:ByteArray)(b:Nat):(a.extract b a.size).data.toList=a.data.toList.drop b:=by
 have c:a.size=a.data.toList.length:=by simp
 simp only[ByteArray.data_extract,Array.toList_extract,List.extract];rw[List.take_of_length_le (by simp)]
def xC{a:Nat}(b:a<l.length)(c:Mar.f9 l[a]=true):Mar.d6 (l.drop a)=1:=by
 rw[Yk b];simp[Mar.d6,c]
def xD{a:Nat}(b:a<l.length)(c:¬Mar.f9 l[a]=true):Mar.d6 (l.drop a)=Mar.fB (l.drop a):=by
 rw[Yk b];simp[Mar.d6,c]
def Dr{a:Nat}(c:(l.drop a).length<f)(b:Mar.d6 (l.drop a)=0):Mar.e7 f (l.drop a)=0:=by
 cases f with
 |zero=>rfl
 |succ f=>simp[Mar.e7,b]
def Dq{k a:Nat}(e:(l.drop k).length<f)(c:Mar.d6 (l.drop k)=a)(g:a≠0) :
  ∃b,(l.drop (k+a)).length<b/\Mar.e7 f (l.drop k)=a+Mar.e7 b (l.drop (k+a)):=by
 cases f with
 |zero=>omega
 |succ f=>
  have d:=Mar.la (l.drop k);rw[c]at d;refine⟨f,?_,?_⟩
  .simp at e d ⊢;omega
  .simp[Mar.e7,c,g,List.drop_drop]
def PH(a:ByteArray)(y:Int)(l:World)(I:a.size<4294967281)(E:l.cell? ⟨2,0,none⟩=some (.int .i64 y)) :
  Calls prog 182 #[.string a] l λs m=>s=.returned (.int .i64 (Mar.fx a.data.toList))/\∃c,m=l.drewN c:=by
 have p:U (a.size=a.data.toList.length):=by simp[U]
 go_in;go_wp2;go_loopw [3] (λv m=>∃b f c:Nat,b<=a.size/\v=.int .i64 b/\m=l.drewN c/\(a.data.toList.drop b).length<f/\Mar.fx a.data.toList=b+Mar.e7 f (a.data.toList.drop b)) (λv _=>a.size-(intOf v).toNat)
 case atStart=>exact⟨0,a.data.toList.length+1,0,by omega,rfl,rfl,by simp,by simp[Mar.fx]⟩
 case round=>
  obtain⟨b,f,c,H,rfl,rfl,A,F⟩:=hrel;have x:U ((a.data.toList.drop b).length<f):=A;have o:U (Mar.fx a.data.toList=b+Mar.e7 f (a.data.toList.drop b)):=F;by_cases D:b<a.size
  .have C:b<a.data.toList.length:=by rw[<-p.j];exact D
   have t:=GI (a.extract b a.size) y (l.drewN c) (by simp;omega) (by simpa using E);rw[xw]at t;have u:=Mar.l9 (a.data.toList.drop b);simp only[YI]at u;rw[<-p.j]at u;obtain⟨d,q⟩:∃d,U (Mar.fB (a.data.toList.drop b)=d):=⟨_,rfl⟩;rw[q.j]at t u;have z:=Z t;have n:=Z C;have hY:∀h:Nat,Mar.d6 (a.data.toList.drop b)=h->h≠0->U (∃e,(a.data.toList.drop (b+h)).length<e/\Mar.fx a.data.toList=(b+h:Nat)+Mar.e7 e (a.data.toList.drop (b+h))):=by
    intro h B i;obtain⟨e,j,k⟩:=Dq x.j B i;exact⟨e,j,by rw[o.j,k];omega⟩
   have Fin:=Z hY;have G:a[b]=a.data.toList[b]'(n.j):=by simp;rfl
   have r:=Z G;go_wp2_with (first
    |(go_at_call 235;refine z.j.mono ?_;rintro s m ⟨rfl,w,rfl⟩)
    |(go_at_call 236;refine(Tryz.strings_IndexByte _ _ _).mono ?_;rintro s m ⟨rfl,rfl⟩))
   .obtain⟨e,j,k⟩:=(Fin.j 1 (xC n.j (by rw[<-r.j];exact(wU _).1 ‹_›)) (by omega)).j;exact⟨⟨b+1,e,c+w,by omega,by go_num,rfl,j,k⟩,by simp[intOf];omega⟩
   .go_ret;have i:d=0:=by have:=beq_iff_eq.1 (‹((d:Int)==0)=true›);omega
    have g:¬Mar.f9 a[b]=true:=λg=>by have:=(wU _).2 g;omega
    refine⟨tL ?_,c+w,rfl⟩;rw[o.j,Dr x.j (by rw[xD n.j (by rw[<-r.j];exact g),q.j,i])];rfl
   .have i:d≠0:=by have:=Yi.1 (‹((d:Int)==0)=false›);omega
    have g:¬Mar.f9 a[b]=true:=λg=>by have:=(wU _).2 g;omega
    obtain⟨e,j,k⟩:=(Fin.j d (by rw[xD n.j (by rw[<-r.j];exact g),q.j]) i).j;exact⟨⟨b+d,e,c+w,by omega,by go_num,rfl,j,k⟩,by simp[intOf];omega⟩
  .go_wp2;go_ret;refine⟨tL ?_,c,rfl⟩;have:a.data.toList.drop b=[]:=List.drop_of_length_le (by rw[<-p.j];omega);rw[o.j,this];have:∀f,Mar.e7 f []=0:=by intro f;cases f<;>simp[Mar.e7,Mar.d6]
   simp[this]
end
end Go.Proofs.YtjdhaegijjednaaGreatDoor
namespace Go.Proofs.YtjdhaegijjednaaGreatDoor
open Go.RowKit
open Go.Lib (occAt)
open Go.Proofs.Tryz
section
variable {b a:List UInt8}{c:Nat}
def Mf(a:c+1<b.length):occAt b [42,47] c=(b[c]==42&&b[c+1]==47):=by
 unfold Lib.occAt;rw[Yk (by omega:c<b.length),Yk a];simp[List.isPrefixOf,Bool.beq_comm]
def GC(f:c+1<b.length)(e:∀a,a<c->occAt b [42,47] a=false)(d:occAt b [42,47] c=true):Lib.index b [42,47]=c:=Lib.index_first (by omega) d e
def GF(f:∀a,a<c->occAt b [42,47] a=false)(i:b.length<=c+1):Lib.index b [42,47] = -1:=by
 refine Lib.index_none (λa h=>?_);rcases Yj a c with e|e
 .exact f a e
 .cases g:occAt b [42,47] a with
  |false=>rfl
  |true=>
   rcases Lib.occAt_room g with d|d
   .simp at d;omega
   .cases d
def GB{b:Nat}(c:b+1<a.length)(d:a[b]=47)(e:a[b+1]=42):Mar.fB (a.drop b)=if 0<=Lib.index (a.drop (b+2)) [42,47]then (Lib.index (a.drop (b+2)) [42,47]).toNat+4 else 0:=by
 have f:Lib.hasPrefix (a.drop b) [47,42]=true:=by
  unfold Lib.hasPrefix;rw[Yk (by omega:b<a.length),Yk c,d,e];rfl
 unfold Mar.fB;rw[Y9 f,List.drop_drop]
def xk{b:Nat}(f:b<a.length)(e:∀(c:b+1<a.length),¬(a[b]=47/\a[b+1]=42)):Mar.fB (a.drop b)=0:=by
 have g:Lib.hasPrefix (a.drop b) [47,42]=false:=by
  unfold Lib.hasPrefix;rw[Yk f];rcases Yj (b+1) a.length with c|c
  .rw[Yk c];have:=e c;cases d:([47,42]:List UInt8).isPrefixOf (a[b]::a[b+1]::a.drop (b+1+1))with
   |false=>rfl
   |true=>
    simp only[List.isPrefixOf,Bool.and_eq_true,beq_iff_eq,Bool.and_true]at d;exact absurd ⟨d.1.symm,d.2.symm⟩ this
  .rw[List.drop_eq_nil_iff.2 (by omega:a.length<=b+1)];simp[List.isPrefixOf]
 unfold Mar.fB;rw[g];rfl
def dV(a:List UInt8)(b:Nat):Nat:=b+Mar.fx (a.drop b)
def PG{a:List UInt8}:∀{b g:Nat},a.length<b->a.length<g->Mar.e7 b a=Mar.e7 g a:=by
 intro b;induction b generalizing a with
 |zero=>intro g d;omega
 |succ b c=>
  intro g f h;cases g with
  |zero=>omega
  |succ g=>
   simp only[Mar.e7];split
   .rfl
   .rename_i e;have i:=Mar.la a;rw[c (g:=g) (by simp;omega) (by simp;omega)]
def AV{b:Nat}(c:Mar.d6 (a.drop b)=0):dV a b=b:=by
 unfold dV Mar.fx;rw[Dr (by omega) c];rfl
def Iy{k b:Nat}(c:Mar.d6 (a.drop k)=b)(g:b≠0):dV a k=dV a (k+b):=by
 unfold dV Mar.fx;obtain⟨h,d,e⟩:=Dq (l:=a) (k:=k) (f:=(a.drop k).length+1) (by omega) c g;rw[e,PG d (by omega:(a.drop (k+b)).length<(a.drop (k+b)).length+1)];omega
def Ix{b:Nat}(c:a.length<=b):dV a b=b:=by
 refine AV ?_;rw[List.drop_eq_nil_iff.2 c];rfl
end
end Go.Proofs.YtjdhaegijjednaaGreatDoor
namespace Go.Proofs.YtjdhaegijjednaaGreatDoor
open Go.Lib (parseUintM parseUintB parseIntB)
open Go.Proofs.Tryz
def ez:Nat->List UInt8->Option Nat
 |acc,[]=>some acc
 |acc,a::b=>if Mar.dk a then ez (acc*10+(a.toNat-48)) b else none
def cB(a:List UInt8)(c:Bool):Option Int:=
 if 2<a.length/\a.getD 0 0=48/\a.getD 1 0=120 then (if c=true\/10<a.length then none else (Mar.c3 0 (a.drop 2)).map Int.ofNat)
 else if a=[]\/10<a.length\/(1<a.length/\a.getD 0 0=48)then none
 else match ez 0 a with
  |none=>none
  |some b=>if c then (if b<=2147483648 then some (-(b:Int))else none)else (if b<=4294967295 then some (b:Int)else none)
def oz(a:UInt8):Mar.dk a=true↔48<=a.toNat/\a.toNat<=57:=by simp[Mar.dk]
def MC:∀(d:List UInt8) (a:Nat),a*10 ^ d.length+10 ^ d.length<=10000000000000000000->parseUintM 18446744073709551615 a d=match ez a d with|some u=>.ok u|none=>.syntax:=by
 intro d;induction d with
 |nil=>intro a _;rfl
 |cons c b i=>
  intro a f;have m:1<=10 ^ b.length:=Nat.one_le_pow _ _ (by omega);rw[YC,Nat.pow_succ]at f;by_cases e:48<=c.toNat/\c.toNat<=57
  .have l:a*10<=a*(10 ^ b.length*10):=Nat.mul_le_mul_left _ (by omega);have k:a<1000000000000000000:=by omega
   have h:(a*10+(c.toNat-48))*10 ^ b.length+10 ^ b.length<=10000000000000000000:=by
    have g:(a*10+(c.toNat-48))*10 ^ b.length+10 ^ b.length=(a*10+(c.toNat-48)+1)*10 ^ b.length:=by rw[Nat.add_mul (a*10+(c.toNat-48)) 1];omega
    have j:a*(10 ^ b.length*10)+10 ^ b.length*10=(a*10+10)*10 ^ b.length:=by rw[Nat.add_mul];congr 1;rw[Nat.mul_comm (10 ^ b.length) 10,Nat.mul_assoc];rw[Nat.mul_comm]
    rw[g];refine Yz (Nat.mul_le_mul_right _ (by omega:a*10+(c.toNat-48)+1<=a*10+10)) ?_;omega
   simp only[parseUintM,ez];rw[Y9 e,Y2 (by omega),Y2 (by omega),Y9 ((oz c).2 e)];exact i _ h
  .simp only[parseUintM,ez];rw[Y2 e,Y2 (λf=>e ((oz c).1 f))]
def MB:∀(c:List UInt8) (b d:Nat),parseUintM 18446744073709551615 b c=.ok d->b*10 ^ c.length<=d:=by
 intro c;induction c with
 |nil=>intro b d a;cases a;simp
 |cons h e g=>
  intro b d a;simp only[parseUintM]at a;split at a
  .split at a
   .cases a
   .split at a
    .cases a
    .have:=g _ _ a;rw[YC,Nat.pow_succ];have f:b*(10 ^ e.length*10)=b*10*10 ^ e.length:=by rw[Nat.mul_comm (10 ^ e.length) 10,Nat.mul_assoc]
     rw[f];exact Yz (Nat.mul_le_mul_right _ (by omega)) this
  .cases a
def CA{c:List UInt8}(f:10<c.length)(h:c.getD 0 0≠48){e:Nat}(a:parseUintB 64 c=.ok e):10000000000<=e:=by
 cases c with
 |nil=>simp at f
 |cons b d=>
  have i:b≠48:=by simpa using h
  unfold Lib.parseUintB at a;rw[Y2 (by simp)]at a;have a:parseUintM 18446744073709551615 0 (b::d)=.ok e:=a;simp only[parseUintM]at a;split at a
  .rename_i l;have k:1<=b.toNat-48:=by
    have:b.toNat≠48:=λg=>i (UInt8.toNat_inj.1 (by simpa using g));omega
   split at a
   .cases a
   .split at a
    .cases a
    .have:=MB _ _ _ a;have j:10 ^ 10<=10 ^ d.length:=Nat.pow_le_pow_right (by omega) (by simp at f;omega);have:1*10 ^ d.length<=(0*10+(b.toNat-48))*10 ^ d.length:=Nat.mul_le_mul_right _ (by omega);omega
  .cases a
def Ea{a:List UInt8}(b:a≠[])(c:¬10<a.length):parseUintB 64 a=match ez 0 a with|some u=>.ok u|none=>.syntax:=by
 unfold Lib.parseUintB;rw[Y2 b];refine MC a 0 ?_;have:10 ^ a.length<=10 ^ 10:=Nat.pow_le_pow_right (by omega) (by omega);omega
def Ap:∀(c:List UInt8) (a d:Nat),ez a c=some d->d<(a+1)*10 ^ c.length:=by
 intro c;induction c with
 |nil=>intro a d b;cases b;simp
 |cons g e i=>
  intro a d b;simp only[ez]at b;split at b
  .rename_i f;have f:=(oz g).1 f;have:=i _ _ b;rw[YC,Nat.pow_succ];refine Yr this ?_;have h:(a+1)*(10 ^ e.length*10)=((a+1)*10)*10 ^ e.length:=by rw[Nat.mul_comm (10 ^ e.length) 10,Nat.mul_assoc]
   rw[h];exact Nat.mul_le_mul_right _ (by omega)
  .cases b
def vA(a:List UInt8):Mar.g0 a=true↔(1<a.length/\a.getD 0 0=48):=by simp[Mar.g0]
def Cm{a:UInt8}{b:List UInt8}(u:Mar.dk a=true):Mar.f0 (a::b)=cB (a::b) false:=by
 have x:=(oz a).1 u;have o:¬(a.toNat=43\/a.toNat=45):=by omega
 have w:a≠45:=λc=>by subst c;simp at x
 by_cases h:Lib.hasPrefix (a::b) [48,120]=true
 .obtain⟨d,A⟩:=List.isPrefixOf_iff_prefix.1 h;have c:a::b=48::120::d:=by rw[<-A];rfl
  rw[c];unfold Mar.f0 cB;rw[c]at h;rw[Y9 h];unfold Mar.g8;simp only[List.drop_succ_cons,List.drop_zero,YC];cases d with
  |nil=>simp
  |cons e d=>
   have q:2<(e::d).length+1+1/\(48::120::e::d).getD 0 0=48/\(48::120::e::d).getD 1 0=120:=⟨by simp,rfl,rfl⟩;by_cases l:8<(e::d).length
   .rw[Y9 l,Y9 q,Y9 (Ya (by omega))]
   .rw[Y2 l,Y2 (by simp),Y9 q,Y2 (by simp;simp at l;omega)]
 .have C:Lib.hasPrefix (a::b) [48,120]=false:=by simpa using h
  have z:¬(2<(a::b).length/\(a::b).getD 0 0=48/\(a::b).getD 1 0=120):=by
   rintro⟨t,m,n⟩;cases b with
   |nil=>simp at t
   |cons e b=>
    simp at m n;subst m n;exact h rfl
  have B:Lib.trimPrefix (a::b) [45]=a::b:=by
   unfold Lib.trimPrefix Lib.hasPrefix;rw[Y2];simp only[List.isPrefixOf,Bool.and_true,beq_iff_eq];exact λc=>w c.symm
  unfold Mar.f0 cB Mar.f6;rw[Y2 (by rw[C];simp),Y2 z,B];by_cases j:Mar.g0 (a::b)=true
  .rw[Y9 j,Y9 (Ya (Ya ((vA _).1 j)))]
  .rw[Y2 j];have p:¬(1<(a::b).length/\(a::b).getD 0 0=48):=λf=>j ((vA _).2 f);by_cases i:10<(a::b).length
   .rw[Y9 (Ya (Y8 i))];have s:(a::b).getD 0 0≠48:=λc=>p ⟨by omega,c⟩;unfold Lib.parseIntB;simp only[Y2 o];cases k:parseUintB 64 (a::b)with
    |«syntax»=>rfl
    |range=>rfl
    |ok r=>
     have:=CA i s k;simp only;split
     .rename_i v g;split at g
      .cases g
      .split at g
       .cases g
       .cases g
        rw[Y2 (by omega:¬a.toNat=45),Y2 (by omega)]
     .rfl
   .rw[Y2 (by simp only[reduceCtorEq,false_or];rintro(f|f);exact i f;exact p f)];unfold Lib.parseIntB;simp only[Y2 o];rw[Ea (by simp) i];cases y:ez 0 (a::b)with
    |none=>rfl
    |some r=>
     have E:=Ap _ _ _ y;have:10 ^ (a::b).length<=10 ^ 10:=Nat.pow_le_pow_right (by omega) (by omega);simp only;have D:¬a.toNat=45:=by omega
     simp only[D,not_false_eq_true,true_and,false_and,if_false]
     rw[Y2 (by omega)];simp only[Ye,if_false]
     by_cases k:r<=4294967295
     .rw[Y9 (by omega),Y9 k]
     .rw[Y2 (by omega),Y2 k]
def Cl(a:List UInt8):Mar.f0 (45::a)=cB a true:=by
 have p:Lib.hasPrefix (45::a) [48,120]=false:=by simp[Lib.hasPrefix,List.isPrefixOf]
 have o:Lib.trimPrefix (45::a) [45]=a:=by simp[Lib.trimPrefix,Lib.hasPrefix,List.isPrefixOf]
 unfold Mar.f0 Mar.f6;rw[Y2 (by rw[p];simp),o];by_cases e:Mar.g0 a=true
 .rw[Y9 e];have c:=(vA _).1 e;unfold cB;by_cases f:2<a.length/\a.getD 0 0=48/\a.getD 1 0=120
  .rw[Y9 f,Y9 (Y8 rfl)]
  .rw[Y2 f,Y9 (Ya (Ya c))]
 .rw[Y2 e];have c:¬(1<a.length/\a.getD 0 0=48):=λb=>e ((vA _).2 b);have f:¬(2<a.length/\a.getD 0 0=48/\a.getD 1 0=120):=λb=>c ⟨by omega,b.2.1⟩;unfold cB;rw[Y2 f];unfold Lib.parseIntB;have m:(45:UInt8).toNat=45:=rfl;simp only[m,or_true,if_true]
  by_cases h:a=[]
  .subst h;rfl
  .by_cases d:10<a.length
   .rw[Y9 (Ya (Y8 d))];have l:a.getD 0 0≠48:=λk=>c ⟨by omega,k⟩;cases g:parseUintB 64 a with
    |«syntax»=>rfl
    |range=>rfl
    |ok i=>
     have:=CA d l g;simp only[not_true_eq_false,false_and,if_false,true_and]
     by_cases j:2 ^ (64-1)<i
     .rw[Y9 j]
     .rw[Y2 j];simp only;rw[Y2 (by omega)]
   .rw[Y2 (by rintro(b|b|b);exact h b;exact d b;exact c b),Ea h d];cases n:ez 0 a with
    |none=>rfl
    |some i=>
     have q:=Ap _ _ _ n;have:10 ^ a.length<=10 ^ 10:=Nat.pow_le_pow_right (by omega) (by omega);simp only[not_true_eq_false,false_and,if_false,true_and]
     rw[Y2 (by omega)];simp only[if_true]
     by_cases g:i<=2147483648
     .rw[Y9 (by omega),Y9 g]
     .rw[Y2 (by omega),Y2 g]
end Go.Proofs.YtjdhaegijjednaaGreatDoor
namespace Go.Proofs.YtjdhaegijjednaaGreatDoor
open Go.RowKit
open Go.Proofs.Tryz
def pR(a:UInt8)(b:World) :
  Calls prog 137 #[.int .u8 a.toNat] b λc d=>c=.returned (.bool (Mar.d0 a))/\d=b:=by
 go_in;go_wp2;all_goals
  go_ret
  refine⟨lE ?_,rfl⟩
  unfold Mar.d0
  rw[Bool.eq_iff_iff]
  simp
  try omega
def mf(a:UInt8)(b:World) :
  Calls prog 138 #[.int .u8 a.toNat] b λc d=>c=.returned (.bool (Mar.dk a))/\d=b:=by
 go_in;go_wp2;all_goals
  go_ret
  refine⟨lE ?_,rfl⟩
  unfold Mar.dk
  rw[Bool.eq_iff_iff]
  simp
  try omega
def Bo(a:ByteArray)(b:World) :
  Calls prog 139 #[.string a] b λc d=>c=.returned (.bool (Mar.e3 a.data.toList))/\d=b:=by
 rw[<-ByteArray.toList_eq];go_in;go_wp2;all_goals
  first
   |(exfalso;simp_all;done)
   |(go_ret;refine⟨lE ?_, rfl⟩;simp only[Mar.e3, Mar.i7, List.contains_cons, *, Bool.true_or, Bool.false_or, Bool.or_true, List.contains_nil])
def km(b:UInt8)(a:Nat)(d:a<256):((b.toNat:Int)==(a:Int))=(b==UInt8.ofNat a):=by
 rw[Bool.eq_iff_iff];simp only[beq_iff_eq];constructor
 .intro c;apply UInt8.toNat_inj.1;simp;omega
 .intro c;subst c;simp;omega
def tc(a:List UInt8)(k:Nat)(a1:k<=a.length)(c1:a.length<=1000000)(B:World) :
  Calls prog 136 #[.string ⟨a.toArray⟩,.int .i64 k] B λe a4=>e=.returned (.int .i64 (dV a k))/\a4=B:=by
 go_in;go_wp2_with fail;go_loopw [1] (λf A=>∃b:Nat,f=.int .i64 b/\b<=a.length/\U (dV a k=dV a b)/\A=B) (λf _=>a.length-(intOf f).toNat)
 case atStart=>exact⟨k,rfl,a1,rfl,rfl⟩
 case round=>
  obtain⟨b,rfl,b8,v,rfl⟩:=hrel;rcases Yj b a.length with h|P
  .have b2:(0:Int)<=(b:Int):=by omega
   have b3:(b:Int)<(a.length:Int):=by omega
   have a8:(⟨a.toArray⟩:ByteArray)[b]'(by simp[ByteArray.size];exact h)=a[b]:=rfl;have u:Mar.d6 (a.drop b)≠0->U (dV a k=dV a (b+Mar.d6 (a.drop b))):=λd=>v.j.trans (Iy rfl d);have n:Mar.d6 (a.drop b)=0->U (dV a k=b):=λd=>v.j.trans (AV d);by_cases g:Mar.f9 a[b]=true
   .have o:=u (by rw[xC h g];omega);rw[xC h g]at o;have N:a[b].toNat=32\/a[b].toNat=9\/a[b].toNat=10:=by
     simp only[Mar.f9,Bool.or_eq_true,beq_iff_eq]at g;rcases g with(d|d)|d<;>(rw[d];simp)
    rcases N with d|d|d
    .have m:(a[b].toNat:Int)=32:=by omega
     go_wp2;exact⟨⟨b+1,by go_num,h,o,trivial⟩,by simp[intOf];omega⟩
    .have m:(a[b].toNat:Int)=9:=by omega
     go_wp2;exact⟨⟨b+1,by go_num,h,o,trivial⟩,by simp[intOf];omega⟩
    .have m:(a[b].toNat:Int)=10:=by omega
     go_wp2;exact⟨⟨b+1,by go_num,h,o,trivial⟩,by simp[intOf];omega⟩
   .have R:=xD h g;rw[R]at u n;have c3:((a[b].toNat:Int)==32)=false:=by
     simp only[Mar.f9,Bool.or_eq_true,beq_iff_eq,not_or]at g;have:a[b].toNat≠32:=λe=>g.1.1 (UInt8.toNat_inj.1 (by simpa using e));simp;omega
    have c4:((a[b].toNat:Int)==9)=false:=by
     simp only[Mar.f9,Bool.or_eq_true,beq_iff_eq,not_or]at g;have:a[b].toNat≠9:=λe=>g.1.2 (UInt8.toNat_inj.1 (by simpa using e));simp;omega
    have c2:((a[b].toNat:Int)==10)=false:=by
     simp only[Mar.f9,Bool.or_eq_true,beq_iff_eq,not_or]at g;have:a[b].toNat≠10:=λe=>g.2 (UInt8.toNat_inj.1 (by simpa using e));simp;omega
    by_cases s:a[b]=47
    .have K:((a[b].toNat:Int) != 47)=false:=by rw[s];rfl
     rcases Yj (b+1) a.length with m|m
     .have b9:(0:Int)<=(b:Int)+1:=by omega
      have c0:(b:Int)+1<(a.length:Int):=by omega
      have a2:¬((a.length:Int)<=(b:Int)+1):=by omega
      have a9:(⟨a.toArray⟩:ByteArray)[b+1]'(by simp[ByteArray.size];exact m)=a[b+1]:=rfl;by_cases r:a[b+1]=42
      .have J:((a[b+1].toNat:Int) != 42)=false:=by rw[r];rfl
       have O:=GB m s r;rw[O]at u n;have I:=Z u;have H:=Z n;have nk:(a.drop (b+2)).length=a.length-(b+2):=YI;go_wp2_with fail;go_loopw [6] (λy A=>∃f c:Nat,U (c=b+2+f)/\y=.int .i64 (c:Int)/\c<=a.length/\U (∀i,i<f->Lib.occAt (a.drop (b+2)) [42,47] i=false)/\A=wr) (λy _=>a.length-(intOf y).toNat)
       case atStart=>exact⟨0,b+2,rfl,rfl,by omega,(λi d=>by omega),rfl⟩
       case round=>
        obtain⟨f,c,l,rfl,b1,w,rfl⟩:=hrel;rcases Yj (c+1) a.length with E|E
        .have b5:(0:Int)<=(c:Int):=by omega
         have b6:(c:Int)<(a.length:Int):=by omega
         have b7:(0:Int)<=(c:Int)+1:=by omega
         have S:(c:Int)+1<(a.length:Int):=by omega
         have a0:¬((a.length:Int)<=(c:Int)+1):=by omega
         have a6:(⟨a.toArray⟩:ByteArray)[c]'(by simp[ByteArray.size];omega)=a[c]:=rfl;have a7:(⟨a.toArray⟩:ByteArray)[c+1]'(by simp[ByteArray.size];exact E)=a[c+1]:=rfl;have z:Lib.occAt (a.drop (b+2)) [42,47] f=(a[c]==42&&a[c+1]==47):=by
          have a3:=l.j;subst a3;rw[Mf (by rw[nk];omega)];simp only[List.getElem_drop];rfl
         have C:Lib.occAt (a.drop (b+2)) [42,47] f=false->U (∀i,i<f+1->Lib.occAt (a.drop (b+2)) [42,47] i=false):=by
          intro d i b4;rcases Yj i f with D|D
          .exact w.j i D
          .have:i=f:=by omega
           rw[this];exact d
         by_cases p:a[c]=42
         .have L:((a[c].toNat:Int) != 42)=false:=by rw[p];rfl
          by_cases q:a[c+1]=47
          .have M:((a[c+1].toNat:Int) != 47)=false:=by rw[q];rfl
           have t:Lib.index (a.drop (b+2)) [42,47]=f:=GC (by have:=l.j;rw[nk];omega) w.j (by rw[z,p,q];rfl);have F:=I.j (by rw[t,Y9 (by omega)];omega);rw[t,Y9 (by omega)]at F;have G:U (dV a k=dV a (c+2)):=by
            show _=_;rw[F.j];have:=l.j;congr 1;simp;omega
           go_wp2;refine⟨⟨c+2,by go_num,by omega,G,trivial⟩,by have:=l.j;simp[intOf];omega⟩
          .have M:((a[c+1].toNat:Int) != 47)=true:=by
            have:a[c+1].toNat≠47:=λe=>q (UInt8.toNat_inj.1 (by simpa using e));simp;omega
           have x:=C (by rw[z];simp[q]);go_wp2;exact⟨⟨f+1,c+1,(by have:=l.j;show _=_;omega),by go_num,by omega,x,trivial⟩,by simp[intOf];omega⟩
         .have L:((a[c].toNat:Int) != 42)=true:=by
           have:a[c].toNat≠42:=λe=>p (UInt8.toNat_inj.1 (by simpa using e));simp;omega
          have x:=C (by rw[z];simp[p]);go_wp2;exact⟨⟨f+1,c+1,(by have:=l.j;show _=_;omega),by go_num,by omega,x,trivial⟩,by simp[intOf];omega⟩
        .have S:¬((c:Int)+1<(a.length:Int)):=by omega
         have a0:(a.length:Int)<=(c:Int)+1:=by omega
         have t:Lib.index (a.drop (b+2)) [42,47] = -1:=GF w.j (by have:=l.j;rw[nk];omega);have j:=H.j (by rw[t];rfl);go_wp2;go_ret;exact⟨by rw[j.j];rfl,rfl⟩
      .have J:((a[b+1].toNat:Int) != 42)=true:=by
        have:a[b+1].toNat≠42:=λe=>r (UInt8.toNat_inj.1 (by simpa using e));simp;omega
       have j:=n (xk h (λ_ d=>r d.2));go_wp2;go_ret;exact⟨by rw[j.j];rfl,rfl⟩
     .have a2:(a.length:Int)<=(b:Int)+1:=by omega
      have j:=n (xk h (λa5=>by omega));go_wp2;go_ret;exact⟨by rw[j.j];rfl,rfl⟩
    .have K:((a[b].toNat:Int) != 47)=true:=by
      have:a[b].toNat≠47:=λe=>s (UInt8.toNat_inj.1 (by simpa using e));simp;omega
     have j:=n (xk h (λ_ d=>s d.1));go_wp2;go_ret;exact⟨by rw[j.j];rfl,rfl⟩
  .have j:U (dV a k=b):=v.j.trans (Ix P);have b0:¬((b:Int)<(a.length:Int)):=by omega
   go_wp2;go_ret;exact⟨by rw[j.j];rfl,rfl⟩
def pN(b:Option Nat):Int:=match b with
 |some a=>(a:Int)
 |none=>-1
def IR(a:UInt8)(i:World) :
  Calls prog 213 #[.int .u8 a.toNat] i λj k=>j=.returned (.int .i64 (pN (Mar.d3 a)))/\k=i:=by
 have l:=a.toNat_lt;go_in;by_cases c:48<=a.toNat/\a.toNat<=57
 .have b:U (pN (Mar.d3 a)=(a.toNat:Int)-48):=by
   show _=_;unfold Mar.d3;rw[Y9 c];show ((a.toNat-48:Nat):Int)=_;omega
  have e:(48:Int)<=a.toNat:=by omega
  have f:(a.toNat:Int)<=57:=by omega
  have g:IntKind.u8.wrap ((a.toNat:Int)-48)=(a.toNat:Int)-48:=by rw[IntKind.wrap_u8];omega
  go_wp2;go_ret;exact⟨by rw[b.j];rfl,rfl⟩
 .by_cases d:97<=a.toNat/\a.toNat<=102
  .have b:U (pN (Mar.d3 a)=(a.toNat:Int)-97+10):=by
    show _=_;unfold Mar.d3;rw[Y2 c,Y9 d];show ((a.toNat-87:Nat):Int)=_;omega
   have e:(97:Int)<=a.toNat:=by omega
   have f:(a.toNat:Int)<=102:=by omega
   have g:IntKind.u8.wrap ((a.toNat:Int)-97)=(a.toNat:Int)-97:=by rw[IntKind.wrap_u8];omega
   go_wp2;all_goals (first|(exfalso;omega)|(go_ret;exact⟨by rw[b.j];rfl,rfl⟩))
  .by_cases h:65<=a.toNat/\a.toNat<=70
   .have b:U (pN (Mar.d3 a)=(a.toNat:Int)-65+10):=by
     show _=_;unfold Mar.d3;rw[Y2 c,Y2 d,Y9 h];show ((a.toNat-55:Nat):Int)=_;omega
    have e:(65:Int)<=a.toNat:=by omega
    have f:(a.toNat:Int)<=70:=by omega
    have g:IntKind.u8.wrap ((a.toNat:Int)-65)=(a.toNat:Int)-65:=by rw[IntKind.wrap_u8];omega
    go_wp2;all_goals (first|(exfalso;omega)|(go_ret;exact⟨by rw[b.j];rfl,rfl⟩))
   .have b:U (pN (Mar.d3 a) = -1):=by
     show _=_;unfold Mar.d3;rw[Y2 c,Y2 d,Y2 h];rfl
    go_wp2;all_goals (first|(exfalso;omega)|(go_ret;exact⟨by rw[b.j];rfl,rfl⟩))
def EO(d:World)(b:Option Int)(c:Ending)(e:World):Prop:=e=d/\∃a,c=.returned (.tuple #[.int .i64 a,.bool b.isSome])/\∀v,b=some v->a=v
def IM{b:List UInt8}{a acc:Nat}(c:a<b.length):Mar.c3 acc (b.drop a)=match Mar.d3 b[a]with|some d=>Mar.c3 (acc*16+d) (b.drop (a+1))|none=>none:=by
 rw[Yk c];rfl
def xo{b:List UInt8}{a acc:Nat}(c:a<b.length):ez acc (b.drop a)=if Mar.dk b[a]then ez (acc*10+(b[a].toNat-48)) (b.drop (a+1))else none:=by
 rw[Yk c];rfl
def vC(a:List UInt8)(h:Bool)(J:a.length<=2000)(F:World) :
  Calls prog 140 #[.string ⟨a.toArray⟩,.bool h] F (EO F (cB a h)):=by
 go_in;match a,J with
 |[],J=>
  have e:U (cB [] h=none):=by show _=_;unfold cB;simp
  go_wp2;go_ret2;exact⟨rfl,0,by rw[e.j];rfl,λv d=>by rw[e.j]at d;cases d⟩
 |[g],J=>
  have s:¬([g]=[]\/10 < [g].length\/(1 < [g].length/\[g].getD 0 0=48)):=by simp
  have r:¬(2 < [g].length/\[g].getD 0 0=48/\[g].getD 1 0=120):=by simp
  have b1:([g].length:Int)=1:=rfl;generalize A:[g]=a at *
  have c4:¬((2:Int)<(a.length:Int)):=by omega
  have b4:((a.length:Int)==0)=false:=by rw[b1];rfl
  have c5:¬((10:Int)<(a.length:Int)):=by omega
  have c6:¬((1:Int)<(a.length:Int)):=by omega
  have q:U (cB a h=match ez 0 a with|none=>none|some o=>if h then (if o<=2147483648 then some (-(o:Int))else none)else (if o<=4294967295 then some (o:Int)else none)):=by
   show _=_;unfold cB;rw[Y2 r,Y2 s];all_goals (cases ez 0 a<;>rfl)
  have a8:a.length<=10:=by omega
  go_wp2_with fail;go_loopw [6,9] (λg n B=>∃b c:Nat,n=.int .i64 b/\g=.int .i64 c/\b<=a.length/\c<10 ^ b/\U (ez 0 a=ez c (a.drop b))/\B=F) (λ_ n _=>a.length-(intOf n).toNat)
  case atStart=>exact⟨0,0,rfl,rfl,by omega,by simp,rfl,rfl⟩
  case round=>
   obtain⟨b,c,rfl,rfl,a0,P,k,rfl⟩:=hrel;have a1:10 ^ b<=10 ^ 10:=Nat.pow_le_pow_right (by omega) (by omega);rcases Yj b a.length with m|S
   .have a2:(0:Int)<=(b:Int):=by omega
    have E:(b:Int)<(a.length:Int):=by omega
    have R:(⟨a.toArray⟩:ByteArray)[b]'(by simp[ByteArray.size];exact m)=a[b]:=rfl;have i:=Z (mf a[b]);have j:=xo (acc:=c) m;cases l:Mar.dk a[b]with
    |false=>
     rw[l]at j i;have e:U (cB a h=none):=by show _=_;rw[q.j,k.j,j];rfl
     go_wp2_with fail;refine(i.j _).mono ?_;rintro p C ⟨rfl,rfl⟩;go_wp2;go_ret2;exact⟨rfl,0,by rw[e.j];rfl,λv d=>by rw[e.j]at d;cases d⟩
    |true=>
     rw[l]at j i;have a7:=(oz a[b]).1 l;have w:U (ez 0 a=ez (c*10+(a[b].toNat-48)) (a.drop (b+1))):=by show _=_;rw[k.j,j];rfl
     have a5:IntKind.u8.wrap ((a[b].toNat:Int)-48)=(a[b].toNat:Int)-48:=by rw[IntKind.wrap_u8];omega
     have M:IntKind.i64.wrap (10*(c:Int))=10*(c:Int):=by rw[IntKind.wrap_i64];omega
     have N:IntKind.i64.wrap (10*(c:Int)+((a[b].toNat:Int)-48))=((c*10+(a[b].toNat-48):Nat):Int):=by rw[IntKind.wrap_i64];omega
     have y:c*10+(a[b].toNat-48)<10 ^ (b+1):=by rw[Nat.pow_succ];omega
     go_wp2_with fail;refine(i.j _).mono ?_;rintro p C ⟨rfl,rfl⟩;go_wp2;exact⟨⟨b+1,c*10+(a[b].toNat-48),by go_num,by congr 1<;>omega,m,y,w,trivial⟩,by simp[intOf];omega⟩
   .have z:b=a.length:=by omega
    subst z;have t:U (ez 0 a=some c):=by show _=_;rw[k.j,List.drop_length];rfl
    have E:¬((a.length:Int)<(a.length:Int)):=by omega
    cases h with
    |true=>
     have e:U (cB a true=if c<=2147483648 then some (-(c:Int))else none):=by show _=_;rw[q.j,t.j];rfl
     go_wp2;go_ret2;by_cases f:c<=2147483648
     .refine⟨rfl,-(c:Int),?_,λv d=>?_⟩
      .rw[e.j,Y9 f];simp;omega
      .rw[e.j,Y9 f]at d;injection d
     .refine⟨rfl,-(c:Int),?_,λv d=>?_⟩
      .rw[e.j,Y2 f];simp;omega
      .rw[e.j,Y2 f]at d;cases d
    |false=>
     have e:U (cB a false=if c<=4294967295 then some (c:Int)else none):=by show _=_;rw[q.j,t.j];rfl
     go_wp2;go_ret2;by_cases f:c<=4294967295
     .refine⟨rfl,(c:Int),?_,λv d=>?_⟩
      .rw[e.j,Y9 f];simp;omega
      .rw[e.j,Y9 f]at d;injection d
     .refine⟨rfl,(c:Int),?_,λv d=>?_⟩
      .rw[e.j,Y2 f];simp;omega
      .rw[e.j,Y2 f]at d;cases d
 |g::x::b6,J=>
  generalize A:g::x::b6=a at *
  have b9:2<=a.length:=by rw[<-A];simp
  have a2:(0:Int)<(a.length:Int):=by omega
  have E:(1:Int)<(a.length:Int):=by omega
  have c0:(⟨a.toArray⟩:ByteArray)[0]'(by simp[ByteArray.size];omega)=g:=by subst A;rfl
  have c1:(⟨a.toArray⟩:ByteArray)[1]'(by simp[ByteArray.size];omega)=x:=by subst A;rfl
  have H:a.getD 0 0=g:=by subst A;rfl
  have a6:a.getD 1 0=x:=by subst A;rfl
  have b4:((a.length:Int)==0)=false:=by rw[Yi];omega
  have b2:a≠[]:=by subst A;simp
  by_cases D:g=48
  .have a9:((g.toNat:Int)==48)=true:=by rw[D];rfl
   have s:a=[]\/10<a.length\/(1<a.length/\a.getD 0 0=48):=Ya (Ya ⟨by omega,H.trans D⟩);by_cases O:2<a.length
   .have K:(2:Int)<(a.length:Int):=by omega
    by_cases I:x=120
    .have b0:((x.toNat:Int)==120)=true:=by rw[I];rfl
     have r:2<a.length/\a.getD 0 0=48/\a.getD 1 0=120:=⟨O,H.trans D,a6.trans I⟩;have L:U (cB a h=if h=true\/10<a.length then none else (Mar.c3 0 (a.drop 2)).map Int.ofNat):=by show _=_;unfold cB;rw[Y9 r]
     cases h with
     |true=>
      have e:U (cB a true=none):=by show _=_;rw[L.j,Y9 (Y8 rfl)]
      go_wp2;go_ret2;exact⟨rfl,0,by rw[e.j];rfl,λv d=>by rw[e.j]at d;cases d⟩
     |false=>
      by_cases G:10<a.length
      .have e:U (cB a false=none):=by show _=_;rw[L.j,Y9 (Ya G)]
       have a3:(10:Int)<(a.length:Int):=by omega
       go_wp2;go_ret2;exact⟨rfl,0,by rw[e.j];rfl,λv d=>by rw[e.j]at d;cases d⟩
      .have a4:U (cB a false=(Mar.c3 0 (a.drop 2)).map Int.ofNat):=by show _=_;rw[L.j,Y2 (by rintro(d|d);cases d;exact G d)]
       have a3:¬((10:Int)<(a.length:Int)):=by omega
       go_wp2_with fail;go_loopw [6,7] (λb7 n B=>∃b c:Nat,n=.int .i64 b/\b7=.int .i64 c/\2<=b/\b<=a.length/\c<16 ^ (b-2)/\U (Mar.c3 0 (a.drop 2)=Mar.c3 c (a.drop b))/\B=F) (λ_ n _=>a.length-(intOf n).toNat)
       case atStart=>exact⟨2,0,rfl,rfl,by omega,by omega,by simp,rfl,rfl⟩
       case round=>
        obtain⟨b,c,rfl,rfl,c3,a0,P,k,rfl⟩:=hrel;have a1:16 ^ (b-2)<=16 ^ 8:=Nat.pow_le_pow_right (by omega) (by omega);rcases Yj b a.length with m|S
        .have c7:(0:Int)<=(b:Int):=by omega
         have b5:(b:Int)<(a.length:Int):=by omega
         have R:(⟨a.toArray⟩:ByteArray)[b]'(by simp[ByteArray.size];exact m)=a[b]:=rfl;have i:=Z (IR a[b]);have j:=IM (acc:=c) m;cases l:Mar.d3 a[b]with
         |none=>
          rw[l]at j i;have e:U (cB a false=none):=by show _=_;rw[a4.j,k.j,j];rfl
          go_wp2_with fail;refine(i.j _).mono ?_;rintro p C ⟨rfl,rfl⟩;have b3:pN none = -1:=rfl;go_wp2;go_ret2;exact⟨rfl,0,by rw[e.j];rfl,λv d=>by rw[e.j]at d;cases d⟩
         |some u=>
          rw[l]at j i;have c2:=Mar.lc l;have w:U (Mar.c3 0 (a.drop 2)=Mar.c3 (c*16+u) (a.drop (b+1))):=by show _=_;rw[k.j,j]
          have M:IntKind.i64.wrap (16*(c:Int))=16*(c:Int):=by rw[IntKind.wrap_i64];omega
          have N:IntKind.i64.wrap (16*(c:Int)+(u:Int))=((c*16+u:Nat):Int):=by rw[IntKind.wrap_i64];omega
          have y:c*16+u<16 ^ (b+1-2):=by
           have p:b+1-2=(b-2)+1:=by omega
           rw[p,Nat.pow_succ];omega
          have b8:¬((u:Int)<0):=by omega
          go_wp2_with fail;refine(i.j _).mono ?_;rintro p C ⟨rfl,rfl⟩;have b3:pN (some u)=(u:Int):=rfl;go_wp2;exact⟨⟨b+1,c*16+u,by go_num,by congr 1<;>omega,by omega,m,y,w,trivial⟩,by simp[intOf];omega⟩
        .have z:b=a.length:=by omega
         subst z;have e:U (cB a false=some (c:Int)):=by show _=_;rw[a4.j,k.j,List.drop_length];rfl
         have b5:¬((a.length:Int)<(a.length:Int)):=by omega
         go_wp2;go_ret2;exact⟨rfl,(c:Int),by rw[e.j];rfl,λv d=>by rw[e.j]at d;injection d⟩
    .have b0:((x.toNat:Int)==120)=false:=by
      have:x.toNat≠120:=λp=>I (UInt8.toNat_inj.1 (by simpa using p));rw[Yi];omega
     have r:¬(2<a.length/\a.getD 0 0=48/\a.getD 1 0=120):=λd=>I (a6.symm.trans d.2.2);have e:U (cB a h=none):=by show _=_;unfold cB;rw[Y2 r,Y9 s]
     go_wp2;all_goals (go_ret2;exact⟨rfl,0,by rw[e.j];rfl,λv d=>by rw[e.j]at d;cases d⟩)
   .have K:¬((2:Int)<(a.length:Int)):=by omega
    have r:¬(2<a.length/\a.getD 0 0=48/\a.getD 1 0=120):=λd=>O d.1;have e:U (cB a h=none):=by show _=_;unfold cB;rw[Y2 r,Y9 s]
    go_wp2;all_goals (go_ret2;exact⟨rfl,0,by rw[e.j];rfl,λv d=>by rw[e.j]at d;cases d⟩)
  .have a9:((g.toNat:Int)==48)=false:=by
    have:g.toNat≠48:=λp=>D (UInt8.toNat_inj.1 (by simpa using p));rw[Yi];omega
   have r:¬(2<a.length/\a.getD 0 0=48/\a.getD 1 0=120):=λd=>D (H.symm.trans d.2.1);by_cases G:10<a.length
   .have a3:(10:Int)<(a.length:Int):=by omega
    have K:(2:Int)<(a.length:Int):=by omega
    have s:a=[]\/10<a.length\/(1<a.length/\a.getD 0 0=48):=Ya (Y8 G);have e:U (cB a h=none):=by show _=_;unfold cB;rw[Y2 r,Y9 s]
    go_wp2;all_goals (go_ret2;exact⟨rfl,0,by rw[e.j];rfl,λv d=>by rw[e.j]at d;cases d⟩)
   .have a3:¬((10:Int)<(a.length:Int)):=by omega
    have s:¬(a=[]\/10<a.length\/(1<a.length/\a.getD 0 0=48)):=by
     rintro(d|d|d)
     .exact b2 d
     .exact G d
     .exact D (H.symm.trans d.2)
    by_cases O:2<a.length
    .have K:(2:Int)<(a.length:Int):=by omega
     have q:U (cB a h=match ez 0 a with|none=>none|some o=>if h then (if o<=2147483648 then some (-(o:Int))else none)else (if o<=4294967295 then some (o:Int)else none)):=by
      show _=_;unfold cB;rw[Y2 r,Y2 s];all_goals (cases ez 0 a<;>rfl)
     have a8:a.length<=10:=by omega
     go_wp2_with fail;go_loopw [6,9] (λg n B=>∃b c:Nat,n=.int .i64 b/\g=.int .i64 c/\b<=a.length/\c<10 ^ b/\U (ez 0 a=ez c (a.drop b))/\B=F) (λ_ n _=>a.length-(intOf n).toNat)
     case atStart=>exact⟨0,0,rfl,rfl,by omega,by simp,rfl,rfl⟩
     case round=>
      obtain⟨b,c,rfl,rfl,a0,P,k,rfl⟩:=hrel;have a1:10 ^ b<=10 ^ 10:=Nat.pow_le_pow_right (by omega) (by omega);rcases Yj b a.length with m|S
      .have a2:(0:Int)<=(b:Int):=by omega
       have E:(b:Int)<(a.length:Int):=by omega
       have R:(⟨a.toArray⟩:ByteArray)[b]'(by simp[ByteArray.size];exact m)=a[b]:=rfl;have i:=Z (mf a[b]);have j:=xo (acc:=c) m;cases l:Mar.dk a[b]with
       |false=>
        rw[l]at j i;have e:U (cB a h=none):=by show _=_;rw[q.j,k.j,j];rfl
        go_wp2_with fail;refine(i.j _).mono ?_;rintro p C ⟨rfl,rfl⟩;go_wp2;go_ret2;exact⟨rfl,0,by rw[e.j];rfl,λv d=>by rw[e.j]at d;cases d⟩
       |true=>
        rw[l]at j i;have a7:=(oz a[b]).1 l;have w:U (ez 0 a=ez (c*10+(a[b].toNat-48)) (a.drop (b+1))):=by show _=_;rw[k.j,j];rfl
        have a5:IntKind.u8.wrap ((a[b].toNat:Int)-48)=(a[b].toNat:Int)-48:=by rw[IntKind.wrap_u8];omega
        have M:IntKind.i64.wrap (10*(c:Int))=10*(c:Int):=by rw[IntKind.wrap_i64];omega
        have N:IntKind.i64.wrap (10*(c:Int)+((a[b].toNat:Int)-48))=((c*10+(a[b].toNat-48):Nat):Int):=by rw[IntKind.wrap_i64];omega
        have y:c*10+(a[b].toNat-48)<10 ^ (b+1):=by rw[Nat.pow_succ];omega
        go_wp2_with fail;refine(i.j _).mono ?_;rintro p C ⟨rfl,rfl⟩;go_wp2;exact⟨⟨b+1,c*10+(a[b].toNat-48),by go_num,by congr 1<;>omega,m,y,w,trivial⟩,by simp[intOf];omega⟩
      .have z:b=a.length:=by omega
       subst z;have t:U (ez 0 a=some c):=by show _=_;rw[k.j,List.drop_length];rfl
       have E:¬((a.length:Int)<(a.length:Int)):=by omega
       cases h with
       |true=>
        have e:U (cB a true=if c<=2147483648 then some (-(c:Int))else none):=by show _=_;rw[q.j,t.j];rfl
        go_wp2;go_ret2;by_cases f:c<=2147483648
        .refine⟨rfl,-(c:Int),?_,λv d=>?_⟩
         .rw[e.j,Y9 f];simp;omega
         .rw[e.j,Y9 f]at d;injection d
        .refine⟨rfl,-(c:Int),?_,λv d=>?_⟩
         .rw[e.j,Y2 f];simp;omega
         .rw[e.j,Y2 f]at d;cases d
       |false=>
        have e:U (cB a false=if c<=4294967295 then some (c:Int)else none):=by show _=_;rw[q.j,t.j];rfl
        go_wp2;go_ret2;by_cases f:c<=4294967295
        .refine⟨rfl,(c:Int),?_,λv d=>?_⟩
         .rw[e.j,Y9 f];simp;omega
         .rw[e.j,Y9 f]at d;injection d
        .refine⟨rfl,(c:Int),?_,λv d=>?_⟩
         .rw[e.j,Y2 f];simp;omega
         .rw[e.j,Y2 f]at d;cases d
    .have K:¬((2:Int)<(a.length:Int)):=by omega
     have q:U (cB a h=match ez 0 a with|none=>none|some o=>if h then (if o<=2147483648 then some (-(o:Int))else none)else (if o<=4294967295 then some (o:Int)else none)):=by
      show _=_;unfold cB;rw[Y2 r,Y2 s];all_goals (cases ez 0 a<;>rfl)
     have a8:a.length<=10:=by omega
     go_wp2_with fail;go_loopw [6,9] (λg n B=>∃b c:Nat,n=.int .i64 b/\g=.int .i64 c/\b<=a.length/\c<10 ^ b/\U (ez 0 a=ez c (a.drop b))/\B=F) (λ_ n _=>a.length-(intOf n).toNat)
     case atStart=>exact⟨0,0,rfl,rfl,by omega,by simp,rfl,rfl⟩
     case round=>
      obtain⟨b,c,rfl,rfl,a0,P,k,rfl⟩:=hrel;have a1:10 ^ b<=10 ^ 10:=Nat.pow_le_pow_right (by omega) (by omega);rcases Yj b a.length with m|S
      .have a2:(0:Int)<=(b:Int):=by omega
       have E:(b:Int)<(a.length:Int):=by omega
       have R:(⟨a.toArray⟩:ByteArray)[b]'(by simp[ByteArray.size];exact m)=a[b]:=rfl;have i:=Z (mf a[b]);have j:=xo (acc:=c) m;cases l:Mar.dk a[b]with
       |false=>
        rw[l]at j i;have e:U (cB a h=none):=by show _=_;rw[q.j,k.j,j];rfl
        go_wp2_with fail;refine(i.j _).mono ?_;rintro p C ⟨rfl,rfl⟩;go_wp2;go_ret2;exact⟨rfl,0,by rw[e.j];rfl,λv d=>by rw[e.j]at d;cases d⟩
       |true=>
        rw[l]at j i;have a7:=(oz a[b]).1 l;have w:U (ez 0 a=ez (c*10+(a[b].toNat-48)) (a.drop (b+1))):=by show _=_;rw[k.j,j];rfl
        have a5:IntKind.u8.wrap ((a[b].toNat:Int)-48)=(a[b].toNat:Int)-48:=by rw[IntKind.wrap_u8];omega
        have M:IntKind.i64.wrap (10*(c:Int))=10*(c:Int):=by rw[IntKind.wrap_i64];omega
        have N:IntKind.i64.wrap (10*(c:Int)+((a[b].toNat:Int)-48))=((c*10+(a[b].toNat-48):Nat):Int):=by rw[IntKind.wrap_i64];omega
        have y:c*10+(a[b].toNat-48)<10 ^ (b+1):=by rw[Nat.pow_succ];omega
        go_wp2_with fail;refine(i.j _).mono ?_;rintro p C ⟨rfl,rfl⟩;go_wp2;exact⟨⟨b+1,c*10+(a[b].toNat-48),by go_num,by congr 1<;>omega,m,y,w,trivial⟩,by simp[intOf];omega⟩
      .have z:b=a.length:=by omega
       subst z;have t:U (ez 0 a=some c):=by show _=_;rw[k.j,List.drop_length];rfl
       have E:¬((a.length:Int)<(a.length:Int)):=by omega
       cases h with
       |true=>
        have e:U (cB a true=if c<=2147483648 then some (-(c:Int))else none):=by show _=_;rw[q.j,t.j];rfl
        go_wp2;go_ret2;by_cases f:c<=2147483648
        .refine⟨rfl,-(c:Int),?_,λv d=>?_⟩
         .rw[e.j,Y9 f];simp;omega
         .rw[e.j,Y9 f]at d;injection d
        .refine⟨rfl,-(c:Int),?_,λv d=>?_⟩
         .rw[e.j,Y2 f];simp;omega
         .rw[e.j,Y2 f]at d;cases d
       |false=>
        have e:U (cB a false=if c<=4294967295 then some (c:Int)else none):=by show _=_;rw[q.j,t.j];rfl
        go_wp2;go_ret2;by_cases f:c<=4294967295
        .refine⟨rfl,(c:Int),?_,λv d=>?_⟩
         .rw[e.j,Y9 f];simp;omega
         .rw[e.j,Y9 f]at d;injection d
        .refine⟨rfl,(c:Int),?_,λv d=>?_⟩
         .rw[e.j,Y2 f];simp;omega
         .rw[e.j,Y2 f]at d;cases d
def fg(e:World)(d b:Int)(c:Ending)(f:World):Prop:=
 ∃a,e.heap.size<=a/\c=.panicked [{ v:=.iface 143 (.pointer (some ⟨a,0,none⟩)),recovered:=false }]/\
  f.heap[a]? = some (.cells #[.int .i64 d,.int .i64 b] 179)
def Fx(a:World)(c b:Int):fg a c b (.panicked [{ v:=.iface 143 (.pointer (some ⟨a.heap.size,0,none⟩)),recovered:=false }]) (a.alloc (.cells #[.int .i64 c,.int .i64 b] 179)):=
 ⟨_,Y4 _,rfl,by show (a.heap.push _)[a.heap.size]? = _;simp⟩
def aK{w:World}{o:Obj}{a:Nat}(b:a=w.heap.size):(w.alloc o).heap[a]? = some o:=by
 subst b;show (w.heap.push _)[w.heap.size]? = _;simp
def aq{d:Program}{e:Func}{a:Ending->World->Prop}{g:Array Value}{c:World}{b:List PanicEntry}
  (f:a (.panicked b) c):bodyPost d e a (.panic b) { tmps:=g,defers:=[] } c:=⟨rfl,f⟩
def gO(c b:Int)(a:World) :
  Calls prog 70 #[.int .i64 c,.int .i64 b] a λd e=>
   d=.returned (.pointer (some ⟨a.heap.size,0,none⟩))/\e=a.alloc (.cells #[.int .i64 c,.int .i64 b] 179):=by
 go_in;go_wp2;go_ret;exact⟨rfl,rfl⟩
def qm(e nt c:Int)(a:World)(f:nt<=e) :
  Calls prog 201 #[.int .i64 e,.int .i64 nt,.int .i64 c] a λd b=>fg a 5 c d b/\Below a.heap.size a b:=by
 go_in;go_wp2_with (go_at_call 70;refine(gO _ _ _).mono ?_;rintro d b ⟨rfl,rfl⟩);exact aq ⟨Fx _ _ _,(Below.refl _ _).alloc (Y4 _) _⟩
def qn(a nt c:Int)(b:World)(f:¬nt<=a) :
  Calls prog 201 #[.int .i64 a,.int .i64 nt,.int .i64 c] b λd e=>d=.returned (.tuple #[])/\e=b:=by
 go_in;go_wp2;go_end0;exact⟨rfl,rfl⟩
abbrev cr(a:Mar.bi):Value:=.agg #[.int .i64 a.H,.string ⟨a.text.toArray⟩,.int .i64 a.n,.int .i64 a.w]
def qO(d:World)(c:Except Mar.a5 Mar.bi)(a:Ending)(e:World):Prop:=
 match c with
 |.ok f=>a=.returned (cr f)
 |.error b=>fg d b.no b.w a e
def wm(a:ByteArray):(⟨a.data.toList.toArray⟩:ByteArray)=a:=by
 obtain⟨⟨b⟩⟩:=a;rfl
def mK{c:World}{a:Mar.bi}{v:Value}{d:World}(b:v=cr a):qO c (.ok a) (.returned v) d:=by
 show Ending.returned v=_;rw[b]
def LE(a:ByteArray)(b:Nat)(c:World)(j:a.size<=281474976710656) :
  Calls prog 238 #[.string a,.int .i64 b] c λf d=>qO c (Mar.d7 a.data.toList b) f d/\Below c.heap.size c d:=by
 have e:U (a.size=a.data.toList.length):=by simp[U]
 by_cases i:16<a.size
 .go_in;go_wp2_with (go_at_call 70;refine(gO _ _ _).mono ?_;rintro f d ⟨rfl,rfl⟩);refine aq ⟨?_,((Below.refl _ _).alloc (Y4 _) _).alloc (by simp) _⟩;have:Mar.d7 a.data.toList b=.error ⟨7,b⟩:=by rw[Mar.d7,Y9 (by rw[<-e.j];exact i)]
  rw[this];exact⟨_,by omega,rfl,aK (by simp)⟩
 .go_in;go_wp2_with (go_at_call 263;refine(Jm _ _).mono ?_;rintro f d ⟨rfl,rfl⟩)
  .have h:Mar.e3 a.data.toList=true:=‹_›;have g:Mar.d7 a.data.toList b=.ok ⟨2,a.data.toList,0,b⟩:=by rw[Mar.d7,Y2 (by rw[<-e.j];exact i),Y9 h]
   refine bodyPost_ret (v:=.agg #[.int .i64 2,.string a,.int .i64 0,.int .i64 b]) (by simp[results,results238,go_sem]) rfl ⟨?_,(Below.refl _ _).alloc (Y4 _) _⟩;rw[g];exact mK (by simp only[cr,wm];rfl)
  .have h:Mar.e3 a.data.toList=false:=‹_›;have g:Mar.d7 a.data.toList b=.ok ⟨1,a.data.toList,0,b⟩:=by rw[Mar.d7,Y2 (by rw[<-e.j];exact i),Y2 (by simp[h])]
   refine bodyPost_ret (v:=.agg #[.int .i64 1,.string a,.int .i64 0,.int .i64 b]) (by simp[results,results238,go_sem]) rfl ⟨?_,(Below.refl _ _).alloc (Y4 _) _⟩;rw[g];exact mK (by simp only[cr,wm];rfl)
section
variable {b e:Nat}{a:List UInt8}{c d:World}
structure Gl(c:World):Prop where
 bc:∃m,c.cell? ⟨2,0,none⟩=some (.int .i64 m)
 r0:∃te pe,c.cell? ⟨3,0,none⟩=some (.iface te pe)
 q9:∃te pe,c.cell? ⟨4,0,none⟩=some (.iface te pe)
def lq{v:Value}(a:c.cell? ⟨b,e,none⟩=some v):b<c.heap.size:=by
 unfold World.cell? at a;by_cases d:b<c.heap.size
 .exact d
 .simp[YO (Nat.le_of_not_lt d)]at a
def ri{a:Nat}{v:Value}(h:Below a c d)(g:a=c.heap.size)(f:c.cell? ⟨b,e,none⟩=some v):d.cell? ⟨b,e,none⟩=some v:=by
 rw[h.cell (p:=⟨b,e,none⟩) (by rw[g];exact lq f)];exact f
def Gl.aA(h:Gl c)(a:Below c.heap.size c d):Gl d:=by
 obtain⟨⟨l,i⟩,⟨e,b,j⟩,⟨f,g,k⟩⟩:=h;exact⟨⟨l,ri a rfl i⟩,⟨e,b,ri a rfl j⟩,⟨f,g,ri a rfl k⟩⟩
def Ff(a:ByteArray)(c:World)(l:Gl c)(g:a.size<=281474976710656) :
  Calls prog 275 #[.string a,.int .i64 10,.int .i64 64] c λb d=>
   Below c.heap.size c d/\((∃v,Lib.parseIntB 64 a.data.toList=.ok v/\b=.returned (.tuple #[.int .i64 v,.nilIface]))\/
    ((∀v,Lib.parseIntB 64 a.data.toList≠.ok v)/\∃(v:Int) (h:TypeId) (n:Value),b=.returned (.tuple #[.int .i64 v,.iface h n]))):=by
 obtain⟨_,⟨q,o,j⟩,⟨r,p,k⟩⟩:=l;cases e:Lib.parseIntB 64 a.data.toList with
 |ok v=>
  refine(Tryz.strconv_ParseInt_10_at64_ok a (by omega) v e c).mono ?_;rintro b d ⟨rfl,m⟩;refine⟨?_,Y8 ⟨v,rfl,rfl⟩⟩;rcases m with rfl|⟨h,rfl⟩
  .exact Below.refl _ _
  .exact Lib.bytesWorld_below _ _ _
 |«syntax»=>
  refine(Tryz.strconv_ParseInt_10_at64_syntax a g e _ c j (Ya ⟨_,_,rfl⟩)).mono ?_;rintro b d ⟨i,rfl,_,_,f⟩;exact⟨f,Ya ⟨by simp,_,_,_,rfl⟩⟩
 |range=>
  refine(Tryz.strconv_ParseInt_10_at64_range a g e _ c k (Ya ⟨_,_,rfl⟩)).mono ?_;rintro b d ⟨i,rfl,_,_,f⟩;exact⟨f,Ya ⟨by simp,_,_,_,rfl⟩⟩
def Bb(a:List UInt8)(b:0<(⟨a.toArray⟩:ByteArray).size):(⟨a.toArray⟩:ByteArray)[0]'b=a.getD 0 0:=by
 cases a with
 |nil=>exact absurd b (by decide)
 |cons c d=>rfl
def LT(d:1<(a.length:Int))(c:0<(⟨a.toArray⟩:ByteArray).size)(b:((((⟨a.toArray⟩:ByteArray)[0]'c).toNat:Int)==48)=true):Mar.g0 a=true:=by
 rw[Bb]at b;have:(a.getD 0 0)=48:=by
  have:=beq_iff_eq.1 b;apply UInt8.toNat_inj.1;simp at this ⊢;omega
 unfold Mar.g0;rw[this];simp;omega
def ym(e:1<(a.length:Int))(d:0<(⟨a.toArray⟩:ByteArray).size)(b:((((⟨a.toArray⟩:ByteArray)[0]'d).toNat:Int)==48)=false):Mar.g0 a=false:=by
 rw[Bb]at b;have:(a.getD 0 0==48)=false:=by
  rw[Yi]at b ⊢;intro c;rw[c]at b;exact b rfl
 unfold Mar.g0;rw[this];simp
def yn(b:(a.length:Int)<=1):Mar.g0 a=false:=by
 unfold Mar.g0;rw[decide_eq_false (by omega)];rfl
def GU(b:Mar.g0 (Lib.trimPrefix a [45])=true):Mar.f6 a=none:=by rw[Mar.f6,Y9 b]
def uI{v:Int}(b:Mar.g0 (Lib.trimPrefix a [45])=false)(c:Lib.parseIntB 64 a=.ok v) :
  Mar.f6 a=if -2147483648<=v/\v<=4294967295 then some v else none:=by rw[Mar.f6,Y2 (by simp[b]),c]
def Ar(c:Mar.g0 (Lib.trimPrefix a [45])=false)(d:∀v,Lib.parseIntB 64 a≠.ok v):Mar.f6 a=none:=by
 rw[Mar.f6,Y2 (by simp[c])];cases b:Lib.parseIntB 64 a with
 |ok v=>exact absurd b (d v)
 |«syntax»=>rfl
 |range=>rfl
def uH{v:Int}{b:Bool}(c:Mar.f6 a=if -2147483648<=v/\v<=4294967295 then some v else none)
  (h:b=decide (-2147483648<=v/\v<=4294967295)) :
  ∃g:Int,Ending.returned (.tuple #[.int .i64 v,.bool b])=.returned (.tuple #[.int .i64 g,.bool (Mar.f6 a).isSome])/\∀e,Mar.f6 a=some e->g=e:=by
 subst h;by_cases d:-2147483648<=v/\v<=4294967295
 .rw[Y9 d]at c;refine⟨v,by rw[c,decide_eq_true d];rfl,?_⟩;rw[c];intro e f;exact YQ f
 .rw[Y2 d]at c;refine⟨v,by rw[c,decide_eq_false d];rfl,?_⟩;rw[c];intro e f;cases f
def GX(g:ByteArray)(c:World)(k:Gl c)(l:g.size<=281474976710656) :
  Calls prog 265 #[.string g] c λh d=>
   (∃i:Int,h=.returned (.tuple #[.int .i64 i,.bool (Mar.f6 g.data.toList).isSome])/\∀v,Mar.f6 g.data.toList=some v->i=v)/\Below c.heap.size c d:=by
 have j:=Z (Ff g c k l);go_in;go_wp2_with (first
  |(go_at_call 274;refine(Tryz.strings_TrimPrefix _ _ _).mono ?_;rintro h d ⟨rfl,rfl⟩)
  |(go_at_call 275;refine j.j.mono ?_;rintro h d ⟨f,⟨v,e,rfl⟩|⟨e,v,n,m,rfl⟩⟩))
 .go_ret2;have a:=GU (LT ‹_› _ ‹_›);refine⟨⟨0,?_,?_⟩,Below.refl _ _⟩
  .rw[a];rfl
  .rw[a];intro v b;cases b
 .go_ret2;have a:=uI (ym ‹_› _ ‹_›) e;exact⟨uH a (by rename_i b;simp[b]),f⟩
 .go_ret2;have a:=uI (ym ‹_› _ ‹_›) e;exact⟨uH a (by simp;omega),f⟩
 .go_ret2;have a:=Ar (ym ‹_› _ ‹_›) e;refine⟨⟨v,?_,?_⟩,f⟩
  .rw[a];rfl
  .rw[a];intro v b;cases b
 .go_ret2;have a:=uI (yn ‹_›) e;exact⟨uH a (by rename_i b;simp[b]),f⟩
 .go_ret2;have a:=uI (yn ‹_›) e;exact⟨uH a (by simp;omega),f⟩
 .go_ret2;have a:=Ar (yn ‹_›) e;refine⟨⟨v,?_,?_⟩,f⟩
  .rw[a];rfl
  .rw[a];intro v b;cases b
end
def xG:Option Nat->Value
 |some v=>.tuple #[.int .u64 v,.nilIface]
 |none=>.tuple #[.int .u64 0,.iface 467 (.int .i64 2)]
def MJ:∀a:Nat,a<8->16 ^ (a+1)<=4294967296
 |0,_|1,_|2,_|3,_|4,_|5,_|6,_|7,_=>by decide
 |a+8,b=>by omega
def Kg(b:UInt8) :
  (∀e,Mar.d3 b=some e->¬(48<=b.toNat/\b.toNat<=57)->97<=bits .or .u8 (b.toNat:Int) 32/\bits .or .u8 (b.toNat:Int) 32<=102/\bits .or .u8 (b.toNat:Int) 32=(e:Int)+87)/\
  (Mar.d3 b=none->¬(48<=b.toNat/\b.toNat<=57)->bits .or .u8 (b.toNat:Int) 32<97\/102<bits .or .u8 (b.toNat:Int) 32):=by
 have key:∀a:Fin 256,bits .or .u8 ((a.val:Nat):Int) 32=((a.val ||| 32:Nat):Int):=by decide +kernel
 have l:∀a:Fin 256,¬(48<=a.val/\a.val<=57)->(97<=a.val/\a.val<=102->(a.val ||| 32)=a.val)/\(65<=a.val/\a.val<=70->(a.val ||| 32)=a.val+32)/\
  (¬(97<=a.val/\a.val<=102)->¬(65<=a.val/\a.val<=70)->(a.val ||| 32)<97\/102<(a.val ||| 32)):=by decide +kernel
 have g:=b.toNat_lt;have k:=key ⟨b.toNat,g⟩;simp only at k;rw[k];refine⟨?_,?_⟩
 .intro e c d;obtain⟨h,i,_⟩:=l ⟨b.toNat,g⟩ d;simp only at h i;unfold Mar.d3 at c;rw[Y2 d]at c;split at c
  .rename_i f;have:=h f;simp at c;omega
  .split at c
   .rename_i f;have:=i f;simp at c;omega
   .cases c
 .intro c d;obtain⟨_,_,j⟩:=l ⟨b.toNat,g⟩ d;simp only at j;unfold Mar.d3 at c;rw[Y2 d]at c;split at c
  .cases c
  .split at c
   .cases c
   .rename_i m n;have:=j m n;omega
def Fg(d:ByteArray)(a1:d.size≠0)(b6:d.size<=8)(i:World) :
  Calls prog 278 #[.string d,.int .i64 16,.int .i64 32] i λo A=>o=.returned (xG (Mar.c3 0 d.data.toList))/\A=Lib.bytesWorld i 5 d:=by
 have b4:d.toList.isEmpty=false:=by
  rw[<-decide_eq_emptyBytes];exact decide_eq_false (λK=>a1 (by rw[K];rfl))
 have L:=Lib.run_convert_string_bytes (P:=prog) i 9 97 5 d (u:=.string) (by kernel_rfl) (by kernel_rfl) (by kernel_rfl);have p:∀n,n<d.size->(Lib.bytesWorld i 5 d).cell? ⟨i.heap.size,n,none⟩=some (.int .u8 (d.data.toList.getD n 0).toNat):=λn O=>Lib.bytesWorld_cell i 5 d n O;obtain⟨W1,C⟩:∃W1,W1=Lib.bytesWorld i 5 d:=⟨_,rfl⟩;rw[<-C]at L p ⊢;clear C;obtain⟨c,x⟩:∃c,c=d.data.toList:=⟨_,rfl⟩;have b1:c.length=d.size:=by rw[x,Lib.size_eq]
 rw[<-x]at p ⊢;clear x;go_in;go_wp2;go_loop [12,13,101] (λa6 a5 z=>∃(a e:Nat) (g:Int),a6=.bool false/\a5=.int .u64 g/\z=.int .i64 a/\a<=d.size/\U (g=(e:Int)/\e<16 ^ a/\Mar.c3 0 c=Mar.c3 e (c.drop a)))
  (λ_ _ z=>d.size-(intOf z).toNat)
 case atStart=>exact⟨0,0,0,rfl,rfl,rfl,by omega,rfl,by omega,rfl⟩
 case round=>
  obtain⟨a,e,g,rfl,rfl,rfl,b5,G⟩:=hrel;obtain⟨q,r,f⟩:=G.j;clear G;by_cases S:a<d.size
  .have H:16 ^ (a+1)<=4294967296:=MJ a (by omega);have I:16 ^ (a+1)=16 ^ a*16:=rfl;have a8:0<=g:=by omega
   have a9:g*16+15<4294967296:=by omega
   have B:=Z (Yp H I);clear H I;have D:=p a S;have E:c.drop a=c[a]'(by omega)::c.drop (a+1):=Yk (by omega);have F:c.getD a 0=c[a]'(by omega):=by simp[List.getD,Yd (show a<c.length by omega)]
   rw[E]at f;rw[F]at D;generalize c[a]'(by omega)=b at D f;have b2:b.toNat<256:=b.toNat_lt;clear p E F;by_cases l:48<=b.toNat/\b.toNat<=57
   .obtain⟨M,N⟩:=l;have hF:Mar.c3 e (b::c.drop (a+1))=Mar.c3 (e*16+(b.toNat-48)) (c.drop (a+1)):=by simp[Mar.c3,Mar.d3,M,N]
    have w:U (g*16+((b.toNat:Int)-48)=((e*16+(b.toNat-48):Nat):Int)/\e*16+(b.toNat-48)<16 ^ (a+1)/\Mar.c3 0 c=Mar.c3 (e*16+(b.toNat-48)) (c.drop (a+1))):=
     Lib.hid ⟨by omega,by have:=B.j.2;omega,f.trans hF⟩
    clear hF f q r;go_wp2;exact⟨⟨a+1,_,g*16+((b.toNat:Int)-48),rfl,rfl,by go_num,by omega,w⟩,by simp[intOf];omega⟩
   .obtain⟨v,y⟩:∃v,bits .or .u8 (b.toNat:Int) 32=v:=⟨_,rfl⟩;have m:=Kg b;have j:(b.toNat:Int)<48\/57<(b.toNat:Int):=by omega
    rw[y]at m;have a7:=Z y;cases h:Mar.d3 b with
    |some k=>
     have b3:=Mar.lc h;have b0:((b.toNat:Int)==95)=false:=by
      rw[Yi];intro o;have J:b=95:=UInt8.toNat_inj.1 (by show b.toNat=95;omega);subst J;have a0:Mar.d3 95=none:=by decide
      rw[a0]at h;cases h
     obtain⟨s,b7,a4⟩:=m.1 k h l;have hF:Mar.c3 e (b::c.drop (a+1))=Mar.c3 (e*16+k) (c.drop (a+1)):=by simp[Mar.c3,h]
     have w:U (g*16+(v-97+10)=((e*16+k:Nat):Int)/\e*16+k<16 ^ (a+1)/\Mar.c3 0 c=Mar.c3 (e*16+k) (c.drop (a+1))):=
      Lib.hid ⟨by omega,by have:=B.j.2;omega,f.trans hF⟩
     clear hF f q r h m a4 l;rcases j with j|j;all_goals
      go_wp2_with (go_at_call 285;refine(Tryz.internal_strconv_lower _ _).mono ?_;rintro o A ⟨rfl,rfl⟩)
      exact⟨⟨a+1,_,g*16+(v-97+10),rfl,rfl,by go_num,by omega,w⟩,by simp[intOf];omega⟩
    |none=>
     have s:=m.2 h l;have hF:Mar.c3 e (b::c.drop (a+1))=none:=by simp[Mar.c3,h]
     rw[hF]at f;have a2:=bits_lo_u8 .or (b.toNat:Int) 32;have a3:=bits_hi_u8 .or (b.toNat:Int) 32;rw[y]at a2 a3;have t:=Z f;clear hF f q r h m l;rcases j with j|j;all_goals rcases s with s|s
     all_goals
      go_wp2_with (go_at_call 285;refine(Tryz.internal_strconv_lower _ _).mono ?_;rintro o A ⟨rfl,rfl⟩)
     all_goals go_ret2
     all_goals exact⟨by rw[t.j];rfl,rfl⟩
  .have R:a=d.size:=by omega
   subst R;have hF:Mar.c3 e (c.drop d.size)=some e:=by rw[YR (by omega)];rfl
   rw[hF]at f;have t:=Z f;subst q;clear r hF f;go_wp2;go_ret2;exact⟨by rw[t.j];rfl,rfl⟩
section
variable {at':Nat}{a:List UInt8}{b:Option Int}
def Bc:∀(a:List UInt8) (b v:Nat),Mar.c3 b a=some v->v<(b+1)*16 ^ a.length
 |[],b,v,d=>by simp[Mar.c3]at d;simp;omega
 |c::e,b,v,d=>by
  unfold Mar.c3 at d;cases f:Mar.d3 c with
  |none=>rw[f]at d;cases d
  |some g=>
   rw[f]at d;have j:=Mar.lc f;have:=Bc e _ _ d;have h:(b*16+g+1)*16 ^ e.length<=(b+1)*16*16 ^ e.length:=Nat.mul_le_mul_right _ (by omega);have i:(b+1)*16 ^ (e.length+1)=(b+1)*16*16 ^ e.length:=by rw[Nat.pow_succ,Nat.mul_assoc,Nat.mul_comm 16]
   simp only[YC];omega
def IL{v:Nat}(b:Mar.c3 0 a=some v)(c:a.length<=8):v<4294967296:=by
 have d:=Bc a 0 v b;have e:16 ^ a.length<=16 ^ 8:=Nat.pow_le_pow_right (by omega) c;omega
def Fi(b:ByteArray)(e:World)(r:Gl e)(m:b.size<=8) :
  Calls prog 273 #[.string b,.int .i64 16,.int .i64 32] e λd f=>
   Below e.heap.size e f/\((∃v:Nat,b.size≠0/\Mar.c3 0 b.data.toList=some v/\v<4294967296/\d=.returned (.tuple #[.int .u64 v,.nilIface]))\/
    ((b.size=0\/Mar.c3 0 b.data.toList=none)/\∃(u:TypeId) (t:Value),d=.returned (.tuple #[.int .u64 0,.iface u t]))):=by
 obtain⟨_,⟨x,w,o⟩,_⟩:=r;by_cases k:b.size=0
 .have:b=⟨#[]⟩:=by
   obtain⟨⟨a⟩⟩:=b;have:a=[]:=List.eq_nil_of_length_eq_zero k;subst this;rfl
  subst this;go_in;go_wp2_with (first
   |(go_at_call 278;refine(Tryz.internal_strconv_ParseUint_empty _ _ _).mono ?_;rintro d f ⟨rfl,rfl⟩)
   |(go_at_call 279;refine(Tryz.strconv_toError_syntax _ _ _ _ _ _ (by decide) o (Ya ⟨_,_,rfl⟩)).mono ?_;rintro d f ⟨q,rfl,_,_,l⟩))
  go_ret2;exact⟨l,Ya ⟨Y8 rfl,_,_,rfl⟩⟩
 .have c:=Fg b k m e;have h:=Lib.bytesWorld_below e 5 b;have p:=ri h rfl o;obtain⟨W1,n⟩:∃W1,W1=Lib.bytesWorld e 5 b:=⟨_,rfl⟩;rw[<-n]at c h p;clear n;have i:=Z h;clear h;cases g:Mar.c3 0 b.data.toList with
  |some v=>
   rw[g]at c;simp only[xG]at c;have s:=IL g (by rw[<-Lib.size_eq];exact m);have j:=Z c;clear c g;go_in;go_wp2_with (go_at_call 278;refine j.j.mono ?_;rintro d f ⟨rfl,rfl⟩);go_ret2;exact⟨i.j,Y8 ⟨v,k,rfl,s,rfl⟩⟩
  |none=>
   rw[g]at c;simp only[xG]at c;have j:=Z c;clear c g;go_in;go_wp2_with (first
    |(go_at_call 278;refine j.j.mono ?_;rintro d f ⟨rfl,rfl⟩)
    |(go_at_call 279;refine(Tryz.strconv_toError_syntax _ _ _ _ _ _ (by omega) p (Ya ⟨_,_,rfl⟩)).mono ?_;rintro d f ⟨q,rfl,_,_,l⟩))
   go_ret2;exact⟨i.j.trans (l.mono i.j.size),Ya ⟨by simp,_,_,rfl⟩⟩
def IN(b:a.length=0\/Mar.c3 0 a=none):Mar.g8 a=none:=by
 unfold Mar.g8;split
 .rfl
 .split
  .rfl
  .rename_i c;rcases b with b|b
   .exact absurd (List.eq_nil_of_length_eq_zero b) c
   .rw[b];rfl
def IP{v:Nat}(e:a.length<=8)(b:a.length≠0)(d:Mar.c3 0 a=some v):Mar.g8 a=some (v:Int):=by
 unfold Mar.g8;rw[Y2 (by omega),Y2 (by intro c;rw[c]at b;exact b rfl),d];rfl
def IQ(a:ByteArray)(e:World)(o:Gl e)(r:a.size<=281474976710656) :
  Calls prog 264 #[.string a] e λh k=>
   (∃j:Int,h=.returned (.tuple #[.int .i64 j,.bool (Mar.g8 a.data.toList).isSome])/\∀v,Mar.g8 a.data.toList=some v->j=v)/\Below e.heap.size e k:=by
 have f:U (a.size=a.data.toList.length):=by simp[U]
 by_cases n:8<a.size
 .have b:Mar.g8 a.data.toList=none:=by rw[Mar.g8,Y9 (by rw[<-f.j];exact n)]
  rw[b];go_in;go_wp2;go_ret2;exact⟨⟨0,rfl,λv c=>by cases c⟩,Below.refl _ _⟩
 .have l:=Z (Fi a e o (by omega));go_in;go_wp2_with (go_at_call 273;refine l.j.mono ?_;rintro h k ⟨i,⟨v,m,d,q,rfl⟩|⟨d,t,s,rfl⟩⟩)
  .have g:=Z d;clear d;go_region;go_wp2;go_ret2;have b:=IP (by rw[<-f.j];omega) (by rw[<-f.j];exact m) g.j;exact⟨⟨v,by rw[b];rfl,λp c=>by rw[b]at c;exact YQ c⟩,i.drew⟩
  .have g:=Z d;clear d;go_region;go_wp2;go_ret2;have b:=IN (by rw[<-f.j];exact g.j);exact⟨⟨0,by rw[b];rfl,λp c=>by rw[b]at c;cases c⟩,i.drew⟩
def LV(b:Lib.hasPrefix a [48,120]=true):Mar.f0 a=Mar.g8 (Lib.trimPrefix a [48,120]):=by
 simp[Mar.f0,b,Lib.trimPrefix]
def LU(b:Lib.hasPrefix a [48,120]=false):Mar.f0 a=Mar.f6 a:=by
 simp[Mar.f0,b]
def ra{c e:World}(f:Below c.heap.size c e):(∀a b,a<c.heap.size->e.cell? ⟨a,b,none⟩=c.cell? ⟨a,b,none⟩)/\(∀a b,a<c.heap.size->e.frozen? ⟨a,b,none⟩=c.frozen? ⟨a,b,none⟩):=
 ⟨λa b d=>f.cell (p:=⟨a,b,none⟩) d,λa b d=>f.frozen (p:=⟨a,b,none⟩) d⟩
def Ch(c:Mar.f0 a=b)(d:b.isNone=true):Mar.e5 a at'=.error ⟨4,at'⟩:=by
 cases b with
 |none=>rw[Mar.e5,c]
 |some v=>cases d
def Ci{c:Int}(d:Mar.f0 a=b)(e:b.isSome=true)(f:∀v,b=some v->c=v):Mar.e5 a at'=.ok ⟨3,a,c,at'⟩:=by
 cases b with
 |none=>cases e
 |some v=>rw[Mar.e5,d,f v rfl]
def LZ(c:ByteArray)(at':Nat)(h:World)(r:Gl h)(s:c.size<=281474976710656) :
  Calls prog 241 #[.string c,.int .i64 at'] h λf e=>qO h (Mar.e5 c.data.toList at') f e/\Below h.heap.size h e:=by
 have o:∀b,Gl (h.alloc b):=λb=>r.aA ((Below.refl _ _).alloc (Y4 _) _);have q:(⟨(Lib.trimPrefix c.data.toList [48,120]).toArray⟩:ByteArray).size<=281474976710656:=by
  have:=zg c.data.toList [48,120];show (Lib.trimPrefix c.data.toList [48,120]).toArray.size<=_;simp only[List.size_toArray];have:=Lib.size_eq c;omega
 cases p:Lib.hasPrefix c.data.toList [48,120]with
 |true=>
  have a:=LV p;have i:=Z a;clear a;go_in;go_wp2_with (first
   |(go_at_call 260;refine(Tryz.strings_CutPrefix _ _ _).mono ?_;rintro f e ⟨rfl,rfl⟩)
   |(go_at_call 264;refine(IQ _ _ (o _) q).mono ?_;rintro f e ⟨⟨n,rfl,a⟩,d⟩;obtain⟨l,m⟩:=ra d;have j:=d.size;simp at j;have k:=Z a;clear a)
   |(go_at_call 70;refine(gO _ _ _).mono ?_;rintro f e ⟨rfl,rfl⟩))
  .have g:=Ch (at':=at') i.j ‹_›;refine aq ⟨?_,?_⟩
   .rw[g];exact⟨_,by omega,rfl,aK rfl⟩
   .exact(((Below.refl _ _).alloc (Y4 _) _).trans (d.mono (by simp))).alloc (by omega) _
  .have g:=Ci (at':=at') i.j (by simpa using ‹Option.isNone _=false›) k.j;refine bodyPost_ret (v:=.agg #[.int .i64 3,.string c,.int .i64 n,.int .i64 at']) (by simp[results,results241,go_sem,l,m,j]) rfl ⟨?_,?_⟩
   .rw[g];exact mK (by simp only[cr,wm];rfl)
   .exact((((((Below.refl _ _).alloc (Y4 _) _).trans (d.mono (by simp))).setCell (Y4 _) _).setCell (Y4 _) _).setCell (Y4 _) _).setCell (Y4 _) _
 |false=>
  have a:=LU p;have i:=Z a;clear a;go_in;go_wp2_with (first
   |(go_at_call 260;refine(Tryz.strings_CutPrefix _ _ _).mono ?_;rintro f e ⟨rfl,rfl⟩)
   |(go_at_call 265;refine(GX _ _ (o _) s).mono ?_;rintro f e ⟨⟨n,rfl,a⟩,d⟩;obtain⟨l,m⟩:=ra d;have j:=d.size;simp at j;have k:=Z a;clear a)
   |(go_at_call 70;refine(gO _ _ _).mono ?_;rintro f e ⟨rfl,rfl⟩))
  .have g:=Ch (at':=at') i.j ‹_›;refine aq ⟨?_,?_⟩
   .rw[g];exact⟨_,by omega,rfl,aK rfl⟩
   .exact(((Below.refl _ _).alloc (Y4 _) _).trans (d.mono (by simp))).alloc (by omega) _
  .have g:=Ci (at':=at') i.j (by simpa using ‹Option.isNone _=false›) k.j;refine bodyPost_ret (v:=.agg #[.int .i64 3,.string c,.int .i64 n,.int .i64 at']) (by simp[results,results241,go_sem,l,m,j]) rfl ⟨?_,?_⟩
   .rw[g];exact mK (by simp only[cr,wm];rfl)
   .exact((((((Below.refl _ _).alloc (Y4 _) _).trans (d.mono (by simp))).setCell (Y4 _) _).setCell (Y4 _) _).setCell (Y4 _) _).setCell (Y4 _) _
end
def qO.cases{f:World}{b:Except Mar.a5 Mar.bi}{d:Ending}{g:World}(e:qO f b d g) :
  (∃c,b=.ok c/\d=.returned (cr c))\/(∃a,b=.error a/\fg f a.no a.w d g):=by
 cases b with
 |ok c=>exact Y8 ⟨c,rfl,e⟩
 |error a=>exact Ya ⟨a,rfl,e⟩
def Dd(a:UInt8):(0<=Lib.indexByte [123,125,40,41,91,93,60,62,42,44,59,58,61] a)↔Mar.gF a=true:=by
 have key:∀b:Fin 256,(0<=Lib.indexByte [123,125,40,41,91,93,60,62,42,44,59,58,61] (UInt8.ofNat b.val))↔Mar.gF (UInt8.ofNat b.val)=true:=by decide +kernel
 have:=key ⟨a.toNat,a.toNat_lt⟩;simpa using this
def CR(l:List UInt8):(Mar.ba l).length<=l.length:=by
 cases l with
 |nil=>simp[Mar.ba]
 |cons b a=>
  simp only[Mar.ba,YC];have:=(List.takeWhile_sublist (p:=Mar.cX) (l:=a)).length_le;omega
def AL{a:UInt8}(c:((a.toNat:Int)==45)=true):(a==45)=true:=by
 have:=beq_iff_eq.1 c;have b:a=45:=UInt8.toNat_inj.1 (by show a.toNat=45;omega);rw[b];rfl
def Cb{a:UInt8}(b:((a.toNat:Int)==45)=false):(a==45)=false:=by
 rw[Yi]at b ⊢;intro c;subst c;exact b rfl
def Mj(a:ByteArray)(b:0<a.size):a.extract 0 1=⟨[a[0]].toArray⟩:=by
 rw[xx];obtain⟨⟨c⟩⟩:=a;cases c with
 |nil=>exact absurd b (by decide)
 |cons d e=>rfl
def Ij(a:ByteArray)(b:Nat)(m:World)(C:Gl m)(F:a.size<=281474976710656) :
  Calls prog 183 #[.string a,.int .i64 b] m λf n=>qO m (Mar.ds a.data.toList b) f n/\Below m.heap.size m n:=by
 have D:∀z,Gl (m.alloc z):=λz=>C.aA ((Below.refl _ _).alloc (Y4 _) _);by_cases s:a.size=0
 .have:a=⟨#[]⟩:=by
   obtain⟨⟨w⟩⟩:=a;have:w=[]:=List.eq_nil_of_length_eq_zero s;subst this;rfl
  subst this;go_in;go_wp2;refine bodyPost_ret (v:=.agg #[.int .i64 0,.string ⟨#[]⟩,.int .i64 0,.int .i64 b]) (by simp[results,results183,go_sem]) rfl ⟨mK rfl,(Below.refl _ _).alloc (Y4 _) _⟩
 .have x:0<a.size:=by omega
  have J:a.toList.isEmpty=false:=by
   rw[<-decide_eq_emptyBytes];exact decide_eq_false (λr=>s (by rw[r];rfl))
  have B:Mar.ds a.data.toList b=(if Mar.d0 a[0]then Mar.d7 (Mar.ba a.data.toList) b
    else if Mar.dk a[0]||a[0]==45 then Mar.e5 (Mar.ba a.data.toList) b else if Mar.gF a[0]then .ok ⟨4,[a[0]],0,b⟩else .error ⟨2,b⟩):=by
   obtain⟨⟨w⟩⟩:=a;cases w with
   |nil=>exact absurd rfl s
   |cons I K=>rfl
  have y:(⟨(Mar.ba a.data.toList).toArray⟩:ByteArray).size<=281474976710656:=by
   have:=CR a.data.toList;show (Mar.ba a.data.toList).toArray.size<=_;simp only[List.size_toArray];have:=Lib.size_eq a;omega
  have i:=Z B;go_in;go_wp2_with (first
   |(go_at_call 237;refine(Bk _ _).mono ?_;rintro f n ⟨rfl,rfl⟩)
   |(go_at_call 240;refine(Bj _ _).mono ?_;rintro f n ⟨rfl,rfl⟩)
   |(go_at_call 239;refine(OF _ _ F x).mono ?_;rintro f G ⟨rfl,d⟩;have E:=Z ((D _).aA d))
   |(go_at_call 238;refine(LE _ _ _ y).mono ?_;rintro f H ⟨u,t⟩;have e:=d.trans (t.mono d.size);obtain⟨k,l⟩:=ra e;have h:=e.size;simp at h;rcases u.cases with⟨j,g,rfl⟩|⟨p,g,o,A,rfl,q⟩)
   |(go_at_call 241;refine(LZ _ _ _ E.j y).mono ?_;rintro f H ⟨u,t⟩;have e:=d.trans (t.mono d.size);obtain⟨k,l⟩:=ra e;have h:=e.size;simp at h;rcases u.cases with⟨j,g,rfl⟩|⟨p,g,o,A,rfl,q⟩)
   |(go_at_call 236;refine(Tryz.strings_IndexByte _ _ _).mono ?_;rintro f n ⟨rfl,rfl⟩)
   |(go_at_call 242;refine(wz _ _ (by simp;omega)).mono ?_;rintro f G ⟨rfl,d⟩;obtain⟨k,l⟩:=ra d;have h:=d.size;simp at h)
   |(go_at_call 70;refine(gO _ _ _).mono ?_;rintro f n ⟨rfl,rfl⟩))
  .have c:Mar.ds a.data.toList b=.ok j:=by rw[i.j];rw[Y9 (by assumption)];exact g
   refine bodyPost_ret (v:=cr j) (by simp[results,results183,go_sem,k,l,h]) rfl ⟨?_,?_⟩
   .rw[c];exact mK rfl
   .exact((((((Below.refl _ _).alloc (Y4 _) _).trans (e.mono (by simp))).setCell (Y4 _) _).setCell (Y4 _) _).setCell (Y4 _) _).setCell (Y4 _) _
  .have c:Mar.ds a.data.toList b=.error p:=by rw[i.j];rw[Y9 (by assumption)];exact g
   refine aq ⟨?_,((Below.refl _ _).alloc (Y4 _) _).trans (e.mono (by simp))⟩;rw[c];exact⟨o,by have:=d.size;simp at this;omega,rfl,q⟩
  .have c:Mar.ds a.data.toList b=.ok j:=by rw[i.j];rw[Y2 (by simp[*]),Y9 (by simp[*])];exact g
   refine bodyPost_ret (v:=cr j) (by simp[results,results183,go_sem,k,l,h]) rfl ⟨?_,?_⟩
   .rw[c];exact mK rfl
   .exact((((((Below.refl _ _).alloc (Y4 _) _).trans (e.mono (by simp))).setCell (Y4 _) _).setCell (Y4 _) _).setCell (Y4 _) _).setCell (Y4 _) _
  .have c:Mar.ds a.data.toList b=.error p:=by rw[i.j];rw[Y2 (by simp[*]),Y9 (by simp[*])];exact g
   refine aq ⟨?_,((Below.refl _ _).alloc (Y4 _) _).trans (e.mono (by simp))⟩;rw[c];exact⟨o,by have:=d.size;simp at this;omega,rfl,q⟩
  .have c:Mar.ds a.data.toList b=.ok j:=by rw[i.j];rw[Y2 (by simp[*]),Y9 (by simp[AL (by assumption)])];exact g
   refine bodyPost_ret (v:=cr j) (by simp[results,results183,go_sem,k,l,h]) rfl ⟨?_,?_⟩
   .rw[c];exact mK rfl
   .exact((((((Below.refl _ _).alloc (Y4 _) _).trans (e.mono (by simp))).setCell (Y4 _) _).setCell (Y4 _) _).setCell (Y4 _) _).setCell (Y4 _) _
  .have c:Mar.ds a.data.toList b=.error p:=by rw[i.j];rw[Y2 (by simp[*]),Y9 (by simp[AL (by assumption)])];exact g
   refine aq ⟨?_,((Below.refl _ _).alloc (Y4 _) _).trans (e.mono (by simp))⟩;rw[c];exact⟨o,by have:=d.size;simp at this;omega,rfl,q⟩
  .have c:Mar.ds a.data.toList b=.ok ⟨4,[a[0]],0,b⟩:=by rw[i.j];rw[Y2 (by simp[*]),Y2 (by simp[Cb (by assumption), *]),Y9 ((Dd _).1 (by assumption))]
   refine bodyPost_ret (v:=.agg #[.int .i64 4,.string (a.extract 0 1),.int .i64 0,.int .i64 b]) (by simp[results,results183,go_sem,k,l,h]) rfl ⟨?_,?_⟩
   .rw[c];exact mK (by simp only[cr,Mj a x];rfl)
   .exact((((((Below.refl _ _).alloc (Y4 _) _).trans (d.mono (by simp))).setCell (Y4 _) _).setCell (Y4 _) _).setCell (Y4 _) _).setCell (Y4 _) _
  .have c:Mar.ds a.data.toList b=.error ⟨2,b⟩:=by
    rw[i.j];rw[Y2 (by simp[*]),Y2 (by simp[Cb (by assumption), *]),Y2 (λr=>by have:=(Dd _).2 r;omega)]
   refine aq ⟨?_,((Below.refl _ _).alloc (Y4 _) _).alloc (by simp) _⟩;rw[c];exact⟨_,by omega,rfl,aK (by simp)⟩
section
variable {d:List Nat}{T:TypeId}{a b w g:World}{c:Nat}{h e f:Value}{p:Addr}
structure ai(d:List Nat)(w g:World):Prop where
 os:g.os=w.os
 d9:g.tape=w.tape
 d8:g.output=w.output
 a2:w.heap.size<=g.heap.size
 K:∀k,k<w.heap.size->k ∉ d->g.heap[k]? = w.heap[k]?
def ah(d:List Nat)(w:World):ai d w w:=⟨rfl,rfl,rfl,Y4 _,λ_ _ _=>rfl⟩
def bt(d:List Nat)(a:Below w.heap.size w g):ai d w g:=⟨a.os,a.tape,a.output,a.size,λc b _=>a.block c b⟩
def ai.u{f:World}(c:ai d a b)(e:ai d b f):ai d a f:=
 ⟨e.os.trans c.os,e.d9.trans c.d9,e.d8.trans c.d8,Yz c.a2 e.a2,λi g h=>(e.K i (Yr g c.a2) h).trans (c.K i g h)⟩
def ai.af{M':List Nat}(c:ai d a b)(h:∀j∈d,j∈M'):ai M' a b:=
 ⟨c.os,c.d9,c.d8,c.a2,λe g i=>c.K e g (λf=>i (h e f))⟩
def ai.o1(c:ai d a b)(e:Nat):ai d a (b.drewN e):=⟨c.os,c.d9,c.d8,c.a2,c.K⟩
def ai.a9(c:ai d a b):ai d a b.drew:=⟨c.os,c.d9,c.d8,c.a2,c.K⟩
def ai.G(c:ai d a b)(e:Obj):ai d a (b.alloc e):=
 c.u (bt d ((Below.refl _ _).alloc (Y4 _) _))
def ai.a6(e:ai d a b)(g:p.block∈d)(h:Value):ai d a (b.setCell p h):=
 e.u ⟨rfl,rfl,rfl,by simp[World.setCell],λi _ f=>Below.heap_setCell _ _ _ _ (λc=>f (c▸g))⟩
def ai.cy(c:ai d a b)(i:a.heap.size<=p.block)(h:Value):ai d a (b.setCell p h):=
 ⟨c.os,c.d9,c.d8,Yz c.a2 (by simp[World.setCell]),λg e f=>(Below.heap_setCell _ _ _ _ (by omega)).trans (c.K g e f)⟩
def gC(S:Nat)(d:ByteArray)(c:Nat)(b f e a h:Value)(w:World):Prop:=
 w.heap[S]? = some (.cells #[.string d,.int .i64 c,b,f,e,a,h] 222)
def gC.dp{S:Nat}{i:ByteArray}{g a:Value}(b:gC S i c g f e a h w) :
  w.cell? ⟨S,0,none⟩=some (.string i)/\w.cell? ⟨S,1,none⟩=some (.int .i64 c)/\w.cell? ⟨S,2,none⟩=some g/\w.cell? ⟨S,3,none⟩=some f/\
  w.cell? ⟨S,4,none⟩=some e/\w.cell? ⟨S,5,none⟩=some a/\w.cell? ⟨S,6,none⟩=some h/\S<w.heap.size/\∀k,w.frozen? ⟨S,k,none⟩=false:=by
 unfold gC at b;have j:S<w.heap.size:=by
  by_cases d:S<w.heap.size
  .exact d
  .simp[YO (Nat.le_of_not_lt d)]at b
 refine⟨?_,?_,?_,?_,?_,?_,?_,j,?_⟩<;>simp[World.cell?,World.frozen?,b]
def bv{b i:Nat}{cs:Array Value}{a:Nat×Nat}(c:w.heap[b]? = some (.cells cs T a))(v:Value) :
  (w.setCell ⟨b,i,none⟩ v).heap[b]? = some (.cells (cs.setIfInBounds i v) T a):=by
 simp[World.setCell,Array.getElem?_modify,c]
def yM{b:Nat}{l a k' t' n' a':Value}{c:Nat×Nat}(d:w.heap[b]? = some (.cells #[l,f,e,a] T c)) :
  ((((w.setCell ⟨b,0,none⟩ k').setCell ⟨b,1,none⟩ t').setCell ⟨b,2,none⟩ n').setCell ⟨b,3,none⟩ a').heap[b]? = some (.cells #[k',t',n',a'] T c):=by
 have g:=bv (i:=0) d k';have h:=bv (i:=1) g t';have j:=bv (i:=2) h n';have k:=bv (i:=3) j a';exact k
def iK{b:Nat}{c a:Value}(d:w.heap[b]? = some (.cells #[c,f,e,a] T)) :
  w.cell? ⟨b,0,none⟩=some c/\w.cell? ⟨b,1,none⟩=some f/\w.cell? ⟨b,2,none⟩=some e/\w.cell? ⟨b,3,none⟩=some a/\∀g,w.frozen? ⟨b,g,none⟩=false:=by
 refine⟨?_,?_,?_,?_,?_⟩<;>simp[World.cell?,World.frozen?,d]
def xB{b:List UInt8}{e:Mar.bi}(a:Mar.ds b c=.ok e):e.text.length<=b.length:=by
 cases b with
 |nil=>simp only[Mar.ds,Except.ok.injEq]at a;subst a;simp
 |cons g f=>
  have d:=CR (g::f);unfold Mar.ds at a;simp only at a;split at a
  .unfold Mar.d7 at a;split at a
   .cases a
   .split at a<;>(simp only[Except.ok.injEq]at a;subst a;exact d)
  .split at a
   .unfold Mar.e5 at a;split at a
    .simp only[Except.ok.injEq]at a;subst a;exact d
    .cases a
   .split at a
    .simp only[Except.ok.injEq]at a;subst a;simp
    .cases a
def lF(a:List UInt8)(c:Nat):Except Mar.a5 (Mar.bi×Nat):=
 match Mar.ds (a.drop (c+Mar.fx (a.drop c))) (c+Mar.fx (a.drop c))with
 |.ok b=>.ok (b,c+Mar.fx (a.drop c)+b.text.length)
 |.error d=>.error d
def Gl.O(k:Gl w)(p:ai d w g)(l:2 ∉ d)(m:3 ∉ d)(n:4 ∉ d):Gl g:=by
 have key:∀b v,b ∉ d->w.cell? ⟨b,0,none⟩=some v->g.cell? ⟨b,0,none⟩=some v:=by
  intro b v o c;have:=p.K b (lq c) o;unfold World.cell? at c ⊢;rw[this];exact c
 obtain⟨⟨q,h⟩,⟨a,b,i⟩,⟨e,f,j⟩⟩:=k;exact⟨⟨q,key _ _ l h⟩,⟨a,b,key _ _ m i⟩,⟨e,f,key _ _ n j⟩⟩
def gC.h2{S:Nat}{n:ByteArray}{m a:Value}(k:gC S n c m f e a h w)(l:Gl w) :
  2≠S/\3≠S/\4≠S:=by
 obtain⟨b,_⟩:=k.dp;obtain⟨⟨o,g⟩,⟨_,_,i⟩,⟨_,_,j⟩⟩:=l;refine⟨?_,?_,?_⟩
 .intro d;rw[d]at g;rw[g]at b;cases b
 .intro d;rw[d]at i;rw[i]at b;cases b
 .intro d;rw[d]at j;rw[j]at b;cases b
def OM{S:Nat}{l:ByteArray}{k a:Value}(d:gC S l c k f e a h w)(j:Gl w)(nq:Nat)(v:Value){p:Nat}(r:v=.int .i64 p) :
  ai [S] w (((w.alloc (.cells #[.int .i64 0,.string ⟨#[]⟩,.int .i64 0,.int .i64 0] 154)).drewN nq).setCell ⟨S,1,none⟩ v)/\
  gC S l p k f e a h (((w.alloc (.cells #[.int .i64 0,.string ⟨#[]⟩,.int .i64 0,.int .i64 0] 154)).drewN nq).setCell ⟨S,1,none⟩ v)/\
  Gl (((w.alloc (.cells #[.int .i64 0,.string ⟨#[]⟩,.int .i64 0,.int .i64 0] 154)).drewN nq).setCell ⟨S,1,none⟩ v)/\
  w.heap.size<(((w.alloc (.cells #[.int .i64 0,.string ⟨#[]⟩,.int .i64 0,.int .i64 0] 154)).drewN nq).setCell ⟨S,1,none⟩ v).heap.size/\
  (((w.alloc (.cells #[.int .i64 0,.string ⟨#[]⟩,.int .i64 0,.int .i64 0] 154)).drewN nq).setCell ⟨S,1,none⟩ v).heap[w.heap.size]? = some (.cells #[.int .i64 0,.string ⟨#[]⟩,.int .i64 0,.int .i64 0] 154):=by
 subst r;have q:S<w.heap.size:=d.dp.2.2.2.2.2.2.2.1;have g:=((Below.refl w.heap.size w).alloc (Y4 _) (.cells #[.int .i64 0,.string ⟨#[]⟩,.int .i64 0,.int .i64 0] 154));have b:=((bt [S] g).o1 nq).a6 (p:=⟨S,1,none⟩) (by simp) (.int .i64 p);refine⟨b,?_,?_,?_,?_⟩
 .exact bv (i:=1) ((g.block S q).trans d) _
 .obtain⟨m,n,o⟩:=d.h2 j;exact j.O b (by simp[m]) (by simp[n]) (by simp[o])
 .have:=b.a2;simp[World.setCell]
 .exact(Below.heap_setCell _ _ _ _ (by simp;omega)).trans (aK rfl)
def OL(S:Nat)(d:ByteArray)(c:Nat)(q f e a h:Value)(w:World)(a9:gC S d c q f e a h w)(a1:Gl w)(f5:c<=d.size)(h3:d.size<=4000000000) :
  Calls prog 117 #[.pointer (some ⟨S,0,none⟩)] w λs g=>ai [S] w g /\
   ((∃i p,lF d.data.toList c=.ok (i,p)/\p<=d.size/\s=.returned (cr i)/\gC S d p q f e a h g)\/
    (∃k,lF d.data.toList c=.error k/\fg w k.no k.w s g)):=by
 obtain⟨c0,c1,c2,c3,c4,c5,c6,g9,d9⟩:=a9.dp;obtain⟨f0,a5⟩:=a1.bc;have a6:=λI=>ri (((Below.refl w.heap.size w).alloc (Y4 _) I).drew) rfl a5;have N:=Z a6;clear a5 a6;have m:(d.extract c d.size).size<4294967281:=by simp;omega
 go_in;have a7:c+Mar.fx (d.data.toList.drop c)<=d.size:=by
  have:=Mar.n2 ((d.data.toList.drop c).length+1) (d.data.toList.drop c);simp only[YI]at this;have:=Lib.size_eq d;unfold Mar.fx;simp only[YI];omega
 have a0:(d.extract c d.size).data.toList=d.data.toList.drop c:=xw d c;have u:=λl e6=>PH (d.extract c d.size) f0 l m e6;rw[a0]at u;obtain⟨o,B⟩:∃o,U (Mar.fx (d.data.toList.drop c)=o):=⟨_,rfl⟩;rw[B.j]at u a7;have O:=Z u;clear u a0;have b9:U (IntKind.i64.wrap ((c:Int)+(o:Int))=((c+o:Nat):Int)):=by
  show IntKind.i64.wrap ((c:Int)+(o:Int))=_;have:=IntKind.wrap_i64 ((c:Int)+(o:Int));rw[this];omega
 go_upto_region 1 with fail;go_cut [] (λwc=>ai [S] w wc/\gC S d (c+o) q f e a h wc/\Gl wc/\w.heap.size<wc.heap.size/\wc.heap[w.heap.size]? = some (.cells #[.int .i64 0,.string ⟨#[]⟩,.int .i64 0,.int .i64 0] 154));case first=>
  go_region_with (first|(go_at_call 182;refine(O.j _ ?_).mono ?_;exact N.j _;rintro s g ⟨rfl,nq,rfl⟩));all_goals (go_wp2_with fail)
  all_goals go_meet
  all_goals exact OM a9 a1 _ _ (by rw[b9.j])
 case rest=>
  rename World=>j;obtain⟨p,A⟩:∃p,U (c+o=p):=⟨_,rfl⟩;rw[A.j]at hcut a7;obtain⟨a3,b0,a2,E,a8⟩:=hcut;obtain⟨c7,c8,c9,d0,d1,d2,d3,e5,g3⟩:=b0.dp;obtain⟨b1,b2,b3,b4,e0⟩:=iK a8;have h1:¬j.heap.size=S:=by omega
  have h2:¬S=j.heap.size:=by omega
  have g6:(0:Int)<=p:=by omega
  have g7:(p:Int)<=d.size:=by omega
  have e9:(d.extract p d.size).size<=281474976710656:=by simp;omega
  have D:=λl e2=>Ij (d.extract p d.size) p l e2 e9;rw[xw]at D;have L:=Z (a2.aA ((Below.refl j.heap.size j).drew));have M:=Z (λI=>a2.aA (((Below.refl j.heap.size j).alloc (Y4 _) I).drew));have z:=Z a3;clear c0 c1 c2 c3 c4 c5 c6 d9 a3;have hZ:∀(k:Mar.a5) (b:Nat) (l:World),Mar.ds (d.data.toList.drop p) p=.error k->j.heap.size<=b->Below j.heap.size j l->l.heap[b]? = some (.cells #[.int .i64 k.no,.int .i64 k.w] 179)->
    ai [S] w l/\((∃i p,lF d.data.toList c=.ok (i,p)/\p<=d.size/\Ending.panicked [{ v:=.iface 143 (.pointer (some ⟨b,0,none⟩)),recovered:=false }]=.returned (cr i)/\gC S d p q f e a h l)\/
     (∃k,lF d.data.toList c=.error k/\fg w k.no k.w (.panicked [{ v:=.iface 143 (.pointer (some ⟨b,0,none⟩)),recovered:=false }]) l)):=by
   intro k b l e1 d5 r d6;refine⟨z.j.u (bt _ r),Ya ⟨k,?_,b,Yz (Nat.le_of_lt E) d5,rfl,d6⟩⟩;unfold lF;rw[B.j,A.j,e1]
  have J:=Z hZ;have K:=Z D;clear D hZ;go_wp2_with fail;go_cut [3] (λf1 b5=>∃b i,f1=.pointer (some ⟨b,0,none⟩)/\j.heap.size<=b/\Mar.ds (d.data.toList.drop p) p=.ok i/\
   Below j.heap.size j b5/\b5.heap[b]? = some (.cells #[.int .i64 i.H,.string ⟨i.text.toArray⟩,.int .i64 i.n,.int .i64 i.w] 154))
  case first=>
   go_region_held2 (λg=>g.cell? ⟨S,0,none⟩=some (.string d)/\g.cell? ⟨S,1,none⟩=some (.int .i64 p)) (go_keep)
    (first|(go_at_call 183;refine(K.j _ ?_).mono ?_;(first|exact L.j|exact M.j _);rintro s l ⟨e3,n⟩;rcases e3.cases with⟨i,m,rfl⟩|⟨k,m,b,R,rfl,d7⟩;rotate_left;exact aq (J.j k b l m (by first|exact R|(have:=R;simp at this;omega)) (by first|exact((Below.refl j.heap.size j).drew).trans n|exact(((Below.refl j.heap.size j).alloc (Y4 _) _).drew).trans (n.mono (by simp))) d7);have P:=Z m;clear m;obtain⟨g1,g5⟩:=ra n;have H:=n.size;simp at H;have h5:=(n.cell (p:=⟨S,0,none⟩) (by simp;omega));have h6:=(n.cell (p:=⟨S,1,none⟩) (by simp;omega))))
   all_goals (go_wp2_with fail)
   all_goals go_meet
   .exact⟨l.heap.size,i,rfl,H,P.j,(((Below.refl j.heap.size j).drew).trans n).alloc H _,aK rfl⟩
   .refine⟨j.heap.size,i,rfl,Y4 _,P.j,?_,?_⟩
    .exact((((((((Below.refl j.heap.size j).alloc (Y4 _) _).drew).trans (n.mono (by simp))).setCell (Y4 _) _).setCell (Y4 _) _).setCell (Y4 _) _).setCell (Y4 _) _)
    .exact yM ((n.block j.heap.size (by simp)).trans (aK rfl))
  case rest=>
   rename World=>f2;obtain⟨b,i,rfl,f6,m,r,C⟩:=hcut;obtain⟨h7,h8,h9,i0,g4⟩:=iK C;have a4:=z.j.u (bt [S] r);have G:gC S d p q f e a h f2:=(r.block S e5).trans b0;have F:=(r.block w.heap.size E).trans a8;obtain⟨c7,c8,c9,d0,d1,d2,d3,h0,g2⟩:=G.dp;obtain⟨b1,b2,b3,b4,e0⟩:=iK F;have e4:p+i.text.length<=d.size:=by
    have:=xB m;simp only[YI]at this;have:=Lib.size_eq d;omega
   have g8:(p:Int)+i.text.length<=d.size:=by omega
   have b8:=Z m;have f3:=Z C;have f4:=Z F;have b6:=Z G;have b7:=Z a4;have f7:¬b=S:=by omega
   have f8:¬S=b:=by omega
   have h4:¬w.heap.size=S:=by omega
   have e8:¬S=w.heap.size:=by omega
   have f9:¬b=w.heap.size:=by omega
   have g0:¬w.heap.size=b:=by omega
   clear m C F G a4 r K J L M z N O;go_wp2;go_region;go_wp2;have d8:lF d.data.toList c=.ok (i,p+i.text.length):=by
    unfold lF;rw[B.j,A.j,b8.j]
   refine bodyPost_ret (v:=cr i) (by simp[results,results117,go_sem,b1,b2,b3,b4,E]) rfl ⟨?_,Y8 ⟨i,_,d8,e4,rfl,?_⟩⟩
   .exact(((((b7.j.a6 (by simp) _).cy (Y4 _) _).cy (Y4 _) _).cy (Y4 _) _).cy (Y4 _) _).a9
   .have d4:=bv (i:=1) b6.j (.int .i64 ((p+i.text.length:Nat):Int));have t:∀(y:World) (x:Nat) (v:Value),y.heap[S]? = some (.cells #[.string d,.int .i64 ((p+i.text.length:Nat):Int),q,f,e,a,h] 222)->
      (y.setCell ⟨w.heap.size,x,none⟩ v).heap[S]? = some (.cells #[.string d,.int .i64 ((p+i.text.length:Nat):Int),q,f,e,a,h] 222):=
     λy x v e7=>(Below.heap_setCell y ⟨w.heap.size,x,none⟩ v S e8).trans e7
    rw[<-Int.natCast_add];exact t _ 3 _ (t _ 2 _ (t _ 1 _ (t _ 0 _ d4)))
end
def Sc(S:Nat)(c:ByteArray)(b:Nat)(h:Option Mar.bi)(d:World):Prop:=
 b<=c.size/\match h with
 |some a=>gC S c b (.int .i64 a.H) (.string ⟨a.text.toArray⟩) (.int .i64 a.n) (.int .i64 a.w) (.bool true) d
 |none=>∃f i g e,gC S c b f i g e (.bool false) d
def Sc.aA{S:Nat}{e:ByteArray}{c:Nat}{b:Option Mar.bi}{w f:World}(a:Sc S e c b w)(d:Below w.heap.size w f):Sc S e c b f:=by
 obtain⟨h,a⟩:=a;refine⟨h,?_⟩;cases b with
 |some l=>exact(d.block S (gC.dp (w:=w) a).2.2.2.2.2.2.2.1).trans a
 |none=>
  obtain⟨i,k,j,g,a⟩:=a;exact⟨i,k,j,g,(d.block S a.dp.2.2.2.2.2.2.2.1).trans a⟩
def eb(b:List UInt8)(a:Nat):Option Mar.bi->Except Mar.a5 (Mar.bi×Nat)
 |some c=>.ok (c,a)
 |none=>lF b a
def Jq{S:Nat}{a b:World}{d:Obj}(c:ai [S] (a.alloc d) b)(i j k l m e f g h:Value) :
  ai [S] a (((((((((b.setCell ⟨S,2,none⟩ i).setCell ⟨S,3,none⟩ j).setCell ⟨S,4,none⟩ k).setCell ⟨S,5,none⟩ l).setCell ⟨S,6,none⟩ m).setCell ⟨a.heap.size,0,none⟩ e).setCell ⟨a.heap.size,1,none⟩ f).setCell ⟨a.heap.size,2,none⟩ g).setCell ⟨a.heap.size,3,none⟩ h):=
 ((((((((((((ah _ _).G _).u c).a6 (by simp) _).a6 (by simp) _).a6 (by simp) _).a6 (by simp) _).a6 (by simp) _).cy (Y4 _) _).cy (Y4 _) _).cy (Y4 _) _).cy (Y4 _) _)
def OK{S b:Nat}{l:ByteArray}{k:Nat}{y E z n u:Value}{m:World}(w:¬S=b)(o:gC S l k y E z n u m){f g h i j:Value}(A B C D:Value) :
  gC S l k f g h i j (((((((((m.setCell ⟨S,2,none⟩ f).setCell ⟨S,3,none⟩ g).setCell ⟨S,4,none⟩ h).setCell ⟨S,5,none⟩ i).setCell ⟨S,6,none⟩ j).setCell ⟨b,0,none⟩ A).setCell ⟨b,1,none⟩ B).setCell ⟨b,2,none⟩ C).setCell ⟨b,3,none⟩ D):=by
 have p:=bv (i:=2) o f;have q:=bv (i:=3) p g;have r:=bv (i:=4) q h;have s:=bv (i:=5) r i;have t:=bv (i:=6) s j;have c:∀(d:World) (a:Nat) (v:Value) (e:Option Obj),d.heap[S]? = e->(d.setCell ⟨b,a,none⟩ v).heap[S]? = e:=
  λd a v e x=>(Below.heap_setCell d ⟨b,a,none⟩ v S w).trans x
 exact c _ 3 _ _ (c _ 2 _ _ (c _ 1 _ _ (c _ 0 _ _ t)))
def zG(S:Nat)(d:ByteArray)(e:Nat)(j:Option Mar.bi)(a:World)(c:Sc S d e j a)(N:Gl a)(R:d.size<=4000000000) :
  Calls prog 72 #[.pointer (some ⟨S,0,none⟩)] a λl p=>ai [S] a p /\
   ((∃b k,eb d.data.toList e j=.ok (b,k)/\l=.returned (cr b)/\Sc S d k (some b) p)\/
    (∃f,eb d.data.toList e j=.error f/\fg a f.no f.w l p)):=by
 obtain⟨q,c⟩:=c;cases j with
 |some b=>
  have s:gC S d e (.int .i64 b.H) (.string ⟨b.text.toArray⟩) (.int .i64 b.n) (.int .i64 b.w) (.bool true) a:=c;obtain⟨D,E,F,G,H,I,J,m,M⟩:=s.dp;have z:=Z s;go_in;go_wp2;refine bodyPost_ret (v:=cr b) (by simp[results,results72,go_sem]) rfl ⟨?_,Y8 ⟨b,e,rfl,rfl,q,?_⟩⟩
  .exact(ah _ _).G _
  .exact(Below.heap_alloc a _ S m).trans z.j
 |none=>
  obtain⟨a0,a6,a1,B,c⟩:=c;obtain⟨D,E,F,G,H,I,J,m,M⟩:=c.dp;have t:=λg=>(Below.refl a.heap.size a).alloc (Y4 _) g;have u:=λg=>OL S d e a0 a6 a1 B (.bool false) (a.alloc g) ((Below.heap_alloc a g S m).trans c) (N.aA (t g)) q R;have w:=Z u;go_in;go_wp2_with (go_at_call 117;refine(w.j _).mono ?_;rintro l b8 ⟨h,⟨b,k,i,P,rfl,o⟩|⟨f,i,C,K,rfl,L⟩⟩;obtain⟨a8,a9,b0,b1,b2,b3,b4,b7,b5⟩:=o.dp;have n:=(h.K a.heap.size (by simp) (by simp;omega)).trans (aK rfl);obtain⟨a2,a3,a4,a5,b6⟩:=iK n;have a7:=Z n;have x:=Z o;have y:=Z h;have A:=Z i;clear n o h i)
  .have r:¬S=a.heap.size:=by omega
   have O:¬a.heap.size=S:=by omega
   refine bodyPost_ret (v:=cr b) (by simp[results,results72,go_sem,r,O,a2,a3,a4,a5]) rfl ⟨?_,Y8 ⟨b,k,A.j,rfl,P,?_⟩⟩
   .exact Jq y.j _ _ _ _ _ _ _ _ _
   .exact OK r x.j _ _ _ _
  .refine aq ⟨((ah _ _).G _).u h,Ya ⟨f,i,C,?_,rfl,L⟩⟩;simp at K;omega
def EY(S:Nat)(c:ByteArray)(h:Nat)(f:Option Mar.bi)(w:World)(t:Sc S c h f w)(G:Gl w)(L:c.size<=4000000000) :
  Calls prog 118 #[.pointer (some ⟨S,0,none⟩)] w λo r=>ai [S] w r /\
   ((∃a g,eb c.data.toList h f=.ok (a,g)/\o=.returned (cr a)/\Sc S c g none r)\/
    (∃d,eb c.data.toList h f=.error d/\fg w d.no d.w o r)):=by
 have b1:S<w.heap.size:=by
  obtain⟨_,j⟩:=t;cases f with
  |some a=>exact(gC.dp (w:=w) j).2.2.2.2.2.2.2.1
  |none=>obtain⟨b5,b7,b6,a1,j⟩:=j;exact j.dp.2.2.2.2.2.2.2.1
 have J:¬S=w.heap.size:=by omega
 have b4:¬w.heap.size=S:=by omega
 have x:=λb=>zG S c h f (w.alloc b) (Sc.aA t ((Below.refl w.heap.size w).alloc (Y4 _) b)) (G.aA ((Below.refl w.heap.size w).alloc (Y4 _) b)) L;have y:=Z x;go_in;go_wp2_with (go_at_call 72;refine(y.j _).mono ?_;rintro o n ⟨e,⟨a,g,k,rfl,K,s⟩|⟨d,k,C,E,rfl,F⟩⟩;have q:gC S c g (.int .i64 a.H) (.string ⟨a.text.toArray⟩) (.int .i64 a.n) (.int .i64 a.w) (.bool true) n:=s;obtain⟨a2,a3,a4,a5,a6,a7,a8,I,a9⟩:=q.dp;have p:=(e.K w.heap.size (by simp) (by simp;omega)).trans (aK rfl);obtain⟨N,O,P,R,b0⟩:=iK p;have u:=e.a2;simp at u;have H:w.heap.size<n.heap.size:=u;have b2:¬w.heap.size=n.heap.size:=(by omega);have b3:¬S=n.heap.size:=(by omega);have a0:=Z p;have z:=Z q;have A:=Z e;have B:=Z k;clear p s q e k)
 .refine bodyPost_ret (v:=cr a) (by simp[results,results118,go_sem,H,N,O,P,R]) rfl ⟨?_,Y8 ⟨a,g,B.j,rfl,K,?_⟩⟩
  .exact((((((((ah _ _).G _).u A.j).a6 (by simp) _).cy (Y4 _) _).cy (Y4 _) _).cy (Y4 _) _).cy (Y4 _) _).G _
  .refine⟨.int .i64 a.H,.string ⟨a.text.toArray⟩,.int .i64 a.n,.int .i64 a.w,(Below.heap_alloc _ _ S (by simp[World.setCell];exact I)).trans ?_⟩;have D:=bv (i:=6) z.j (.bool false);have i:∀(m:World) (l:Nat) (v:Value) (b:Option Obj),m.heap[S]? = b->(m.setCell ⟨w.heap.size,l,none⟩ v).heap[S]? = b:=
    λm l v b M=>(Below.heap_setCell m ⟨w.heap.size,l,none⟩ v S J).trans M
   exact i _ 3 _ _ (i _ 2 _ _ (i _ 1 _ _ (i _ 0 _ _ D)))
 .refine aq ⟨((ah _ _).G _).u e,Ya ⟨d,k,C,?_,rfl,F⟩⟩;simp at E;omega
section
variable {e X f:List Nat}{a b:Nat}{bs:List (Nat×Obj)}{w c:World}
inductive Ty where
 |plain (k:Nat)
 |named (t:List UInt8) (at':Nat)
 |opaq (n:Int) (fixed:Bool)
 |str (n:Int) (fixed:Bool)
 |arr (of:Ty) (n:Int) (fixed:Bool)
 |opt (of:Ty)
 |void
def bX:Ty->Value
 |.plain e=>.iface 372 (.agg #[.int .i64 e])
 |.named f d=>.iface 260 (.agg #[.string ⟨f.toArray⟩,.int .i64 d])
 |.opaq b a=>.iface 377 (.agg #[.int .i64 b,.bool a])
 |.str b a=>.iface 380 (.agg #[.int .i64 b,.bool a])
 |.arr c b a=>.iface 382 (.agg #[bX c,.int .i64 b,.bool a])
 |.opt c=>.iface 385 (.agg #[bX c])
 |.void=>.iface 444 (.agg #[])
structure aG where
 t:List UInt8
 w:Nat
 L:Ty
structure eu where
 t:List UInt8
 w:Nat
 dr:Ty
 c4:Ty
 num:Int
structure eJ where
 t:List UInt8
 w:Nat
 ak:List eu
 num:Int
inductive ao where
 |const (t:List UInt8) (at':Nat) (v:Int)
 |typedef (d:aG)
 |enum (t:List UInt8) (at':Nat) (ms:List (List UInt8×Nat×Int))
 |struct (t:List UInt8) (at':Nat) (ms:List aG)
 |union (t:List UInt8) (at':Nat) (sel:aG) (arms:List (List Int×aG))
 |prog (t:List UInt8) (at':Nat) (vs:List eJ) (num:Int)
def bn(X:List Nat)(bs:List (Nat×Obj))(w:World):Prop:=∀a∈bs,w.heap[a.1]? = some a.2/\a.1 ∉ X
abbrev lw(b:List UInt8)(a:Nat):List Value:=[.string ⟨b.toArray⟩,.int .i64 a]
abbrev ho(a:aG):List Value:=[.string ⟨a.t.toArray⟩,.int .i64 a.w,bX a.L]
def fy(bs:List (Nat×Obj))(f:TypeId)(v:Value)(a:Nat)(b:List Value):Prop:=
 (v=.slice none 0 0/\a=0/\b=[])\/∃e c d,v=.slice (some ⟨e,0,none⟩) a c/\(a<=c/\a<=1000)/\(e,Obj.cells d f)∈bs/\d.toList.take b.length=b
def qG(bs:List (Nat×Obj))(b:Nat)(a:List UInt8×Nat×Int):Prop:=(b,Obj.cells #[.string ⟨a.1.toArray⟩,.int .i64 a.2.1,.int .i64 a.2.2] 343)∈bs
def dx(bs:List (Nat×Obj))(b:Nat):ao->Prop
 |.const f d v=>qG bs b (f,d,v)
 |.typedef o=>(b,Obj.cells (ho o).toArray 244)∈bs
 |.enum f d g=>∃(c:Value) (l:List Nat),(b,Obj.cells (lw f d++[c]).toArray 253)∈bs/\l.length=g.length/\
   fy bs 223 c g.length (l.map λi=>Value.pointer (some ⟨i,0,none⟩))/\∀a (m:a<g.length) (n:a<l.length),qG bs l[a] g[a]
 |.struct f d g=>∃(c:Value),(b,Obj.cells (lw f d++[c]).toArray 353)∈bs/\fy bs 242 c g.length (g.flatMap ho)
 |.union f d r j=>∃(c:Value) (e:List Value),(b,Obj.cells (lw f d++ho r++[c]).toArray 358)∈bs/\e.length=j.length/\
   fy bs 363 c j.length ((j.zip e).flatMap λh=>h.2::ho h.1.2)/\
   ∀a (m:a<j.length) (n:a<e.length),fy bs 2 e[a] j[a].1.length (j[a].1.map λp=>Value.int .i64 p)
 |.prog f d k q=>∃(c:Value) (e:List Value),(b,Obj.cells (lw f d++[c,.int .i64 q]).toArray 267)∈bs/\e.length=k.length/\
   fy bs 367 c k.length ((k.zip e).flatMap λh=>lw h.1.t h.1.w++[h.2,.int .i64 h.1.num])/\
   ∀a (m:a<k.length) (n:a<e.length),fy bs 446 e[a] k[a].ak.length (k[a].ak.flatMap λi=>lw i.t i.w++[bX i.dr,bX i.c4,.int .i64 i.num])
def cE:ao->TypeId
 |.const ..=>223
 |.typedef ..=>225
 |.enum ..=>227
 |.struct ..=>229
 |.union ..=>231
 |.prog ..=>233
def jk(bs:List (Nat×Obj))(v:Value):Option ao->Prop
 |none=>v=.nilIface
 |some a=>∃b,v=.iface (cE a) (.pointer (some ⟨b,0,none⟩))/\dx bs b a
def pZ(a:List (List UInt8×Value)):Obj:=.map (a.mapIdx λc b=>⟨.string ⟨b.1.toArray⟩,b.2,c⟩).toArray a.length
def vD(a:List (Int×Int)):Obj:=.map (a.mapIdx λc b=>⟨.int .i64 b.1,.int .i64 b.2,c⟩).toArray a.length
def fN(X:List Nat)(a:Nat)(b:List (List UInt8×Option ao))(w:World):Prop:=
 (b.map (·.1)).Nodup/\∃(bs:List (Nat×Obj)) (d:List Value),bn X bs w/\d.length=b.length/\w.heap[a]? = some (pZ (b.zip d |>.map λe=>(e.1.1,e.2)))/\∀c (f:c<b.length) (g:c<d.length),jk bs d[c] b[c].2
def aj{d:Obj}(c:w.heap[b]? = some d):b<w.heap.size:=by
 by_cases a:b<w.heap.size
 .exact a
 .simp[YO (Nat.le_of_not_lt a)]at c
def bn.O(d:bn X bs w)(g:ai e w c)(f:∀j∈e,j∈X):bn X bs c:=by
 intro k i;obtain⟨a,b⟩:=d k i;exact⟨(g.K _ (aj a) (λh=>b (f _ h))).trans a,b⟩
def bn.a8(c:bn X bs w)(g:w.heap.size<=b):bn (b::X) bs w:=by
 intro f e;obtain⟨a,d⟩:=c f e;refine⟨a,?_⟩;have:=aj a;simp only[Yg,not_or];exact⟨by omega,d⟩
def bn.cc(a:bn X bs w)(d:∀g∈f,g∈X):bn f bs w:=
 λc b=>⟨(a c b).1,λe=>(a c b).2 (d _ e)⟩
def fN.O{f:List (List UInt8×Option ao)}(g:fN X a f w)(d:ai e w c)(k:∀m∈e,m∈X)(l:a ∉ e):fN X a f c:=by
 obtain⟨n,bs,o,h,i,b,j⟩:=g;exact⟨n,bs,o,h.O d k,i,(d.K _ (aj b) l).trans b,j⟩
def fN.aA{b:List (List UInt8×Option ao)}(d:fN X a b w)(e:Below w.heap.size w c):fN X a b c:=
 d.O (bt [] e) (by simp) (by simp)
def fN.a8{c:List (List UInt8×Option ao)}(d:fN X a c w)(g:w.heap.size<=b):fN (b::X) a c w:=by
 obtain⟨h,bs,i,e,f⟩:=d;exact⟨h,bs,i,e.a8 g,f⟩
def fN.cc{b:List (List UInt8×Option ao)}(c:fN X a b w)(g:∀j∈f,j∈X):fN f a b w:=by
 obtain⟨h,bs,i,d,e⟩:=c;exact⟨h,bs,i,d.cc g,e⟩
def fN.ff{l:List (List UInt8×Option ao)}(d:fN X a l w):∃c b,w.heap[a]? = some (.map c b):=by
 obtain⟨_,bs,f,_,_,e,_⟩:=d;exact⟨_,_,e⟩
end
section
variable {e:List Nat}{b:Nat}{f:Mar.a5}{nx:Option Mar.bi}{c d w1:World}{α g:Type}
structure Ad where
 R:Nat
 S:Nat
 N:Nat
 P:Nat
 X:List Nat
def Ad.a8(a:Ad)(b:Nat):Ad:={ a with X:=b::a.X }
structure St where
 w:Nat
 nx:Option Mar.bi
 ae:Nat
 a1:Nat
 F:List (List UInt8×Option ao)
 aa:List (Int×Int)
structure Rd(A:Ad)(text:ByteArray)(σ:St)(c:World):Prop where
 me:c.heap[A.R]? = some (.cells #[.pointer (some ⟨A.S,0,none⟩),.map (some A.N),.int .i64 σ.ae,.int .i64 σ.a1,.map (some A.P)] 151)
 sc:Sc A.S text σ.w σ.nx c
 nm:fN A.X A.N σ.F c
 aI:A.R∈A.X/\A.S∈A.X/\A.N∈A.X/\A.P∈A.X
 bh:∀x∈A.X,x<c.heap.size
 pr:c.heap[A.P]? = some (vD σ.aa)
 np:A.N≠A.P
 gl:Gl c
 e6:text.size<=4000000000
 b0:σ.ae<=1000000/\σ.a1<=1000000
def Sc.at{S:Nat}{h:ByteArray}{g:Nat}(a:Sc S h g nx c):∃d f e b i,gC S h g d f e b i c:=by
 obtain⟨_,a⟩:=a;cases nx with
 |some j=>exact⟨_,_,_,_,_,a⟩
 |none=>obtain⟨d,f,e,b,a⟩:=a;exact⟨d,f,e,b,_,a⟩
def Rd.cq{a:Ad}{j:ByteArray}{k:St}(e:Rd a j k c):a.R≠a.S/\a.R≠a.N/\a.R≠a.P/\a.S≠a.N/\a.S≠a.P/\a.N≠a.P:=by
 obtain⟨p,r,q,l,o,i⟩:=e.sc.at;have f:c.heap[a.S]? = _:=i;have d:=e.me;obtain⟨n,m,h⟩:=e.nm.ff;have g:=e.pr;unfold vD at g;refine⟨?_,?_,?_,?_,?_,e.np⟩
 .intro b;rw[b,f]at d;simp at d
 .intro b;rw[b,h]at d;cases d
 .intro b;rw[b,g]at d;cases d
 .intro b;rw[b,h]at f;cases f
 .intro b;rw[b,g]at f;cases f
def Rd.lt{a:Ad}{f:ByteArray}{g:St}(b:Rd a f g c):a.R<c.heap.size/\a.S<c.heap.size/\a.N<c.heap.size/\a.P<c.heap.size:=by
 obtain⟨l,n,m,h,k,e⟩:=b.sc.at;obtain⟨j,i,d⟩:=b.nm.ff;exact⟨aj b.me,aj e,aj d,aj b.pr⟩
def Rd.am{A:Ad}{f:ByteArray}{a:St}(b:Rd A f a c) :
  c.cell? ⟨A.R,0,none⟩=some (.pointer (some ⟨A.S,0,none⟩))/\c.cell? ⟨A.R,1,none⟩=some (.map (some A.N))/\c.cell? ⟨A.R,2,none⟩=some (.int .i64 a.ae)/\
  c.cell? ⟨A.R,3,none⟩=some (.int .i64 a.a1)/\c.cell? ⟨A.R,4,none⟩=some (.map (some A.P))/\∀e,c.frozen? ⟨A.R,e,none⟩=false:=by
 have d:=b.me;refine⟨?_,?_,?_,?_,?_,?_⟩<;>simp[World.cell?,World.frozen?,d]
def Rd.aA{e:Ad}{f:ByteArray}{g:St}(a:Rd e f g c)(b:Below c.heap.size c d):Rd e f g d:=by
 obtain⟨i,l,m,j⟩:=a.lt;exact⟨(b.block _ i).trans a.me,a.sc.aA b,a.nm.aA b,a.aI,λk h=>Yr (a.bh k h) b.size,(b.block _ j).trans a.pr,a.np,a.gl.aA b,a.e6,a.b0⟩
def Rd.nT{e:Ad}{g:ByteArray}{i:St}(a:Rd e g i c)(b:ai [e.S] c d){h:Nat}(m:Sc e.S g h nx d) :
  Rd e g { i with w:=h,nx:=nx } d:=by
 obtain⟨p,y,z,q⟩:=a.lt;obtain⟨r,B,C,s,t,D⟩:=a.cq;obtain⟨x,E,A,v,w,n⟩:=a.sc.at;obtain⟨j,k,l⟩:=n.h2 a.gl;exact⟨(b.K _ p (by simp[r])).trans a.me,m,a.nm.O b (by simp;exact a.aI.2.1) (by simp;exact λf=>s f.symm),a.aI,λu o=>Yr (a.bh u o) b.a2,(b.K _ q (by simp;exact λf=>t f.symm)).trans a.pr,a.np,
  a.gl.O b (by simp[j]) (by simp[k]) (by simp[l]),a.e6,a.b0⟩
def Rd.O{b:Ad}{k:ByteArray}{h:St}(a:Rd b k h c)(f:ai e c d)(u:∀B∈e,B∈b.X)(q:b.R ∉ e)(r:b.S ∉ e)(s:b.N ∉ e)(t:b.P ∉ e)
  (n:2 ∉ e) (o:3 ∉ e) (p:4 ∉ e):Rd b k h d:=by
 obtain⟨y,z,E,A⟩:=a.lt;refine⟨(f.K _ y q).trans a.me,?_,a.nm.O f u s,a.aI,λl w=>Yr (a.bh l w) f.a2,(f.K _ A t).trans a.pr,a.np,a.gl.O f n o p,a.e6,a.b0⟩;obtain⟨v,g⟩:=a.sc;refine⟨v,?_⟩;have i:=f.K _ z r;cases j:h.nx with
 |some l=>rw[j]at g;exact i.trans g
 |none=>rw[j]at g;obtain⟨x,D,C,m,g⟩:=g;exact⟨x,D,C,m,i.trans g⟩
def qT{a A':Ad}{b:ByteArray}{l h:St}(d:Rd a b l c)(j:A'.R=a.R/\A'.S=a.S/\A'.N=a.N/\A'.P=a.P)(i:Rd A' b h w1){p:Addr}(r:c.heap.size<=p.block)(k:p.block∈A'.X)(v:Value):Rd A' b h (w1.setCell p v):=by
 obtain⟨s,t,u,w⟩:=d.lt;obtain⟨⟨x,e⟩,⟨_,_,f⟩,⟨_,_,g⟩⟩:=d.gl;have e:=lq e;have f:=lq f;have g:=lq g;obtain⟨m,n,o,q⟩:=j;refine i.O ((ah [p.block] w1).a6 (by simp) v) (by simpa using k) ?_ ?_ ?_ ?_ ?_ ?_ ?_<;>simp<;>omega
def Rd.ax{f:Ad}{g:ByteArray}{h:St}(b:Rd f g h c)(e:Obj):Rd (f.a8 c.heap.size) g h (c.alloc e):=by
 have a:=b.aA ((Below.refl c.heap.size c).alloc (Y4 _) e);refine⟨a.me,a.sc,(b.nm.a8 (Y4 _)).aA ((Below.refl c.heap.size c).alloc (Y4 _) e),?_,?_,a.pr,a.np,a.gl,a.e6,a.b0⟩
 .obtain⟨i,j,k,l⟩:=b.aI;exact⟨Y5 _ i,Y5 _ j,Y5 _ k,Y5 _ l⟩
 .intro m d;simp only[Ad.a8,Yg]at d;rcases d with rfl|d
  .simp
  .have:=b.bh m d;simp;omega
def pp{a:Ad}{f:ByteArray}{h:St}(i:a.R∈a.X/\a.S∈a.X/\a.N∈a.X/\a.P∈a.X)(d:Rd (a.a8 b) f h c):Rd a f h c:=
 ⟨d.me,d.sc,d.nm.cc (λg e=>Y5 _ e),i,λg e=>d.bh g (Y5 _ e),d.pr,d.np,d.gl,d.e6,d.b0⟩
abbrev PM(α:Type):=St->Except Mar.a5 (α×St)
def dD(e:List Nat)(i:Ad)(k:ByteArray)(c:World)(g:Except Mar.a5 (α×St))(j:α->Value)(b:Ending)(d:World):Prop:=
 ai e c d/\((∃a h,g=.ok (a,h)/\b=.returned (j a)/\Rd i k h d)\/(∃f,g=.error f/\fg c f.no f.w b d))
def fL(d:ByteArray):PM Mar.bi:=λa=>
 match eb d.data.toList a.w a.nx with
 |.ok (b,c)=>.ok (b,{ a with w:=c,nx:=some b })
 |.error f=>.error f
def next(c:ByteArray):PM Mar.bi:=λa=>
 match eb c.data.toList a.w a.nx with
 |.ok (d,b)=>.ok (d,{ a with w:=b,nx:=none })
 |.error f=>.error f
def yx{a:Ad}{e:ByteArray}{g:St}(b:Rd a e g c) :
  Calls prog 72 #[.pointer (some ⟨a.S,0,none⟩)] c (dD [a.S] a e c (fL e g) cr):=by
 refine(zG a.S e g.w g.nx c b.sc b.gl b.e6).mono ?_;rintro m d ⟨h,⟨l,n,i,rfl,j⟩|⟨f,i,k⟩⟩
 .exact⟨h,Y8 ⟨l,_,by simp only[fL,i],rfl,b.nT h j⟩⟩
 .exact⟨h,Ya ⟨f,by simp only[fL,i],k⟩⟩
def qf{a:Ad}{e:ByteArray}{g:St}(b:Rd a e g c) :
  Calls prog 118 #[.pointer (some ⟨a.S,0,none⟩)] c (dD [a.S] a e c (next e g) cr):=by
 refine(EY a.S e g.w g.nx c b.sc b.gl b.e6).mono ?_;rintro m d ⟨h,⟨l,n,i,rfl,j⟩|⟨f,i,k⟩⟩
 .exact⟨h,Y8 ⟨l,_,by simp only[next,i],rfl,b.nT h j⟩⟩
 .exact⟨h,Ya ⟨f,by simp only[next,i],k⟩⟩
def gf(b:ByteArray)(a:List UInt8):PM Bool:=λd=>
 match fL b d with
 |.ok (c,e)=>.ok (c.text==a,e)
 |.error f=>.error f
def Ic(a b d e:Value)(c:World):(Instr.field 154 (.agg #[a,b,d,e]) 0).run prog c=.ok a c:=by kernel_rfl
def Id(a b d e:Value)(c:World):(Instr.field 154 (.agg #[a,b,d,e]) 1).run prog c=.ok b c:=by kernel_rfl
def AR(d b e a:Value)(c:World):(Instr.field 154 (.agg #[d,b,e,a]) 3).run prog c=.ok a c:=by kernel_rfl
def CU{a:Ad}{e:ByteArray}{j:St}(i:ByteArray)(g:Rd a e j c) :
  Calls prog 198 #[.pointer (some ⟨a.R,0,none⟩),.string i] c (dD [a.S] a e c (gf e i.data.toList j) .bool):=by
 rw[<-ByteArray.toList_eq];obtain⟨p,q,r,s,t,v⟩:=g.am;have w:=Id;have k:=Z (yx g);go_in;go_wp2_with (go_at_call 72;refine k.j.mono ?_;rintro u w1 ⟨h,⟨x,o,d,rfl,n⟩|⟨f,d,b,l,rfl,m⟩⟩<;>(try dsimp only[cr]))
 .go_ret;exact⟨h,Y8 ⟨_,o,by simp only[gf,d],rfl,n⟩⟩
 .exact aq ⟨h,Ya ⟨f,by simp only[gf,d],b,l,rfl,m⟩⟩
def av(c:PM α)(b:α->PM g):PM g:=λd=>
 match c d with
 |.ok (a,e)=>b a e
 |.error f=>.error f
def bT(a:α):PM α:=λb=>.ok (a,b)
def fl(b a:Nat):PM α:=λ_=>.error ⟨b,a⟩
def au{m:PM α}{b:α->PM g}{c d:St}{a:α}(e:m c=.ok (a,d)):av m b c=b a d:=by simp only[av,e]
def bl{m:PM α}{c:α->PM g}{a:St}(b:m a=.error f):av m c a=.error f:=by simp only[av,b]
def da(a:ByteArray)(b:List UInt8):PM Bool:=av (gf a b) λc=>if c then av (next a) λ_=>bT true else bT false
def fp{f:Ad}{i:ByteArray}{h:Except Mar.a5 (α×St)}{g:α->Value}{a:α}{b:St}{v:Value}
  (k:ai e c d) (l:h=.ok (a,b)) (m:v=g a) (j:Rd f i b d):dD e f i c h g (.returned v) d:=⟨k,Y8 ⟨a,b,l,by rw[m],j⟩⟩
def er{M':List Nat}{g:Ad}{n:ByteArray}{a:Except Mar.a5 (α×St)}{h:α->Value}
  (k:ai e c d) (l:ai M' c w1) (m:a=.error f) (i:w1.heap.size<=b) (j:d.heap[b]? = some (.cells #[.int .i64 f.no,.int .i64 f.w] 179)) :
  dD e g n c a h (.panicked [{ v:=.iface 143 (.pointer (some ⟨b,0,none⟩)),recovered:=false }]) d:=
 ⟨k,Ya ⟨f,m,b,Yz l.a2 i,rfl,j⟩⟩
def sG{h:Ad}{n:ByteArray}{p:St}(m:ByteArray)(s:Rd h n p c) :
  Calls prog 192 #[.pointer (some ⟨h.R,0,none⟩),.string m] c (dD [h.S] h n c (da n m.data.toList p) .bool):=by
 have q:=Z (CU m s);go_in;go_wp2_with (first
  |(go_at_call 198;refine q.j.mono ?_;rintro r w1 ⟨d,⟨a,C,e,rfl,k⟩|⟨f,e,b,i,rfl,j⟩⟩;obtain⟨u,v,w,x,y,z⟩:=k.am)
  |(go_at_call 118;refine(qf k).mono ?_;rintro r A ⟨o,⟨B,D,l,rfl,t⟩|⟨f,l,b,i,rfl,j⟩⟩))
 .have g:a=false:=by simpa using ‹(!a)=true›
  subst g;go_ret;exact fp d (au e) rfl k
 .have g:a=true:=by simpa using ‹(!a)=false›
  subst g;go_ret;exact fp (d.u o) ((au e).trans (au l)) rfl t
 .have g:a=true:=by simpa using ‹(!a)=false›
  subst g;exact aq (er (d.u o) d ((au e).trans (bl l)) i j)
 .exact aq (er d (ah [] _) (bl e) i j)
def bV(c:ByteArray)(b:List UInt8):PM Mar.bi:=av (next c) λa=>if a.text==b then bT a else fl 3 a.w
def rr{e:Ad}{j:ByteArray}{r:St}(i:ByteArray)(g:Rd e j r c) :
  Calls prog 187 #[.pointer (some ⟨e.R,0,none⟩),.string i] c (dD [e.S] e j c (bV j i.data.toList r) cr):=by
 rw[<-ByteArray.toList_eq];obtain⟨M,N,O,P,a0,a1⟩:=g.am;have a3:=g.lt.1;have a5:=g.lt.2.1;have x:U (∀n,Calls prog 118 #[.pointer (some ⟨e.S,0,none⟩)] (c.alloc n) (dD [e.S] (e.a8 c.heap.size) j (c.alloc n) (next j r) cr)):=λn=>qf (g.ax n);have L:=Z g.cq;go_in;go_wp2_with (first
  |(go_at_call 118;refine(x.j _).mono ?_;rintro z w1 ⟨k,⟨h,K,m,rfl,t⟩|⟨f,m,b,A,rfl,B⟩⟩<;>(try dsimp only[cr]);have u:=(k.K c.heap.size (by simp) (by simp;omega)).trans (aK rfl);obtain⟨F,G,H,I,a2⟩:=iK u;have w:=k.a2;simp at w;have C:c.heap.size<w1.heap.size:=w;have a4:¬c.heap.size=w1.heap.size:=(by omega);have o:=Z k;have s:=Z m;have y:=Z t;clear u k m t)
  |(go_at_call 70;refine(gO _ _ _).mono ?_;rintro z d ⟨rfl,rfl⟩))
 .have q:(h.text==i.toList)=false:=by simpa using ‹(!h.text==i.toList)=true›
  refine aq (er (M':=[e.S]) (w1:=w1) (f:=⟨3,h.w⟩) ((((ah _ _).G _).u o.j).G _ |>.G _) (((ah _ _).G _).u o.j) ((au s.j).trans ?_) (by omega) (aK (by simp)));rw[q];rfl
 .have q:(h.text==i.toList)=true:=by simpa using ‹(!h.text==i.toList)=false›
  refine bodyPost_ret (v:=cr h) (by simp[results,results187,go_sem,C,F,G,H,I]) rfl (fp (a:=h) ?_ ((au s.j).trans (by rw[q];rfl)) rfl ?_)
  .exact((((((((ah _ _).G _).u o.j)).cy (Y4 _) _).cy (Y4 _) _).cy (Y4 _) _).cy (Y4 _) _).G _
  .have l:=λ{J:World} (D:Rd (e.a8 c.heap.size) j K J) (E:Nat) (v:Value)=>qT (A':=e.a8 c.heap.size) g ⟨rfl,rfl,rfl,rfl⟩ D (p:=⟨c.heap.size,E,none⟩) (Y4 _) (by simp[Ad.a8]) v;exact pp g.aI ((l (l (l (l y.j 0 _) 1 _) 2 _) 3 _).aA ((Below.refl _ _).alloc (Y4 _) _))
 .exact aq (er (((ah _ _).G _).u k) ((ah [e.S] _).G _) (bl m) A B)
end
section
variable {a:Mar.bi}
def hL(b:ByteArray)(a:Mar.bi):PM Ty:=
 if((a.H:Int)==1)then bT (.named a.text a.w)
 else if a.text==[105,110,116]then bT (.plain 0)
 else if a.text==[104,121,112,101,114]then bT (.plain 2)
 else if a.text==[98,111,111,108]then bT (.plain 4)
 else if a.text==[117,110,115,105,103,110,101,100]then
  av (da b [104,121,112,101,114]) λc=>if c then bT (.plain 3)else av (da b [105,110,116]) λ_=>bT (.plain 1)
 else fl 3 a.w
def kl(a:ByteArray):PM Ty:=av (next a) (hL a)
def Ru{c:ByteArray}(b:((a.H:Int)==1)=true):hL c a=bT (.named a.text a.w):=by unfold hL;rw[Y9 b]
def Rv{d:ByteArray}(b:((a.H:Int)==1)=false)(c:(a.text==[105,110,116])=true):hL d a=bT (.plain 0):=by unfold hL;simp only[b,c,Ye,if_false,if_true]
def Rw{e:ByteArray}(b:((a.H:Int)==1)=false)(c:(a.text==[105,110,116])=false)(d:(a.text==[104,121,112,101,114])=true):hL e a=bT (.plain 2):=by unfold hL;simp only[b,c,d,Ye,if_false,if_true]
def Rx{f:ByteArray}(b:((a.H:Int)==1)=false)(c:(a.text==[105,110,116])=false)(d:(a.text==[104,121,112,101,114])=false)(e:(a.text==[98,111,111,108])=true):hL f a=bT (.plain 4):=by unfold hL;simp only[b,c,d,e,Ye,if_false,if_true]
def ws{b:ByteArray}(c:((a.H:Int)==1)=false)(d:(a.text==[105,110,116])=false)(e:(a.text==[104,121,112,101,114])=false)(f:(a.text==[98,111,111,108])=false)(g:(a.text==[117,110,115,105,103,110,101,100])=true) :
  hL b a=av (da b [104,121,112,101,114]) λh=>if h then bT (.plain 3)else av (da b [105,110,116]) λ_=>bT (.plain 1):=by unfold hL;simp only[c,d,e,f,g,Ye,if_false,if_true]
def Ry{g:ByteArray}(b:((a.H:Int)==1)=false)(c:(a.text==[105,110,116])=false)(d:(a.text==[104,121,112,101,114])=false)(e:(a.text==[98,111,111,108])=false)(f:(a.text==[117,110,115,105,103,110,101,100])=false) :
  hL g a=fl 3 a.w:=by unfold hL;simp only[b,c,d,e,f,Ye,if_false]
def zf(a:Mar.bi)(b:World) :
  Calls prog 243 #[cr a] b λc d=>c=.returned (.agg #[.string ⟨a.text.toArray⟩,.int .i64 a.w])/\Below b.heap.size b d:=by
 dsimp only[cr];go_in;go_wp2;exact bodyPost_ret (v:=.agg #[.string ⟨a.text.toArray⟩,.int .i64 a.w]) (by simp[results,results243,go_sem]) rfl ⟨rfl,((Below.refl _ _).alloc (Y4 _) _).alloc (by simp) _⟩
def DZ{d:Ad}{p:ByteArray}{z:St}{q:World}(t:Rd d p z q) :
  Calls prog 249 #[.pointer (some ⟨d.R,0,none⟩)] q (dD [d.S] d p q (kl p z) bX):=by
 obtain⟨C,D,E,F,G,H⟩:=t.am;have A:=Z (qf t);go_in;go_wp2_with (first
  |(go_at_call 118;refine A.j.mono ?_;rintro k y ⟨n,⟨a,N,l,rfl,w⟩|⟨m,l,s,f,rfl,g⟩⟩<;>(try dsimp only[cr]);have b:=Z n;have c:=Z l;have e:=Z w;clear n l w)
  |(go_at_call 243;refine(zf a _).mono ?_;rintro k J ⟨rfl,u⟩)
  |(go_at_call 70;refine(gO _ _ _).mono ?_;rintro k I ⟨rfl,rfl⟩)
  |(go_at_call_of 192 (Value.string { data:=#[104,121,112,101,114] });refine(sG _ (e.j.aA ((Below.refl _ _).alloc (Y4 _) _))).mono ?_;rintro k K ⟨h,⟨r,O,i,rfl,x⟩|⟨m,i,s,f,rfl,g⟩⟩)
  |(go_at_call_of 192 (Value.string { data:=#[105,110,116] });refine(sG _ x).mono ?_;rintro k L ⟨v,⟨M,P,o,rfl,B⟩|⟨m,o,s,f,rfl,g⟩⟩))
 .go_ret;exact fp ((b.j.G _).u (bt _ u)) ((au c.j).trans (by rw[Ru ‹_›];rfl)) rfl ((e.j.aA ((Below.refl _ _).alloc (Y4 _) _)).aA u)
 .go_ret;exact fp (b.j.G _) ((au c.j).trans (by rw[Rv ‹_› ‹_›];rfl)) rfl (e.j.aA ((Below.refl _ _).alloc (Y4 _) _))
 .go_ret;exact fp (b.j.G _) ((au c.j).trans (by rw[Rw ‹_› ‹_› ‹_›];rfl)) rfl (e.j.aA ((Below.refl _ _).alloc (Y4 _) _))
 .go_ret;exact fp (b.j.G _) ((au c.j).trans (by rw[Rx ‹_› ‹_› ‹_› ‹_›];rfl)) rfl (e.j.aA ((Below.refl _ _).alloc (Y4 _) _))
 .have j:r=true:=‹_›;subst j;go_ret;exact fp ((b.j.G _).u h) ((au c.j).trans (by rw[ws ‹_› ‹_› ‹_› ‹_› ‹_›];exact au i)) rfl x
 .have j:r=false:=‹_›;subst j;go_ret;exact fp (((b.j.G _).u h).u v) ((au c.j).trans (by rw[ws ‹_› ‹_› ‹_› ‹_› ‹_›];exact(au i).trans (au o))) rfl B
 .have j:r=false:=‹_›;subst j;exact aq (er (((b.j.G _).u h).u v) ((b.j.G _).u h) ((au c.j).trans (by rw[ws ‹_› ‹_› ‹_› ‹_› ‹_›];exact(au i).trans (bl o))) f g)
 .exact aq (er ((b.j.G _).u h) (b.j.G _) ((au c.j).trans (by rw[ws ‹_› ‹_› ‹_› ‹_› ‹_›];exact bl i)) f g)
 .exact aq (er (M':=[d.S]) (w1:=y) (f:=⟨3,a.w⟩) ((b.j.G _).G _) b.j ((au c.j).trans (by rw[Ry ‹_› ‹_› ‹_› ‹_› ‹_›];rfl)) (by omega) (aK (by simp)))
 .exact aq (er n (ah [] _) (bl l) f g)
end
section
variable {c:Ad}{d:World}{b:St}
def iE(a:Nat):PM Unit:=λb=>if 24<=b.ae then .error ⟨5,a⟩else .ok ((),{ b with ae:=b.ae+1 })
def iD(a:Nat):PM Unit:=λb=>if 40<=b.a1 then .error ⟨5,a⟩else .ok ((),{ b with a1:=b.a1+1 })
abbrev oS:Unit->Value:=λ_=>.tuple #[]
def Rd.mR{j:ByteArray}(i:Rd c j b d):2≠c.R/\3≠c.R/\4≠c.R:=by
 obtain⟨a,_⟩:=i.am;obtain⟨⟨k,f⟩,⟨_,_,g⟩,⟨_,_,h⟩⟩:=i.gl;refine⟨?_,?_,?_⟩
 .intro e;rw[e]at f;rw[f]at a;cases a
 .intro e;rw[e]at g;rw[g]at a;cases a
 .intro e;rw[e]at h;rw[h]at a;cases a
def Rd.iP{k:ByteArray}(a:Rd c k b d)(B:b.ae<24) :
  Rd c k { b with ae:=b.ae+1 } (d.setCell ⟨c.R,2,none⟩ (.int .i64 ((b.ae+1:Nat):Int))):=by
 obtain⟨C,u,D,v⟩:=a.lt;obtain⟨x,y,z,E,F,G⟩:=a.cq;have g:ai [c.R] d (d.setCell ⟨c.R,2,none⟩ (.int .i64 ((b.ae+1:Nat):Int))):=(ah [c.R] d).a6 (p:=⟨c.R,2,none⟩) (by simp) _;refine⟨bv (i:=2) a.me _,?_,a.nm.O g (by simp;exact a.aI.1) (by simp;exact λf=>y f.symm),a.aI,λl s=>Yr (a.bh l s) g.a2,
  (g.K _ v (by simp;exact λf=>z f.symm)).trans a.pr,a.np,?_,a.e6,?_⟩
 .obtain⟨r,e⟩:=a.sc;have h:=g.K _ u (by simp;exact λf=>x f.symm);refine⟨r,?_⟩;cases j:b.nx with
  |some l=>rw[j]at e;exact h.trans e
  |none=>rw[j]at e;obtain⟨t,A,w,m,e⟩:=e;exact⟨t,A,w,m,h.trans e⟩
 .obtain⟨n,o,q⟩:=a.mR;exact a.gl.O g (by simp[n]) (by simp[o]) (by simp[q])
 .exact⟨by show b.ae+1<=_;omega,a.b0.2⟩
def Rd.p9{k:ByteArray}(a:Rd c k b d)(B:b.a1<40) :
  Rd c k { b with a1:=b.a1+1 } (d.setCell ⟨c.R,3,none⟩ (.int .i64 ((b.a1+1:Nat):Int))):=by
 obtain⟨C,u,D,v⟩:=a.lt;obtain⟨x,y,z,E,F,G⟩:=a.cq;have g:ai [c.R] d (d.setCell ⟨c.R,3,none⟩ (.int .i64 ((b.a1+1:Nat):Int))):=(ah [c.R] d).a6 (p:=⟨c.R,3,none⟩) (by simp) _;refine⟨bv (i:=3) a.me _,?_,a.nm.O g (by simp;exact a.aI.1) (by simp;exact λf=>y f.symm),a.aI,λl s=>Yr (a.bh l s) g.a2,
  (g.K _ v (by simp;exact λf=>z f.symm)).trans a.pr,a.np,?_,a.e6,?_⟩
 .obtain⟨r,e⟩:=a.sc;have h:=g.K _ u (by simp;exact λf=>x f.symm);refine⟨r,?_⟩;cases j:b.nx with
  |some l=>rw[j]at e;exact h.trans e
  |none=>rw[j]at e;obtain⟨t,A,w,m,e⟩:=e;exact⟨t,A,w,m,h.trans e⟩
 .obtain⟨n,o,q⟩:=a.mR;exact a.gl.O g (by simp[n]) (by simp[o]) (by simp[q])
 .exact⟨a.b0.1,by show b.a1+1<=_;omega⟩
def vt{j:ByteArray}(e:Nat)(g:Rd c j b d) :
  Calls prog 190 #[.pointer (some ⟨c.R,0,none⟩),.int .i64 e] d (dD [c.R] c j d (iE e b) oS):=by
 obtain⟨q,r,s,t,u,w⟩:=g.am;have v:=g.b0;by_cases i:24<=b.ae
 .have h:(24:Int)<=b.ae:=by omega
  go_in;go_wp2_with (go_at_call 201;refine(qm _ _ _ _ h).mono ?_;rintro k o ⟨⟨p,m,rfl,n⟩,l⟩);exact aq (er (f:=⟨5,e⟩) (bt _ l) (ah [] _) (by rw[iE,Y9 i]) m n)
 .have h:¬(24:Int)<=b.ae:=by omega
  go_in;go_wp2_with (go_at_call 201;refine(qn _ _ _ _ h).mono ?_;rintro k o ⟨rfl,rfl⟩);go_end0;refine fp (a:=()) ((ah _ _).a6 (by simp) _) (by rw[iE,Y2 i]) rfl ?_;exact g.iP (by omega)
def Cc{j:ByteArray}(e:Nat)(g:Rd c j b d) :
  Calls prog 184 #[.pointer (some ⟨c.R,0,none⟩),.int .i64 e] d (dD [c.R] c j d (iD e b) oS):=by
 obtain⟨q,r,s,t,u,w⟩:=g.am;have v:=g.b0;by_cases i:40<=b.a1
 .have h:(40:Int)<=b.a1:=by omega
  go_in;go_wp2_with (go_at_call 201;refine(qm _ _ _ _ h).mono ?_;rintro k o ⟨⟨p,m,rfl,n⟩,l⟩);exact aq (er (f:=⟨5,e⟩) (bt _ l) (ah [] _) (by rw[iD,Y9 i]) m n)
 .have h:¬(40:Int)<=b.a1:=by omega
  go_in;go_wp2_with (go_at_call 201;refine(qn _ _ _ _ h).mono ?_;rintro k o ⟨rfl,rfl⟩);go_end0;refine fp (a:=()) ((ah _ _).a6 (by simp) _) (by rw[iD,Y2 i]) rfl ?_;exact g.p9 (by omega)
end
end Go.Proofs.YtjdhaegijjednaaGreatDoor
namespace Go.Proofs.YtjdhaegijjednaaGreatDoor
open Go.RowKit
open Go.MapKept
open Go.Proofs.Tryz
section
variable {b e:Nat}{T et kt:TypeId}{d:TypeDesc}{a:Array MapEntry}{c:Type}
section
variable {P : Program} {w : World}
def tp(q:P.underlying T=some (.map kt et))(i:P.underlying kt=some d){k:Value}(p:IsKey d k)
  (n:w.heap[b]? = some (.map a e)) (t:∀l∈a.toList,IsKey d l.key) {m:Value} (u:(zeroValue et).run P w=.ok m w) (c:Bool) :
  ((∀l∈a.toList,l.key≠k)/\(Instr.lookup T (.map (some b)) k c).run P w=.ok (if c then .tuple #[m,.bool false]else m) w)\/
  (∃(j:Nat) (f:MapEntry),a.toList[j]? = some f/\f.key=k/\(Instr.lookup T (.map (some b)) k c).run P w=.ok (if c then .tuple #[f.val,.bool true]else f.val) w):=by
 have o:=λr=>MapKept.run_checkKey (w:=w) i p r 9999;rcases findNow_spec p a.toList 0 t with⟨g,h⟩|⟨j,f,g,h,s⟩
 .refine Y8 ⟨h,?_⟩;cases c<;>simp[Instr.lookup,Instr.findKey,run_underlying q,run_underlying i,MapKept.run_getObj_map n,o,g,u,Result.andThen]
 .refine Ya ⟨j,f,h,s,?_⟩;cases c<;>simp[Instr.lookup,Instr.findKey,run_underlying q,run_underlying i,MapKept.run_getObj_map n,o,g,Result.andThen]
def vL(r:P.underlying T=some (.map kt et))(i:P.underlying kt=some d){k:Value}(j:IsKey d k)
  (h:w.heap[b]? = some (.map a e)) (p:∀c∈a.toList,IsKey d c.key) (q:∀c∈a.toList,c.key≠k) (v:Value) :
  (Instr.mapUpdate T (.map (some b)) k v).run P w=.ok () { w with heap:=w.heap.setIfInBounds b (.map (a.push ⟨k,v,e⟩) (e+1)) }:=by
 have o:=λl=>MapKept.run_checkKey (w:=w) i j l 9999;rcases findNow_spec j a.toList 0 p with⟨f,g⟩|⟨s,m,f,g,n⟩
 .simp[Instr.mapUpdate,Instr.findKey,run_underlying r,run_underlying i,MapKept.run_getObj_map h,o,f,MapKept.run_setObj_map _ h,Result.andThen]
 .exact absurd n (q m (Yh g))
end
def az(b:List (List UInt8×c))(a:List UInt8):Option c:=(b.find? λd=>d.1==a).map (·.2)
def Ke{d:List (List UInt8×c)}{b:List UInt8}(e:∀a∈d,a.1≠b):az d b=none:=by
 unfold az;rw[List.find?_eq_none.2 (λa f=>by simp[e a f])];rfl
def xS{b:List (List UInt8×c)}{e:List UInt8}(d:(b.map (·.1)).Nodup){f:List UInt8×c}(a:f∈b)(g:f.1=e):az b e=some f.2:=by
 induction b with
 |nil=>cases a
 |cons k l j=>
  unfold az;simp only[List.map_cons,List.nodup_cons]at d;rcases Yg.1 a with rfl|a
  .simp[g]
  .have i:k.1≠e:=λh=>d.1 (by rw[h,<-g];exact List.mem_map_of_mem a);have:=j d.2 a;unfold az at this;simp only[List.find?_cons,Yi.2 i];exact this
def rK(e:List (List UInt8×Value)):∀c∈(e.mapIdx λa b=>(⟨.string ⟨b.1.toArray⟩,b.2,a⟩:MapEntry)),IsKey .string c.key:=by
 intro c d;obtain⟨a,f,rfl⟩:=List.mem_mapIdx.1 d;trivial
end
def vo{o:List Nat}{n:Nat}{a:List (List UInt8×Option ao)}{e:World}(s:fN o n a e)(j:List UInt8)(i:Bool) :
  (az a j=none/\(Instr.lookup 148 (.map (some n)) (.string ⟨j.toArray⟩) i).run prog e=.ok (if i then .tuple #[.nilIface,.bool false]else .nilIface) e)\/
  (∃r v k,az a j=some r/\bn o k e/\jk k v r/\(Instr.lookup 148 (.map (some n)) (.string ⟨j.toArray⟩) i).run prog e=.ok (if i then .tuple #[v,.bool true]else v) e):=by
 obtain⟨D,k,h,t,E,u,w⟩:=s;have z:IsKey .string (.string ⟨j.toArray⟩):=trivial;have x:=rK (a.zip h |>.map λb=>(b.1.1,b.2));have C:(zeroValue 157).run prog e=.ok .nilIface e:=by kernel_rfl
 rcases tp (P:=prog) (T:=148) (kt:=9) (et:=157) (d:=.string) (by kernel_rfl) (by kernel_rfl) z u (by simpa using x) C i with⟨c,l⟩|⟨g,p,c,l,q⟩
 .refine Y8 ⟨Ke ?_,l⟩;intro b B p;obtain⟨f,F,rfl⟩:=List.getElem_of_mem B;have G:f<h.length:=by omega
  have A:(⟨.string ⟨a[f].1.toArray⟩,h[f],f⟩:MapEntry)∈((a.zip h |>.map λb=>(b.1.1,b.2)).mapIdx λf b=>(⟨.string ⟨b.1.toArray⟩,b.2,f⟩:MapEntry)).toArray.toList:=by
   simp only[List.toList_toArray];rw[List.mem_mapIdx];exact⟨f,by simp;omega,by simp⟩
  exact c _ A (by rw[p])
 .simp only[List.toList_toArray,List.getElem?_mapIdx]at c;have m:g<a.length:=by
   by_cases m:g<a.length
   .exact m
   .rw[YA (by simp;omega)]at c;cases c
  have y:g<h.length:=by omega
  rw[Yd (by simp;omega)]at c;simp at c;subst c;simp at l q;refine Ya ⟨a[g].2,h[g],k,xS D (Yy m) l,t,w g m y,?_⟩;simpa using q
def hB(a:Mar.bi):PM Int:=λb=>
 match az b.F a.text with
 |some (some (.const _ _ v))=>.ok (v,b)
 |_=>.error ⟨7,a.w⟩
abbrev ia:Int->Value:=λa=>.int .i64 a
def DL(a:World):(Instr.typeAssert .nilIface 157 223 true).run prog a=.ok (.tuple #[.pointer none,.bool false]) a:=by kernel_rfl
def QJ(a:Value)(b:World):(Instr.typeAssert (.iface 223 a) 157 223 true).run prog b=.ok (.tuple #[a,.bool true]) b:=by kernel_rfl
def QI(c:ao)(g:Value)(d:World)(e:∀b a v,c≠.const b a v):(Instr.typeAssert (.iface (cE c) g) 157 223 true).run prog d=.ok (.tuple #[.pointer none,.bool false]) d:=by
 cases c with
 |const b a v=>exact absurd rfl (e b a v)
 |typedef c=>kernel_rfl
 |enum b a f=>kernel_rfl
 |struct b a f=>kernel_rfl
 |union b a j h=>kernel_rfl
 |prog b a k i=>kernel_rfl
def GK{i:Ad}{z:ByteArray}{k:St}(a:Mar.bi){w:World}(p:Rd i z k w) :
  Calls prog 267 #[.pointer (some ⟨i.R,0,none⟩),cr a] w (dD [] i z w (hB a k) ia):=by
 have q:=((Below.refl w.heap.size w).alloc (Y4 _) (.cells #[.int .i64 a.H,.string ⟨a.text.toArray⟩,.int .i64 a.n,.int .i64 a.w] 154)).drew;obtain⟨s,t,K,L,M,P⟩:=p.am;have S:=p.lt.1;have n:=p.aA q;have key:(∃v,(Instr.lookup 148 (.map (some i.N)) (.string ⟨a.text.toArray⟩) false).run prog ((w.alloc (.cells #[.int .i64 a.H,.string ⟨a.text.toArray⟩,.int .i64 a.n,.int .i64 a.w] 154)).drew)=.ok v ((w.alloc (.cells #[.int .i64 a.H,.string ⟨a.text.toArray⟩,.int .i64 a.n,.int .i64 a.w] 154)).drew)/\
    (∀l,(Instr.typeAssert v 157 223 true).run prog l=.ok (.tuple #[.pointer none,.bool false]) l)/\hB a k=.error ⟨7,a.w⟩)\/
   (∃(h:Nat) (s t:Value) (b:Int),(Instr.lookup 148 (.map (some i.N)) (.string ⟨a.text.toArray⟩) false).run prog ((w.alloc (.cells #[.int .i64 a.H,.string ⟨a.text.toArray⟩,.int .i64 a.n,.int .i64 a.w] 154)).drew)=.ok (.iface 223 (.pointer (some ⟨h,0,none⟩))) ((w.alloc (.cells #[.int .i64 a.H,.string ⟨a.text.toArray⟩,.int .i64 a.n,.int .i64 a.w] 154)).drew)/\
    (w.alloc (.cells #[.int .i64 a.H,.string ⟨a.text.toArray⟩,.int .i64 a.n,.int .i64 a.w] 154)).heap[h]? = some (.cells #[s,t,.int .i64 b] 343)/\hB a k=.ok (b,k)):=by
  rcases vo n.nm a.text false with⟨e,g⟩|⟨G,v,J,e,C,y,g⟩
  .simp only[Ye,if_false]at g
   exact Y8 ⟨_,g,DL,by simp only[hB,e]⟩
  .simp only[Ye,if_false]at g
   cases G with
   |none=>
    have E:v=.nilIface:=y;subst E;exact Y8 ⟨_,g,DL,by simp only[hB,e]⟩
   |some m=>
    obtain⟨h,rfl,B⟩:=y;by_cases r:∃d c b,m=.const d c b
    .obtain⟨d,c,b,rfl⟩:=r;exact Ya ⟨h,_,_,b,g,(C _ B).1,by simp only[hB,e]⟩
    .refine Y8 ⟨_,g,λl=>QI m _ l (λd c b u=>r ⟨d,c,b,u⟩),?_⟩;cases m with
     |const d c b=>exact absurd ⟨d,c,b,rfl⟩ r
     |typedef m=>simp only[hB,e]
     |enum d c F=>simp only[hB,e]
     |struct d c F=>simp only[hB,e]
     |union d c a2 I=>simp only[hB,e]
     |prog d c a3 b=>simp only[hB,e]
 rcases key with⟨v,g,D,j⟩|⟨h,a0,a1,b,g,x,j⟩
 .have o:=Z j;clear j n q;dsimp only[cr];go_in;go_wp2;go_region;go_wp2_with (go_at_call 70;refine(gO _ _ _).mono ?_;rintro u a4 ⟨rfl,rfl⟩);exact aq (er (M':=[]) (w1:=w) (f:=⟨7,a.w⟩) (((ah _ _).G _).G _).a9 (ah _ _) o.j (by omega) (aK (w:=w.alloc _) (by simp)))
 .have o:=Z j;have D:=λH=>QJ H;have O:(w.alloc (.cells #[.int .i64 a.H,.string ⟨a.text.toArray⟩,.int .i64 a.n,.int .i64 a.w] 154)).cell? ⟨h,2,none⟩=some (.int .i64 b):=by simp[World.cell?,x]
  have A:=Z n;clear j n q x;dsimp only[cr];go_in;go_wp2;go_region;go_wp2;go_ret;exact fp (a:=b) (((ah _ _).G _).a9) o.j rfl A.j
end Go.Proofs.YtjdhaegijjednaaGreatDoor
namespace Go.Proofs.YtjdhaegijjednaaGreatDoor
open Go.RowKit
open Go.Proofs.Tryz
section
variable {a:Mar.bi}
def ic(a:Mar.bi):PM Int:=
 if((a.H:Int)==3)then bT a.n
 else if((a.H:Int)==1)then hB a
 else if a.text==[84,82,85,69]then bT 1
 else if a.text==[70,65,76,83,69]then bT 0
 else fl 3 a.w
def Kj(b:((a.H:Int)==3)=true):ic a=bT a.n:=by unfold ic;rw[Y9 b]
def BF(b:((a.H:Int)==3)=false)(c:((a.H:Int)==1)=true):ic a=hB a:=by unfold ic;simp only[b,c,Ye,if_false,if_true]
def Kk(b:((a.H:Int)==3)=false)(c:((a.H:Int)==1)=false)(d:(a.text==[84,82,85,69])=true):ic a=bT 1:=by unfold ic;simp only[b,c,d,Ye,if_false,if_true]
def Kl(b:((a.H:Int)==3)=false)(c:((a.H:Int)==1)=false)(d:(a.text==[84,82,85,69])=false)(e:(a.text==[70,65,76,83,69])=true):ic a=bT 0:=by unfold ic;simp only[b,c,d,e,Ye,if_false,if_true]
def Km(b:((a.H:Int)==3)=false)(c:((a.H:Int)==1)=false)(d:(a.text==[84,82,85,69])=false)(e:(a.text==[70,65,76,83,69])=false):ic a=fl 3 a.w:=by unfold ic;simp only[b,c,d,e,Ye,if_false]
def Ko{d:Ad}{h:ByteArray}{i:St}(a:Mar.bi){b:World}(c:Rd d h i b) :
  Calls prog 245 #[.pointer (some ⟨d.R,0,none⟩),cr a] b (dD [] d h b (ic a i) ia):=by
 have f:=Z (λo=>GK a (c.aA ((Below.refl b.heap.size b).alloc (Y4 _) o)));dsimp only[cr]at f ⊢;go_in;go_wp2_with (first
  |(go_at_call 70;refine(gO _ _ _).mono ?_;rintro j s ⟨rfl,rfl⟩)
  |(go_at_call 267;refine(f.j _).mono ?_;rintro j p ⟨g,⟨r,t,e,rfl,n⟩|⟨k,e,q,l,rfl,m⟩⟩))
 .go_ret;exact fp ((ah _ _).G _) (by rw[Kj ‹_›];rfl) rfl (c.aA ((Below.refl _ _).alloc (Y4 _) _))
 .go_ret;exact fp (((ah _ _).G _).u g) (by rw[BF ‹_› ‹_›];exact e) rfl n
 .exact aq (er (((ah _ _).G _).u g) ((ah [] _).G _) (by rw[BF ‹_› ‹_›];exact e) l m)
 .go_ret;exact fp ((ah _ _).G _) (by rw[Kk ‹_› ‹_› ‹_›];rfl) rfl (c.aA ((Below.refl _ _).alloc (Y4 _) _))
 .go_ret;exact fp ((ah _ _).G _) (by rw[Kl ‹_› ‹_› ‹_› ‹_›];rfl) rfl (c.aA ((Below.refl _ _).alloc (Y4 _) _))
 .exact aq (er (M':=[]) (w1:=b) (f:=⟨3,a.w⟩) (((ah _ _).G _).G _) (ah _ _) (by rw[Km ‹_› ‹_› ‹_› ‹_›];rfl) (by omega) (aK (by simp)))
end
def gA(c:List Nat)(v:Value)(i:Int->Bool)(j:World):Prop:=
 ∃(d:List (Nat×Obj)) (b:Nat) (g f:Array Value),v=.func (.func b) g f/\bn c d j/\(∀args a,(callFunc b args).run prog a=.ok (.enter b args) a)/\
  ∀a,bn c d a->∀e:Int,Calls prog b (g.push (.int .i64 e)++f) a λh k=>h=.returned (.bool (i e))/\Below a.heap.size a k
def hM(d:ByteArray)(c:Int->Bool):PM (Int×Nat):=av (next d) λa=>av (ic a) λb=>if c b then bT (b,a.w)else fl 8 a.w
abbrev vG:Int×Nat->Value:=λa=>.tuple #[.int .i64 a.1,.int .i64 a.2]
def Ef{b:Ad}{w:ByteArray}{A:St}{v:Value}{d:Int->Bool}{k:World}(o:Rd b w A k)(I:gA b.X v d k) :
  Calls prog 188 #[.pointer (some ⟨b.R,0,none⟩),v] k (dD [b.S] b w k (hM w d A) vG):=by
 obtain⟨a0,a1,a2,a3,a4,a6⟩:=o.am;obtain⟨P,n,a9,a8,rfl,J,a5,H⟩:=I;have D:=Z J;have C:=Z H;have B:=Z (qf o);go_in;go_wp2_with (first
  |(go_at_call 118;refine B.j.mono ?_;rintro h f ⟨s,⟨c,b5,j,rfl,y⟩|⟨n,j,G,q,rfl,r⟩⟩<;>(try dsimp only[cr]);have g:=Z s;have m:=Z j;have E:=Z y;clear s j y)
  |(go_at_call 245;refine(Ko c (E.j.aA ((Below.refl _ _).alloc (Y4 _) _))).mono ?_;rintro h b4 ⟨i,⟨e,b6,u,rfl,L⟩|⟨n,u,G,q,rfl,r⟩⟩<;>(try dsimp only[ia]))
  |(go_at_call 70;refine(gO _ _ _).mono ?_;rintro h N ⟨rfl,rfl⟩))
 .have K:=(D.j.O g.j (by simp;exact o.aI.2.1)).O (bt [] ((Below.refl f.heap.size f).alloc (Y4 _) (.cells #[.int .i64 c.H,.string ⟨c.text.toArray⟩,.int .i64 c.n,.int .i64 c.w] 154))) (by simp) |>.O i (by simp);refine(C.j _ K _).mono ?_;rintro h O ⟨rfl,p⟩;have z:=(i.K f.heap.size (by simp) (by simp)).trans (aK rfl);have M:=(p.block f.heap.size (aj z)).trans z;obtain⟨b0,b1,b2,b3,a7⟩:=iK M;have l:=Z (((g.j.G _).u (i.af (by simp))).u (bt [b.S] p));have F:=Z (L.aA p);have x:=Z u;go_wp2_with (go_at_call 70;refine(gO _ _ _).mono ?_;rintro h N ⟨rfl,rfl⟩)
  .have t:d e=false:=by simpa using ‹(!d e)=true›
   refine aq (er (M':=[b.S]) (w1:=O) (f:=⟨8,c.w⟩) (l.j.G _) l.j ((au m.j).trans ((au x.j).trans ?_)) (Y4 _) (aK rfl));rw[t];rfl
  .have t:d e=true:=by simpa using ‹(!d e)=false›
   go_region;go_wp2;go_ret2;exact fp (a:=(e,c.w)) l.j.a9 ((au m.j).trans ((au x.j).trans (by rw[t];rfl))) rfl (F.j.aA ((Below.refl _ _).drew))
 .exact aq (er ((g.j.G _).u (i.af (by simp))) (g.j.G _) ((au m.j).trans (bl u)) q r)
 .exact aq (er s (ah [] _) (bl j) q r)
section
variable {c A':Ad}{e:List Nat}{p:Int->Bool}{w:World}{d:St}
def dj(c b:Int):Int->Bool:=λa=>decide (c<=a)&&decide (a<=b)
def Su(d c e:Int)(b a:Nat)(w:World)(i:w.cell? ⟨b,0,none⟩=some (.int .i64 d))(h:w.cell? ⟨a,0,none⟩=some (.int .i64 c)) :
  Calls prog 246 #[.int .i64 e,.pointer (some ⟨b,0,none⟩),.pointer (some ⟨a,0,none⟩)] w λf g=>f=.returned (.bool (dj d c e))/\Below w.heap.size w g:=by
 go_in;go_wp2;all_goals
  go_ret
  refine⟨lE ?_,Below.refl _ _⟩
  unfold dj
  simp
  try omega
def Sv(args:Array Value)(w:World):(callFunc 246 args).run prog w=.ok (.enter 246 args) w:=by kernel_rfl
def qB(b a:Int)(w:World) :
  Calls prog 189 #[.int .i64 b,.int .i64 a] w λl j=>∃v,l=.returned v/\Below w.heap.size w j/\∀c:List Nat,(∀n∈c,n<w.heap.size)->gA c v (dj b a) j:=by
 go_in;go_wp2;go_ret;refine⟨.func (.func 246) #[] #[.pointer (some ⟨w.heap.size,0,none⟩),.pointer (some ⟨w.heap.size+1,0,none⟩)],rfl,((Below.refl _ _).alloc (Y4 _) _).alloc (by simp) _,?_⟩;intro c h;refine⟨[(w.heap.size,.cells #[.int .i64 b] 2),(w.heap.size+1,.cells #[.int .i64 a] 2)],_,_,_,rfl,?_,Sv,?_⟩
 .intro p i;simp at i;rcases i with rfl|rfl
  .exact⟨(Below.heap_alloc _ _ _ (by simp)).trans (aK rfl),λd=>by have:=h _ d;simp at this⟩
  .exact⟨aK (by simp),λd=>by have:=h _ d;simp at this;omega⟩
 .intro k g m;have e:=(g _ (Yb ..)).1;have f:=(g _ (Y5 _ (Yb ..))).1;exact Su b a m _ _ k (by simp at e;simp[World.cell?,e]) (by simp at f;simp[World.cell?,f])
abbrev mW:Int×Bool->Value:=λa=>.agg #[.int .i64 a.1,.bool a.2]
def nt(a:ByteArray):PM (Int×Bool):=av (bV a [60]) λ_=>av (da a [62]) λc=>
 if c then bT (4294967295,false)else av (hM a (dj 0 4294967295)) λb=>av (bV a [62]) λ_=>bT (b.1,false)
def gA.O{a:List Nat}{v:Value}{b:World}(f:gA a v p w)(k:ai e w b)(g:∀m∈e,m∈a):gA a v p b:=by
 obtain⟨c,d,o,n,l,j,i,h⟩:=f;exact⟨c,d,o,n,l,j.O k g,i,h⟩
def eH(A' c:Ad):Prop:=A'.R=c.R/\A'.S=c.S/\A'.N=c.N/\A'.P=c.P
def eI(c:Ad)(b:Nat):eH (c.a8 b) c:=⟨rfl,rfl,rfl,rfl⟩
def fh(e:eH A' c){b:ByteArray}(a:ByteArray)(f:Rd A' b d w) :
  Calls prog 187 #[.pointer (some ⟨c.R,0,none⟩),.string a] w (dD [c.S] A' b w (bV b a.data.toList d) cr):=by
 have:=rr a f;rw[e.1,e.2.1]at this;exact this
def mT(e:eH A' c){b:ByteArray}(a:ByteArray)(f:Rd A' b d w) :
  Calls prog 192 #[.pointer (some ⟨c.R,0,none⟩),.string a] w (dD [c.S] A' b w (da b a.data.toList d) .bool):=by
 have:=sG a f;rw[e.1,e.2.1]at this;exact this
def zk(b:eH A' c){a:ByteArray}{v:Value}(e:Rd A' a d w)(f:gA A'.X v p w) :
  Calls prog 188 #[.pointer (some ⟨c.R,0,none⟩),v] w (dD [c.S] A' a w (hM a p d) vG):=by
 have:=Ef e f;rw[b.1,b.2.1]at this;exact this
def kD{a:Nat}{b c:Value}{d:TypeId}(e:w.heap[a]? = some (.cells #[b,c] d)) :
  w.cell? ⟨a,0,none⟩=some b/\w.cell? ⟨a,1,none⟩=some c/\∀f,w.frozen? ⟨a,f,none⟩=false:=by
 refine⟨?_,?_,?_⟩<;>simp[World.cell?,World.frozen?,e]
def sZ{d:ByteArray}{o f:St}{a:World}(g:Rd c d o w)(k:ai e w a)(l:Rd (c.a8 w.heap.size) d f a)(i j:Value) :
  ai e w ((a.setCell ⟨w.heap.size,0,none⟩ i).setCell ⟨w.heap.size,1,none⟩ j)/\Rd c d f ((a.setCell ⟨w.heap.size,0,none⟩ i).setCell ⟨w.heap.size,1,none⟩ j):=by
 refine⟨(k.cy (Y4 _) _).cy (Y4 _) _,pp (b:=w.heap.size) g.aI ?_⟩;have h:=λ{a:World} (m:Rd (c.a8 w.heap.size) d f a) (n:Nat) (v:Value)=>qT (A':=c.a8 w.heap.size) g ⟨rfl,rfl,rfl,rfl⟩ m (p:=⟨w.heap.size,n,none⟩) (Y4 _) (by simp[Ad.a8]) v;exact h (h l 0 _) 1 _
def Lo{H:ByteArray}(i:Rd c H d w) :
  Calls prog 248 #[.pointer (some ⟨c.R,0,none⟩)] w (dD [c.S] c H w (nt H d) mW):=by
 have a8:=i.lt.2.1;have j:w.heap.size ∉ [c.S]:=by simp;omega
 have J:=aK (w:=w) (o:=.cells #[.int .i64 0,.bool false] 375) rfl;have O:=i.ax (.cells #[.int .i64 0,.bool false] 375);have x:=(ah [c.S] w).G (.cells #[.int .i64 0,.bool false] 375);go_in;go_wp2_with fail;refine(fh (eI c _) _ O).mono ?_;rintro h a9 ⟨y,⟨b4,b6,f,rfl,a3⟩|⟨m,f,l,b,rfl,e⟩⟩;rotate_left
 .exact aq (er (x.u y) x (bl f) b e)
 have K:=(y.K _ (aj J) j).trans J;have q:=x.u y;go_wp2_with fail;refine(mT (eI c _) _ a3).mono ?_;rintro h b0 ⟨z,⟨a7,b7,g,rfl,C⟩|⟨m,g,l,b,rfl,e⟩⟩;rotate_left
 .exact aq (er (q.u z) q ((au f).trans (bl g)) b e)
 have t:=(z.K _ (aj K) j).trans K;have I:=q.u z;obtain⟨F,G,a2⟩:=kD t;cases a7 with
 |true=>
  go_wp2;obtain⟨n,p⟩:=sZ i I C (.int .i64 4294967295) (.bool false);exact bodyPost_ret (v:=.agg #[.int .i64 4294967295,.bool false]) (by simp[results,results248,go_sem,F,G]) rfl (fp (a:=(4294967295,false)) n ((au f).trans (au g)) rfl p)
 |false=>
  go_wp2_with fail;refine(qB _ _ _).mono ?_;rintro h b1 ⟨v,rfl,u,a0⟩;have a1:=a0 (c.a8 w.heap.size).X C.bh;have a4:=C.aA u;have r:=I.u (bt [c.S] u);have L:=(u.block _ (aj t)).trans t;go_wp2_with fail;refine(zk (eI c _) a4 a1).mono ?_;rintro h b2 ⟨A,⟨E,b8,k,rfl,a5⟩|⟨m,k,l,b,rfl,e⟩⟩;rotate_left
  .exact aq (er (r.u A) r ((au f).trans ((au g).trans (bl k))) b e)
  have s:=r.u A;have M:=(A.K _ (aj L) j).trans L;go_wp2_with fail;refine(fh (eI c _) _ a5).mono ?_;rintro h b3 ⟨B,⟨b5,b9,D,rfl,a6⟩|⟨m,D,l,b,rfl,e⟩⟩;rotate_left
  .exact aq (er (s.u B) s ((au f).trans ((au g).trans ((au k).trans (bl D)))) b e)
  have N:=s.u B;have P:=(B.K _ (aj M) j).trans M;obtain⟨F,G,a2⟩:=kD P;go_wp2;obtain⟨n,p⟩:=sZ i N a6 (.int .i64 E.1) (.bool false);exact bodyPost_ret (v:=.agg #[.int .i64 E.1,.bool false]) (by simp[results,results248,go_sem,F,G]) rfl (fp (a:=(E.1,false)) n ((au f).trans ((au g).trans ((au k).trans (au D)))) rfl p)
end
section
variable {b:Ad}{w:World}{c:St}
def BU{a:Ad}(e:eH a b){d:ByteArray}(f:Rd a d c w) :
  Calls prog 248 #[.pointer (some ⟨b.R,0,none⟩)] w (dD [b.S] a d w (nt d c) mW):=by
 have:=Lo f;rw[e.1,e.2.1]at this;exact this
def jS(a:ByteArray):PM (Int×Bool):=av (da a [91]) λc=>
 if c then av (hM a (dj 1 1000)) λb=>av (bV a [93]) λ_=>bT (b.1,true)else nt a
def Gb{J:ByteArray}(j:Rd b J c w) :
  Calls prog 247 #[.pointer (some ⟨b.R,0,none⟩)] w (dD [b.S] b J w (jS J c) mW):=by
 have a6:=j.lt.2.1;have n:w.heap.size ∉ [b.S]:=by simp;omega
 have K:=aK (w:=w) (o:=.cells #[.int .i64 0,.bool false] 375) rfl;have N:=j.ax (.cells #[.int .i64 0,.bool false] 375);have y:=(ah [b.S] w).G (.cells #[.int .i64 0,.bool false] 375);go_in;go_wp2_with fail;refine(mT (eI b _) _ N).mono ?_;rintro i a7 ⟨z,⟨a5,b1,g,rfl,D⟩|⟨r,g,q,e,rfl,f⟩⟩;rotate_left
 .exact aq (er (y.u z) y (bl g) e f)
 have l:=(z.K _ (aj K) n).trans K;have k:=y.u z;cases a5 with
 |false=>
  go_wp2_with fail;refine(BU (eI b _) D).mono ?_;rintro i a4 ⟨A,⟨d,b2,F,rfl,E⟩|⟨r,F,q,e,rfl,f⟩⟩;rotate_left
  .exact aq (er (k.u A) k ((au g).trans F) e f)
  have h:=k.u A;have m:=(A.K _ (aj l) n).trans l;obtain⟨H,I,a1⟩:=kD m;dsimp only[mW];go_wp2;obtain⟨s,t⟩:=sZ j h E (.int .i64 d.1) (.bool d.2);exact bodyPost_ret (v:=.agg #[.int .i64 d.1,.bool d.2]) (by simp[results,results247,go_sem,H,I]) rfl (fp (a:=d) s ((au g).trans F) rfl t)
 |true=>
  go_wp2_with fail;refine(qB _ _ _).mono ?_;rintro i a4 ⟨v,rfl,x,P⟩;have a0:=P (b.a8 w.heap.size).X D.bh;have E:=D.aA x;have h:=k.u (bt [b.S] x);have m:=(x.block _ (aj l)).trans l;go_wp2_with fail;refine(zk (eI b _) E a0).mono ?_;rintro i a8 ⟨B,⟨d,b3,p,rfl,a2⟩|⟨r,p,q,e,rfl,f⟩⟩;rotate_left
  .exact aq (er (h.u B) h ((au g).trans (bl p)) e f)
  have u:=h.u B;have L:=(B.K _ (aj m) n).trans m;dsimp only[vG];go_wp2_with fail;refine(fh (eI b _) _ a2).mono ?_;rintro i a9 ⟨C,⟨b0,b4,G,rfl,a3⟩|⟨r,G,q,e,rfl,f⟩⟩;rotate_left
  .exact aq (er (u.u C) u ((au g).trans ((au p).trans (bl G))) e f)
  have M:=u.u C;have O:=(C.K _ (aj L) n).trans L;obtain⟨H,I,a1⟩:=kD O;go_wp2;obtain⟨s,t⟩:=sZ j M a3 (.int .i64 d.1) (.bool true);exact bodyPost_ret (v:=.agg #[.int .i64 d.1,.bool true]) (by simp[results,results247,go_sem,H,I]) rfl (fp (a:=(d.1,true)) s ((au g).trans ((au p).trans (au G))) rfl t)
def lH(a:ByteArray):PM Ty:=av (da a [118,111,105,100]) λb=>if b then bT .void else kl a
def OW{i:ByteArray}(p:Rd b i c w) :
  Calls prog 269 #[.pointer (some ⟨b.R,0,none⟩)] w (dD [b.S] b i w (lH i c) bX):=by
 have l:=Z (sG ⟨#[118,111,105,100]⟩ p);go_in;go_wp2_with fail;refine l.j.mono ?_;rintro n t ⟨d,⟨r,v,e,rfl,k⟩|⟨o,e,m,f,rfl,g⟩⟩;rotate_left
 .exact aq (er d (ah [] _) (bl e) f g)
 cases r with
 |true=>
  go_wp2;go_ret;exact fp (a:=.void) d ((au e).trans rfl) rfl k
 |false=>
  go_wp2_with fail;refine(DZ k).mono ?_;rintro n u ⟨j,⟨s,x,h,rfl,q⟩|⟨o,h,m,f,rfl,g⟩⟩;rotate_left
  .exact aq (er (d.u j) d ((au e).trans h) f g)
  go_wp2;go_ret;exact fp (d.u j) ((au e).trans h) rfl q
end
end Go.Proofs.YtjdhaegijjednaaGreatDoor
namespace Go.Proofs.YtjdhaegijjednaaGreatDoor
open Go.RowKit
open Go.MapKept
open Go.Proofs.Tryz
abbrev dn(a:World)(b:Nat)(c:Obj):World:={ a with heap:=a.heap.setIfInBounds b c }
def gY(b:World)(a:Nat)(d:Obj):ai [a] b (dn b a d):=by
 refine⟨rfl,rfl,rfl,by simp[dn],λf _ c=>?_⟩;simp at c;show (b.heap.setIfInBounds a d)[f]? = _;rw[Array.getElem?_setIfInBounds_ne (λe=>c e.symm)]
def kh{c:World}{a:Nat}(d:a<c.heap.size)(b:Obj):(dn c a b).heap[a]? = some b:=by
 show (c.heap.setIfInBounds a b)[a]? = _;simp[d]
def BZ(a:List (List UInt8×Value))(b:List UInt8)(v:Value) :
  pZ (a++[(b,v)])=.map ((a.mapIdx λd c=>(⟨.string ⟨c.1.toArray⟩,c.2,d⟩:MapEntry)).toArray.push ⟨.string ⟨b.toArray⟩,v,a.length⟩) (a.length+1):=by
 simp[pZ,List.mapIdx_append]
def fN.cv{h:List Nat}{c:Nat}{a:List (List UInt8×Option ao)}{g:World}(w:fN h c a g)(z:c∈h){k:List UInt8}(p:az a k=none) :
  ∃t,(Instr.mapUpdate 148 (.map (some c)) (.string ⟨k.toArray⟩) .nilIface).run prog g=.ok () (dn g c t)/\fN h c (a++[(k,none)]) (dn g c t):=by
 obtain⟨s,v,u,x,l,m,y⟩:=w;have C:=aj m;have q:∀b∈a,b.1≠k:=by
  intro b j e;rw[xS s j e]at p;cases p
 have B:=rK (a.zip u |>.map λb=>(b.1.1,b.2));have D:=vL (P:=prog) (T:=148) (kt:=9) (et:=157) (d:=.string) (by kernel_rfl) (by kernel_rfl) (k:=.string ⟨k.toArray⟩) trivial m (by simpa using B) (by
  intro H r e;simp only[List.toList_toArray]at r;obtain⟨f,i,rfl⟩:=List.mem_mapIdx.1 r;simp at e i;exact q _ (Yy (by omega)) e) .nilIface
 refine⟨_,D,?_,v,u++[.nilIface],x.O (gY _ _ _) (by simpa using z),by simp[l],?_,?_⟩
 .simp only[List.map_append,List.map_cons,List.map_nil];rw[YJ];refine⟨s,by simp,?_⟩;intro E A F n e;simp at n;subst n;subst e;obtain⟨b,j,rfl⟩:=YE.1 A;exact q b j rfl
 .rw[kh C];rw[List.zip_append (by omega)];simp only[List.map_append,List.zip_cons_cons,List.zip_nil_left,List.map_cons,List.map_nil];rw[BZ]
 .intro f i G;by_cases o:f<a.length
  .rw[List.getElem_append_left o,List.getElem_append_left (by omega)];exact y f o (by omega)
  .simp at i;have:f=a.length:=by omega
   subst this;simp[jk,l.symm]
section
variable {c:Ad}{w:World}{d:St}
def gc(a:Mar.bi):PM Unit:=λd=>
 match az d.F a.text with
 |none=>.ok ((),{ d with F:=d.F++[(a.text,none)] })
 |some _=>.error ⟨6,a.w⟩
def Rd.lY{n:ByteArray}{m:List (List UInt8×Option ao)}{k:Obj}(a:Rd c n d w)(f:fN c.X c.N m (dn w c.N k)):Rd c n { d with F:=m } (dn w c.N k):=by
 obtain⟨z,A,J,B⟩:=a.lt;obtain⟨L,D,M,E,O,F⟩:=a.cq;have e:=gY w c.N k;obtain⟨I,H,t⟩:=a.nm.ff;refine⟨(e.K _ z (by simp[D])).trans a.me,?_,f,a.aI,λo x=>Yr (a.bh o x) e.a2,(e.K _ B (by simp;exact λh=>F h.symm)).trans a.pr,a.np,?_,a.e6,a.b0⟩
 .obtain⟨u,b⟩:=a.sc;have l:=e.K _ A (by simp[E]);refine⟨u,?_⟩;cases f:d.nx with
  |some o=>rw[f]at b;exact l.trans b
  |none=>rw[f]at b;obtain⟨y,G,C,p,b⟩:=b;exact⟨y,G,C,p,l.trans b⟩
 .have i:∀g v,w.cell? ⟨g,0,none⟩=some v->g≠c.N:=by
   intro g v j h;subst h;unfold World.cell? at j;rw[t]at j;cases j
  obtain⟨⟨K,q⟩,⟨_,_,r⟩,⟨_,_,s⟩⟩:=id a.gl;exact a.gl.O e (by simp[i _ _ q]) (by simp[i _ _ r]) (by simp[i _ _ s])
def QM{j:ByteArray}(b:Mar.bi)(e:Rd c j d w) :
  Calls prog 244 #[.map (some c.N),.string ⟨b.text.toArray⟩,.nilIface,.int .i64 b.w] w (dD [c.N] c j w (gc b d) oS):=by
 rcases vo e.nm b.text true with⟨g,i⟩|⟨m,v,n,g,q,p,i⟩
 .simp only[if_true]at i
  obtain⟨m,r,l⟩:=e.nm.cv e.aI.2.2.1 g;have k:=Z (e.lY l);have h:U (gc b d=.ok ((),{ d with F:=d.F++[(b.text,none)] })):=by show _=_;simp only[gc,g]
  go_in;go_wp2;go_end0;exact fp (a:=()) (gY _ _ _) h.j rfl k.j
 .simp only[if_true]at i
  have h:U (gc b d=.error ⟨6,b.w⟩):=by show _=_;simp only[gc,g]
  go_in;go_wp2_with (go_at_call 70;refine(gO _ _ _).mono ?_;rintro o s ⟨rfl,rfl⟩);exact aq (er (M':=[]) (w1:=w) (f:=⟨6,b.w⟩) ((ah _ _).G _) (ah _ _) h.j (Y4 _) (aK rfl))
def ai.dp{c:List Nat}{e:World}(g:ai c w e){b d:Nat}{v:Value}(f:b ∉ c)(a:w.cell? ⟨b,d,none⟩=some v):e.cell? ⟨b,d,none⟩=some v:=by
 have:=g.K b (lq a) f;unfold World.cell? at a ⊢;rw[this];exact a
def Hn{k:ByteArray}(b:Mar.bi)(i:Rd c k d w) :
  Calls prog 186 #[.pointer (some ⟨c.R,0,none⟩),cr b] w (dD [c.N] c k w (gc b d) oS):=by
 obtain⟨L,A,M,O,P,a1⟩:=i.am;have a2:=i.lt.1;have a3:=i.lt.2.2.1;have B:=i.cq.2.1;have H:=((ah [c.N] w).G (.cells #[.int .i64 b.H,.string ⟨b.text.toArray⟩,.int .i64 b.n,.int .i64 b.w] 154)).a9;have r:=Z (QM b (i.aA (((Below.refl w.heap.size w).alloc (Y4 _) (.cells #[.int .i64 b.H,.string ⟨b.text.toArray⟩,.int .i64 b.n,.int .i64 b.w] 154)).drew)));have D:=aK (w:=w) (o:=.cells #[.int .i64 b.H,.string ⟨b.text.toArray⟩,.int .i64 b.n,.int .i64 b.w] 154) rfl;obtain⟨a8,J,a9,K,_⟩:=iK D;have I:(w.alloc (.cells #[.int .i64 b.H,.string ⟨b.text.toArray⟩,.int .i64 b.n,.int .i64 b.w] 154)).cell? ⟨c.R,1,none⟩=some (.map (some c.N)):=ri ((Below.refl w.heap.size w).alloc (Y4 _) _) rfl A;have y:=Z J;have z:=Z K;have x:=Z I;have m:=Z H;have hZ:∀(g:Mar.a5) (e:Nat) (h:World),gc b d=.error g->w.heap.size+1<=e->ai [c.N] w h->h.heap[e]? = some (.cells #[.int .i64 g.no,.int .i64 g.w] 179)->
   dD [c.N] c k w (gc b d) oS (.panicked [{ v:=.iface 143 (.pointer (some ⟨e,0,none⟩)),recovered:=false }]) h:=by
  intro g e h G a0 f E;exact er (M':=[]) (w1:=w) f (ah _ _) G (by omega) E
 have q:=Z hZ;dsimp only[cr];go_in;go_wp2;go_region_held2 (λl=>l.cell? ⟨c.R,1,none⟩=some (.map (some c.N))/\l.cell? ⟨w.heap.size,1,none⟩=some (.string ⟨b.text.toArray⟩)/\l.cell? ⟨w.heap.size,3,none⟩=some (.int .i64 b.w)) (go_keep)
  (first|(go_at_call 244;refine r.j.mono ?_;rintro S h ⟨f,⟨a7,b0,j,rfl,p⟩|⟨g,j,e,C,rfl,F⟩⟩;rotate_left;exact aq (q.j g e h j (by simpa using C) (m.j.u f) F);have a4:=f.dp (by simpa using B) x.j;have a5:=f.dp (b:=w.heap.size) (by simp;omega) y.j;have a6:=f.dp (b:=w.heap.size) (by simp;omega) z.j;have s:=Z f;have u:=Z j;have t:=Z p;clear f j p))
 go_wp2;go_end0;exact fp (a:=()) (m.j.u s.j) u.j rfl t.j
end
section
variable {a:List (List UInt8)}{c:Nat}{b:World}
def dq(c:Nat)(a:List (List UInt8))(b:World):Prop:=a.Nodup/\∃d:List Value,d.length=a.length/\b.heap[c]? = some (pZ (a.zip d))
def dq.O{f:World}{d:List Nat}(g:dq c a b)(i:ai d b f)(j:c ∉ d):dq c a f:=by
 obtain⟨k,l,h,e⟩:=g;exact⟨k,l,h,(i.K _ (aj e) j).trans e⟩
def dq.lt(d:dq c a b):c<b.heap.size:=by
 obtain⟨g,h,f,e⟩:=d;exact aj e
def yN(n:dq c a b)(k:List UInt8) :
  (k ∉ a/\(Instr.lookup 103 (.map (some c)) (.string ⟨k.toArray⟩) true).run prog b=.ok (.tuple #[.int .i64 0,.bool false]) b)\/
  (∃v,k∈a/\(Instr.lookup 103 (.map (some c)) (.string ⟨k.toArray⟩) true).run prog b=.ok (.tuple #[v,.bool true]) b):=by
 obtain⟨z,g,u,o⟩:=n;have p:=rK (a.zip g);have s:(zeroValue 3).run prog b=.ok (.int .i64 0) b:=by kernel_rfl
 rcases tp (P:=prog) (T:=103) (kt:=9) (et:=3) (d:=.string) (by kernel_rfl) (by kernel_rfl) (k:=.string ⟨k.toArray⟩) trivial o (by simpa using p) s true with⟨e,h⟩|⟨i,t,e,h,l⟩
 .refine Y8 ⟨?_,by simpa using h⟩;intro q;obtain⟨f,w,rfl⟩:=List.getElem_of_mem q;have x:f<g.length:=by omega
  have r:(⟨.string ⟨a[f].toArray⟩,g[f],f⟩:MapEntry)∈((a.zip g).mapIdx λf m=>(⟨.string ⟨m.1.toArray⟩,m.2,f⟩:MapEntry)).toArray.toList:=by
   simp only[List.toList_toArray];rw[List.mem_mapIdx];exact⟨f,by simp;omega,by simp⟩
  exact e _ r rfl
 .simp only[List.toList_toArray,List.getElem?_mapIdx]at e;have j:i<a.length:=by
   by_cases j:i<a.length
   .exact j
   .rw[YA (by simp;omega)]at e;cases e
  have y:i<g.length:=by omega
  rw[Yd (by simp;omega)]at e;simp at e;subst e;simp at h l;exact Ya ⟨g[i],by rw[<-h];exact Yy j,l⟩
def dq.cv(m:dq c a b){k:List UInt8}(h:k ∉ a)(v:Value) :
  ∃j,(Instr.mapUpdate 103 (.map (some c)) (.string ⟨k.toArray⟩) v).run prog b=.ok () (dn b c j)/\dq c (a++[k]) (dn b c j):=by
 obtain⟨t,l,n,f⟩:=m;have r:=aj f;have p:=rK (a.zip l);have s:=vL (P:=prog) (T:=103) (kt:=9) (et:=3) (d:=.string) (by kernel_rfl) (by kernel_rfl) (k:=.string ⟨k.toArray⟩) trivial f (by simpa using p) (by
  intro y i e;simp only[List.toList_toArray]at i;obtain⟨x,q,rfl⟩:=List.mem_mapIdx.1 i;simp at e q;exact h (by rw[<-e];exact Yy (by omega))) v
 refine⟨_,s,?_,l++[v],by simp[n],?_⟩
 .rw[YJ];refine⟨t,by simp,?_⟩;intro u o w g e;simp at g;subst g;subst e;exact h o
 .rw[kh r];rw[List.zip_append (by omega)];simp only[List.zip_cons_cons,List.zip_nil_left];rw[BZ]
def lh(b:Mar.bi)(a:List (List UInt8)):Except Mar.a5 (List (List UInt8)):=if a.contains b.text then .error ⟨6,b.w⟩else .ok (a++[b.text])
def QN(d:Mar.bi)(j:dq c a b) :
  Calls prog 252 #[.map (some c),.string ⟨d.text.toArray⟩,.int .i64 d.w,.int .i64 d.w] b λh f=>ai [c] b f /\
   ((∃k,lh d a=.ok k/\h=.returned (.tuple #[])/\dq c k f)\/(∃i,lh d a=.error i/\fg b i.no i.w h f)):=by
 rcases yN j d.text with⟨e,n⟩|⟨v,e,n⟩
 .obtain⟨p,o,m⟩:=j.cv e (.int .i64 d.w);have l:=Z m;have g:U (lh d a=.ok (a++[d.text])):=by show _=_;rw[lh,Y2 (by simpa using e)]
  go_in;go_wp2;go_end0;exact⟨gY _ _ _,Y8 ⟨_,g.j,rfl,l.j⟩⟩
 .have g:U (lh d a=.error ⟨6,d.w⟩):=by show _=_;rw[lh,Y9 (by simpa using e)]
  go_in;go_wp2_with (go_at_call 70;refine(gO _ _ _).mono ?_;rintro h f ⟨rfl,rfl⟩);exact aq ⟨(ah _ _).G _,Ya ⟨⟨6,d.w⟩,g.j,b.heap.size,Y4 _,rfl,aK rfl⟩⟩
def FG{j:Nat}(f:Mar.bi)(n:dq c a b)(o:b.cell? ⟨j,0,none⟩=some (.map (some c))) :
  Calls prog 251 #[cr f,.pointer (some ⟨j,0,none⟩)] b λg i=>ai [c] b i /\
   ((∃e,lh f a=.ok e/\g=.returned (.tuple #[])/\dq c e i)\/(∃d,lh f a=.error d/\fg b d.no d.w g i)):=by
 have t:=lq o;have l:=Z (λs=>QN f (n.O (bt [] ((Below.refl b.heap.size b).alloc (Y4 _) s)) (by simp)));dsimp only[cr];go_in;go_wp2_with (go_at_call 252;refine(l.j _).mono ?_;rintro g u ⟨k,⟨e,h,rfl,r⟩|⟨d,h,m,p,rfl,q⟩⟩)
 .go_end0;exact⟨((ah _ _).G _).u k,Y8 ⟨e,h,rfl,r⟩⟩
 .exact aq ⟨((ah _ _).G _).u k,Ya ⟨d,h,m,by simp at p;omega,rfl,q⟩⟩
end
section
variable {m:Ad}{l:List Nat}{f:Mar.a5}{b:List (Int×Int)}{e:Nat}{c h:World}{g n τ:Type}{i j:St}
def cO(e:Nat)(b:List (Int×Int))(c:World):Prop:=c.heap[e]? = some (vD b)
def cO.O(a:cO e b c)(d:ai l c h)(f:e ∉ l):cO e b h:=(d.K _ (aj a) f).trans a
def Cq(b:List (Int×Int)):∀d∈(b.mapIdx λa c=>(⟨.int .i64 c.1,.int .i64 c.2,a⟩:MapEntry)),IsKey (.int .i64) d.key:=by
 intro d e;obtain⟨a,f,rfl⟩:=List.mem_mapIdx.1 e;exact rfl
def Me(m:cO e b c)(k:Int) :
  (k ∉ b.map (·.1)/\(Instr.lookup 149 (.map (some e)) (.int .i64 k) true).run prog c=.ok (.tuple #[.int .i64 0,.bool false]) c)\/
  (∃v,k∈b.map (·.1)/\(Instr.lookup 149 (.map (some e)) (.int .i64 k) true).run prog c=.ok (.tuple #[v,.bool true]) c):=by
 have n:=Cq b;have s:(zeroValue 3).run prog c=.ok (.int .i64 0) c:=by kernel_rfl
 rcases tp (P:=prog) (T:=149) (kt:=2) (et:=3) (d:=.int .i64) (by kernel_rfl) (by kernel_rfl) (k:=.int .i64 k) rfl m (by simpa using n) s true with⟨a,g⟩|⟨i,t,a,g,l⟩
 .refine Y8 ⟨?_,by simpa using g⟩;intro p;obtain⟨j,r,rfl⟩:=YE.1 p;obtain⟨f,o,rfl⟩:=List.getElem_of_mem r;have q:(⟨.int .i64 b[f].1,.int .i64 b[f].2,f⟩:MapEntry)∈(b.mapIdx λf j=>(⟨.int .i64 j.1,.int .i64 j.2,f⟩:MapEntry)).toArray.toList:=by
   simp only[List.toList_toArray];rw[List.mem_mapIdx];exact⟨f,o,rfl⟩
  exact a _ q rfl
 .simp only[List.toList_toArray,List.getElem?_mapIdx]at a;have h:i<b.length:=by
   by_cases h:i<b.length
   .exact h
   .rw[YA (by omega)]at a;cases a
  rw[Yd h]at a;simp at a;subst a;simp at g l;exact Ya ⟨.int .i64 b[i].2,YE.2 ⟨b[i],Yy h,g⟩,l⟩
def cO.cv(f:cO e b c){k:Int}(m:k ∉ b.map (·.1))(v:Int) :
  ∃h,(Instr.mapUpdate 149 (.map (some e)) (.int .i64 k) (.int .i64 v)).run prog c=.ok () (dn c e h)/\cO e (b++[(k,v)]) (dn c e h):=by
 have l:=aj f;have i:=Cq b;have n:=vL (P:=prog) (T:=149) (kt:=2) (et:=3) (d:=.int .i64) (by kernel_rfl) (by kernel_rfl) (k:=.int .i64 k) rfl f (by simpa using i) (by
  intro p g a;simp only[List.toList_toArray]at g;obtain⟨o,j,rfl⟩:=List.mem_mapIdx.1 g;simp at a;exact m (YE.2 ⟨b[o],Yy j,a⟩)) (.int .i64 v)
 refine⟨_,n,?_⟩;unfold cO;rw[kh l];simp[vD,List.mapIdx_append]
def kE(a c:Int)(b:List (Int×Int))(f:Mar.a5):Except Mar.a5 (List (Int×Int)):=if(b.map (·.1)).contains a then .error f else .ok (b++[(a,c)])
def DN(d:Int)(a:Nat)(l:cO e b c) :
  Calls prog 268 #[.map (some e),.int .i64 d,.int .i64 a,.int .i64 a] c λj h=>ai [e] c h /\
   ((∃m k,kE d a b ⟨6,a⟩=.ok m/\j=.returned (.tuple #[])/\h=dn c e k/\cO e m h)\/(∃f,kE d a b ⟨6,a⟩=.error f/\fg c f.no f.w j h)):=by
 rcases Me l d with⟨g,p⟩|⟨v,g,p⟩
 .obtain⟨k,q,o⟩:=l.cv g a;have n:=Z o;have i:U (kE d a b ⟨6,a⟩=.ok (b++[(d,(a:Int))])):=by show _=_;rw[kE,Y2 (by simpa using g)]
  go_in;go_wp2;go_end0;exact⟨gY _ _ _,Y8 ⟨_,k,i.j,rfl,rfl,n.j⟩⟩
 .have i:U (kE d a b ⟨6,a⟩=.error ⟨6,a⟩):=by show _=_;rw[kE,Y9 (by simpa using g)]
  go_in;go_wp2_with (go_at_call 70;refine(gO _ _ _).mono ?_;rintro j h ⟨rfl,rfl⟩);exact aq ⟨(ah _ _).G _,Ya ⟨⟨6,a⟩,i.j,c.heap.size,Y4 _,rfl,aK rfl⟩⟩
def jl(l:List Nat)(m:Ad)(n:ByteArray)(c:World)(d:Except Mar.a5 (g×τ×St))(k:g->Value)(i:τ->World->Prop)(b:Ending)(h:World):Prop:=
 ai l c h/\((∃a e j,d=.ok (a,e,j)/\b=.returned (k a)/\Rd m n j h/\i e h)\/(∃f,d=.error f/\fg c f.no f.w b h))
abbrev PX(τ g:Type):=τ->St->Except Mar.a5 (g×τ×St)
def lift(b:PM g):PX τ g:=λc i=>match b i with
 |.ok (a,j)=>.ok (a,c,j)
 |.error f=>.error f
def aw(c:PX τ g)(b:g->PX τ n):PX τ n:=λd i=>match c d i with
 |.ok (a,e,j)=>b a e j
 |.error f=>.error f
def cH(a:g):PX τ g:=λb i=>.ok (a,b,i)
def lI(a:τ->Except Mar.a5 τ):PX τ Unit:=λb i=>match a b with
 |.ok c=>.ok ((),c,i)
 |.error f=>.error f
def aX{b:PM g}{c:τ}{a:g}(d:b i=.ok (a,j)):lift b c i=.ok (a,c,j):=by simp only[lift,d]
def cj{a:PM g}{c:τ}(b:a i=.error f):lift a c i=.error f:=by simp only[lift,b]
def aF{c:PX τ g}{b:g->PX τ n}{d e:τ}{a:g}(f:c d i=.ok (a,e,j)):aw c b d i=b a e j:=by simp only[aw,f]
def bm{a:PX τ g}{d:g->PX τ n}{b:τ}(c:a b i=.error f):aw a d b i=.error f:=by simp only[aw,c]
def rT{a:τ->Except Mar.a5 τ}{b c:τ}(d:a b=.ok c):lI a b i=.ok ((),c,i):=by simp only[lI,d]
def rS{a:τ->Except Mar.a5 τ}{b:τ}(c:a b=.error f):lI a b i=.error f:=by simp only[lI,c]
def fU(c:ByteArray)(a:Int->Bool):PX (List (Int×Int)) Int:=aw (lift (hM c a)) λe=>aw (lI λb=>kE e.1 e.2 b ⟨6,e.2⟩) λ_=>cH e.1
def kY{f:ByteArray}{e:Except Mar.a5 (g×τ×St)}{d:g->Value}{b:τ->World->Prop}{a:g}{t:τ}{v:Value}
  (n:ai l c h) (o:e=.ok (a,t,j)) (p:v=d a) (i:Rd m f j h) (k:b t h):jl l m f c e d b (.returned v) h:=⟨n,Y8 ⟨a,t,j,o,by rw[p],i,k⟩⟩
def fw{M':List Nat}{p:ByteArray}{w1:World}{b:Except Mar.a5 (g×τ×St)}{e:g->Value}{d:τ->World->Prop}{a:Nat}
  (k:ai l c h) (n:ai M' c w1) (o:b=.error f) (i:w1.heap.size<=a) (j:h.heap[a]? = some (.cells #[.int .i64 f.no,.int .i64 f.w] 179)) :
  jl l m p c b e d (.panicked [{ v:=.iface 143 (.pointer (some ⟨a,0,none⟩)),recovered:=false }]) h:=
 ⟨k,Ya ⟨f,o,a,Yz n.a2 i,rfl,j⟩⟩
end
section
variable {b:Ad}{f:List (Int×Int)}{g:Int->Bool}{c:Nat}{d:World}{e:St}
def cU(b:Ad)(c:Nat):Prop:=c∈b.X/\c≠b.R/\c≠b.S/\c≠b.N/\c≠b.P
def Rd.k7{j:ByteArray}{k:World}{m:Array MapEntry}{l:Nat}(i:Rd b j e d)(q:ai [c] d k)(s:cU b c)(r:d.heap[c]? = some (.map m l)):Rd b j e k:=by
 obtain⟨t,u,w,x,y⟩:=s;have g:∀f v,d.cell? ⟨f,0,none⟩=some v->f≠c:=by
  intro f v h a;subst a;unfold World.cell? at h;rw[r]at h;cases h
 obtain⟨⟨z,n⟩,⟨_,_,o⟩,⟨_,_,p⟩⟩:=id i.gl;exact i.O q (by simpa using t) (by simp;exact λa=>u a.symm) (by simp;exact λa=>w a.symm) (by simp;exact λa=>x a.symm) (by simp;exact λa=>y a.symm) (by simp[g _ _ n]) (by simp[g _ _ o]) (by simp[g _ _ p])
def Eg{a:ByteArray}{v:Value}(f:Rd b a e d)(h:gA b.X v g d) :
  Calls prog 188 #[.pointer (some ⟨b.R,0,none⟩),v] d (dD [b.S] b a d (hM a g e) λc=>.tuple #[.int .i64 c.1,.int .i64 c.2]):=Ef f h
def Cj{o:ByteArray}{v:Value}(z:Rd b o e d)(A:gA b.X v g d)(q:cU b c)(B:cO c f d) :
  Calls prog 250 #[.pointer (some ⟨b.R,0,none⟩),.map (some c),v] d (jl [b.S,c] b o d (fU o g f e) ia (cO c)):=by
 have r:=Z (Eg z A);have D:c ∉ [b.S]:=by simp;exact q.2.2.1
 go_in;go_wp2_with fail;refine r.j.mono ?_;rintro x I ⟨l,⟨F,K,h,rfl,E⟩|⟨y,h,w,j,rfl,k⟩⟩;rotate_left
 .exact aq (fw (l.af (by simp)) (ah [] _) (bm (cj h)) j k)
 have p:=B.O l D;have i:=Z (l.af (M':=[b.S,c]) (by simp));go_wp2_with fail;refine(DN _ _ p).mono ?_;rintro x J ⟨m,⟨G,H,n,rfl,rfl,C⟩|⟨y,n,w,j,rfl,k⟩⟩;rotate_left
 .exact aq (fw (i.j.u (m.af (by simp))) i.j ((aF (aX h)).trans (bm (rS n))) j k)
 have u:=Z (E.k7 m q p);have s:=Z (i.j.u (m.af (M':=[b.S,c]) (by simp)));have t:=Z C;go_wp2;go_ret;exact kY (a:=F.1) s.j ((aF (aX h)).trans (aF (rT n))) rfl u.j t.j
def mg(a:ByteArray):PX (List (Int×Int)) Int:=aw (lift (bV a [61])) λ_=>aw (fU a (dj 0 4294967295)) λb=>aw (lift (bV a [59])) λ_=>cH b
def HA{r:ByteArray}(z:Rd b r e d)(w:cU b c)(D:cO c f d) :
  Calls prog 204 #[.pointer (some ⟨b.R,0,none⟩),.map (some c)] d (jl [b.S,c] b r d (mg r f e) ia (cO c)):=by
 have x:c ∉ [b.S]:=by simp;exact w.2.2.1
 go_in;go_wp2_with fail;refine(rr _ z).mono ?_;rintro k M ⟨o,⟨a0,a2,i,rfl,y⟩|⟨t,i,s,g,rfl,h⟩⟩;rotate_left
 .exact aq (fw (o.af (by simp)) (ah [] _) (bm (cj i)) g h)
 have E:=D.O o x;have A:=o.af (M':=[b.S,c]) (by simp);go_wp2_with fail;refine(qB _ _ _).mono ?_;rintro k N ⟨v,rfl,n,C⟩;have B:=C b.X y.bh;have H:=y.aA n;have F:=E.O (bt [] n) (by simp);have l:=A.u (bt _ n);go_wp2_with fail;refine(Cj H B w F).mono ?_;rintro k O ⟨u,⟨K,L,a3,j,rfl,I,G⟩|⟨t,j,s,g,rfl,h⟩⟩;rotate_left
 .exact aq (fw (l.u u) l ((aF (aX i)).trans (bm j)) g h)
 have m:=l.u u;dsimp only[ia];go_wp2_with fail;refine(rr _ I).mono ?_;rintro k P ⟨p,⟨a1,a4,q,rfl,J⟩|⟨t,q,s,g,rfl,h⟩⟩;rotate_left
 .exact aq (fw (m.u (p.af (by simp))) m ((aF (aX i)).trans ((aF j).trans (bm (cj q)))) g h)
 go_wp2;go_ret;exact kY (a:=K) (m.u (p.af (by simp))) ((aF (aX i)).trans ((aF j).trans (aF (aX q)))) rfl J (G.O p x)
end
section
variable {c:Ad}{w:World}{d:St}{τ:Type}
structure cN(τ:Type) where
 f:Nat
 f2:Array Value
 f1:Array Value
 M:List Nat
 bs:List (Nat×Obj)
 I:τ->World->Prop
 ba:Mar.bi->PX τ Unit
def cN.v(a:cN τ):Value:=.func (.func a.f) a.f2 a.f1
structure io{τ:Type}(C:cN τ)(c:Ad)(text:ByteArray):Prop where
 gD:∀args W,(callFunc C.f args).run prog W=.ok (.enter C.f args) W
 dl:∀{t:τ} {w w':World} {M':List Nat},C.I t w->ai M' w w'->(∀m∈M',m ∉ C.M)->C.I t w'
 h2:c.S ∉ C.M
 g9:∀m∈C.M,m∈c.X
 call:∀{A':Ad} {d:St} {t:τ} {W:World} (x:Mar.bi),eH A' c->(∀b∈c.X,b∈A'.X)->Rd A' text d W->C.I t W->bn c.X C.bs W->
  Calls prog C.f (C.f2.push (cr x)++C.f1) W (jl C.M A' text W (C.ba x t d) oS C.I)
def wq{α:Type}(b a:Nat):PX τ α:=λ_ _=>.error ⟨b,a⟩
def name(c:ByteArray)(b:cN τ):PX τ (List UInt8×Nat):=aw (lift (next c)) λa=>if((a.H:Int)==1)then aw (b.ba a) λ_=>cH (a.text,a.w)else wq 3 a.w
abbrev fT:List UInt8×Nat->Value:=λa=>.agg #[.string ⟨a.1.toArray⟩,.int .i64 a.2]
def LS{a:Ad}(f:eH a c){b:ByteArray}(e:Rd a b d w) :
  Calls prog 118 #[.pointer (some ⟨c.S,0,none⟩)] w (dD [c.S] a b w (next b d) cr):=by
 have:=qf e;rw[f.2.1]at this;exact this
def yj{C:cN τ}{s:ByteArray}{t:τ}(e:io C c s)(h:Rd c s d w)(a9:C.I t w)(a6:bn c.X C.bs w) :
  Calls prog 185 #[.pointer (some ⟨c.R,0,none⟩),C.v] w (jl (c.S::C.M) c s w (name s C t d) fT C.I):=by
 obtain⟨c7,c8,c9,d0,d1,d3⟩:=h.am;have d5:=h.lt.1;have d6:=h.lt.2.1;have b5:w.heap.size ∉ c.S::C.M:=by
  simp only[Yg,not_or];exact⟨by omega,λf=>by have:=h.bh _ (e.g9 _ f);omega⟩
 have b4:w.heap.size ∉ [c.S]:=by simp;omega
 have F:=aK (w:=w) (o:=.cells #[.string ⟨#[]⟩,.int .i64 0] 160) rfl;have a2:=h.ax (.cells #[.string ⟨#[]⟩,.int .i64 0] 160);have z:=(ah (c.S::C.M) w).G (.cells #[.string ⟨#[]⟩,.int .i64 0] 160);have b0:=e.dl a9 (bt [] ((Below.refl w.heap.size w).alloc (Y4 _) (.cells #[.string ⟨#[]⟩,.int .i64 0] 160))) (by simp);have a7:=a6.O (bt [] ((Below.refl w.heap.size w).alloc (Y4 _) (.cells #[.string ⟨#[]⟩,.int .i64 0] 160))) (by simp);have d2:=e.gD;show Calls prog 185 #[.pointer (some ⟨c.R,0,none⟩),.func (.func C.f) C.f2 C.f1] w _;go_in;go_wp2_with fail;refine(LS (eI c _) a2).mono ?_;rintro u g ⟨j,⟨b,e4,k,rfl,b6⟩|⟨E,k,D,x,rfl,y⟩⟩;rotate_left
 .exact aq (fw (z.u (j.af (by simp))) z (bm (cj k)) x y)
 have G:=(j.K _ (aj F) b4).trans F;have i:=z.u (j.af (M':=c.S::C.M) (by simp));have b1:=e.dl b0 j (by simp;exact e.h2);have a8:=a7.O j (by simp;exact h.aI.2.1);dsimp only[cr];go_wp2_with (first|(go_at_call 70;refine(gO _ _ _).mono ?_;rintro u d8 ⟨rfl,rfl⟩))
 .have q:((b.H:Int)==1)=false:=by simpa[bne]using ‹((b.H:Int) != 1)=true›
  refine aq (fw (M':=c.S::C.M) (w1:=g) (f:=⟨3,b.w⟩) ((i.G _).G _) i ((aF (aX k)).trans ?_) (by omega) (aK (by simp)));rw[q];rfl
 .have q:((b.H:Int)==1)=true:=by simpa[bne]using ‹((b.H:Int) != 1)=false›
  have m:=(Below.refl g.heap.size g).alloc (Y4 _) (.cells #[.int .i64 b.H,.string ⟨b.text.toArray⟩,.int .i64 b.n,.int .i64 b.w] 154);have H:=aK (w:=g) (o:=.cells #[.int .i64 b.H,.string ⟨b.text.toArray⟩,.int .i64 b.n,.int .i64 b.w] 154) rfl;have b9:w.heap.size<g.heap.size:=aj G;refine(e.call b (eI c _) (λD a3=>Y5 _ a3) (b6.aA m) (e.dl b1 (bt [] m) (by simp)) (a8.O (bt [] m) (by simp))).mono ?_;rintro u d9 ⟨r,⟨d7,c5,e5,A,rfl,b7,b2⟩|⟨E,A,D,x,rfl,y⟩⟩;rotate_left
  .refine aq (fw (M':=c.S::C.M) (w1:=g) ((i.G _).u (r.af (λc2 f=>Y5 _ f))) i ((aF (aX k)).trans ?_) (by simp at x;omega) y);rw[q];exact bm A
  have c1:g.heap.size ∉ C.M:=λf=>by have:=h.bh _ (e.g9 _ f);omega
  have J:w.heap.size ∉ C.M:=λf=>b5 (Y5 _ f);have c0:=(r.K _ (aj H) c1).trans H;have a4:=(r.K _ (by simp;omega) J).trans ((m.block _ b9).trans G);have a0:=(i.G (.cells #[.int .i64 b.H,.string ⟨b.text.toArray⟩,.int .i64 b.n,.int .i64 b.w] 154)).u (r.af (M':=c.S::C.M) (λc2 f=>Y5 _ f));obtain⟨e0,e1,e2,e3,_⟩:=iK c0;have L:=Z a0;have B:=Z a4;have K:=Z b2;have N:=Z b7;go_wp2_with fail;refine(zf b _).mono ?_;rintro u c6 ⟨rfl,l⟩;have a5:=(l.block _ (aj B.j)).trans B.j;obtain⟨c3,c4,d4⟩:=kD a5;have a1:=L.j.u (bt _ l);have b8:=N.j.aA l;have b3:=e.dl K.j (bt [] l) (by simp);go_wp2;obtain⟨O,P⟩:=sZ h a1 b8 (.string ⟨b.text.toArray⟩) (.int .i64 b.w);refine bodyPost_ret (v:=.agg #[.string ⟨b.text.toArray⟩,.int .i64 b.w]) (by simp[results,results185,go_sem,c3,c4]) rfl (kY (a:=(b.text,b.w)) (t:=c5) O ((aF (aX k)).trans ?_) rfl P ?_)
  .rw[q];exact aF A
  .exact e.dl b3 (((ah [w.heap.size] c6).a6 (p:=⟨w.heap.size,0,none⟩) (by simp) _).a6 (p:=⟨w.heap.size,1,none⟩) (by simp) _) (by simpa using J)
end
section
variable {c A':Ad}{j:Obj}{b:Nat}{g l w:World}{e n q:St}{τ:Type}
def io.a8{e:cN τ}{text:ByteArray}(a:io e c text)(b:Nat):io e (c.a8 b) text where
 gD:=a.gD
 dl:=a.dl
 h2:=a.h2
 g9:=λl j=>Y5 _ (a.g9 l j)
 call:=λm f g k i h=>a.call m f (λb d=>g b (Y5 _ d)) k i (h.cc λb d=>Y5 _ d)
structure jL{τ:Type}(C:cN τ)(c:Ad)(text:ByteArray)(w:World)(j:Obj)(t:τ)(e:St)(g:World):Prop where
 k:ai (c.S::C.M) w g
 r:Rd (c.a8 w.heap.size) text e g
 i:C.I t g
 h:bn (c.a8 w.heap.size).X C.bs g
 d:g.heap[w.heap.size]? = some j
def wF{a:cN τ}{b:ByteArray}{f:τ}(g:io a c b)(h:Rd c b e w)(m:a.I f w)(l:bn c.X a.bs w)(j:Obj) :
  jL a c b w j f e (w.alloc j) where
 k:=(ah _ w).G j
 r:=h.ax j
 i:=g.dl m (bt [] ((Below.refl w.heap.size w).alloc (Y4 _) j)) (by simp)
 h:=(l.a8 (Y4 _)).O (bt [] ((Below.refl w.heap.size w).alloc (Y4 _) j)) (by simp)
 d:=aK rfl
def jL.cm{m:cN τ}{b:ByteArray}{s:τ}(a:jL m c b w j s e g)(p:io m c b)(o:Rd c b q w)(f:ai [c.S] g l)(t:Rd (c.a8 w.heap.size) b n l) :
  jL m c b w j s n l where
 k:=a.k.u (f.af (by simp))
 r:=t
 i:=p.dl a.i f (by simp;exact p.h2)
 h:=a.h.O f (by simp;exact Y5 _ o.aI.2.1)
 d:=(f.K _ (aj a.d) (by have:=o.lt.2.1;simp;omega)).trans a.d
def jL.h0{f:cN τ}{m:ByteArray}{y u:τ}(o:jL f c m w j y e g)(t:io f c m)(p:Rd c m q w)(s:ai (c.S::f.M) g l)(x:Rd (c.a8 w.heap.size) m n l)(v:f.I u l) :
  jL f c m w j u n l where
 k:=o.k.u s
 r:=x
 i:=v
 h:=o.h.O s (λb a=>by
  rcases Yg.1 a with rfl|a
  .exact Y5 _ p.aI.2.1
  .exact Y5 _ (t.g9 b a))
 d:=(s.K _ (aj o.d) (λa=>by
  rcases Yg.1 a with z|a
  .have:=p.lt.2.1;omega
  .have:=p.bh _ (t.g9 _ a);omega)).trans o.d
def jL.aA{b:cN τ}{f:ByteArray}{n:τ}(m:jL b c f w j n e g)(o:io b c f)(a:Below g.heap.size g l):jL b c f w j n e l where
 k:=m.k.u (bt _ a)
 r:=m.r.aA a
 i:=o.dl m.i (bt [] a) (by simp)
 h:=m.h.O (bt [] a) (by simp)
 d:=(a.block _ (aj m.d)).trans m.d
def vl{a:cN τ}{d:ByteArray}{g:τ}(i:io a c d)(h:Rd (c.a8 b) d e w)(k:a.I g w)(j:bn (c.a8 b).X a.bs w) :
  Calls prog 185 #[.pointer (some ⟨c.R,0,none⟩),.func (.func a.f) a.f2 a.f1] w (jl (c.S::a.M) (c.a8 b) d w (name d a g e) fT a.I):=yj (i.a8 b) h k j
def wX(b:eH A' c){a:ByteArray}(d:Rd A' a e w) :
  Calls prog 247 #[.pointer (some ⟨c.R,0,none⟩)] w (dD [c.S] A' a w (jS a e) mW):=by
 have:=Gb d;rw[b.1,b.2.1]at this;exact this
def RB(b:eH A' c){a:ByteArray}(d:Rd A' a e w) :
  Calls prog 249 #[.pointer (some ⟨c.R,0,none⟩)] w (dD [c.S] A' a w (kl a e) bX):=by
 have:=DZ d;rw[b.1,b.2.1]at this;exact this
def vX(d:eH A' c){b:ByteArray}(a:ByteArray)(f:Rd A' b e w) :
  Calls prog 198 #[.pointer (some ⟨c.R,0,none⟩),.string a] w (dD [c.S] A' b w (gf b a.data.toList e) .bool):=by
 have:=CU a f;rw[d.1,d.2.1]at this;exact this
abbrev iT:aG->Value:=λa=>.agg #[.string ⟨a.t.toArray⟩,.int .i64 a.w,bX a.L]
def oo(c:ByteArray)(a:List UInt8×Nat)(d:Ty):PX τ aG:=aw (lift (jS c)) λb=>cH ⟨a.1,a.2,.arr d b.1 b.2⟩
def pG(c:ByteArray)(a:List UInt8×Nat)(b:Ty)(d:Bool):PX τ aG:=if d then oo c a b else cH ⟨a.1,a.2,b⟩
def pF(a:ByteArray)(b:List UInt8×Nat)(c:Ty)(d:Bool):PX τ aG:=if d then oo a b c else aw (lift (gf a [60])) (pG a b c)
def om(a:ByteArray)(c:Ty)(b:List UInt8×Nat):PX τ aG:=aw (lift (gf a [91])) (pF a b c)
def rl(a:ByteArray)(b:cN τ)(d:Ty)(e:Bool):PX τ aG:=if e then aw (name a b) λc=>cH ⟨c.1,c.2,.opt d⟩else aw (name a b) (om a d)
def pE(a:ByteArray)(b:cN τ)(c:Ty):PX τ aG:=aw (lift (da a [42])) (rl a b c)
def na(a:ByteArray)(b:cN τ)(e:Bool):PX τ aG:=
 if e then aw (name a b) λc=>aw (lift (nt a)) λd=>cH ⟨c.1,c.2,.str d.1 d.2⟩else aw (lift (kl a)) (pE a b)
def ol(a:ByteArray)(b:cN τ)(e:Bool):PX τ aG:=
 if e then aw (name a b) λc=>aw (lift (jS a)) λd=>cH ⟨c.1,c.2,.opaq d.1 d.2⟩else aw (lift (da a [115,116,114,105,110,103])) (na a b)
def dZ(a:ByteArray)(b:cN τ):PX τ aG:=aw (lift (da a [111,112,97,113,117,101])) (ol a b)
def ot{a:ByteArray}{e:List Nat}(f:Rd c a q w)(k:ai e w g)(l:Rd (c.a8 w.heap.size) a n g)(h i j:Value) :
  ai e w (((g.setCell ⟨w.heap.size,0,none⟩ h).setCell ⟨w.heap.size,1,none⟩ i).setCell ⟨w.heap.size,2,none⟩ j)/\Rd c a n (((g.setCell ⟨w.heap.size,0,none⟩ h).setCell ⟨w.heap.size,1,none⟩ i).setCell ⟨w.heap.size,2,none⟩ j):=by
 refine⟨((k.cy (Y4 _) _).cy (Y4 _) _).cy (Y4 _) _,pp (b:=w.heap.size) f.aI ?_⟩;have d:=λ{g:World} (m:Rd (c.a8 w.heap.size) a n g) (o:Nat) (v:Value)=>qT (A':=c.a8 w.heap.size) f ⟨rfl,rfl,rfl,rfl⟩ m (p:=⟨w.heap.size,o,none⟩) (Y4 _) (by simp[Ad.a8]) v;exact d (d (d l 0 _) 1 _) 2 _
def dT{c d a:Value}{e:TypeId}(f:w.heap[b]? = some (.cells #[c,d,a] e)) :
  w.cell? ⟨b,0,none⟩=some c/\w.cell? ⟨b,1,none⟩=some d/\w.cell? ⟨b,2,none⟩=some a/\∀g,w.frozen? ⟨b,g,none⟩=false:=by
 refine⟨?_,?_,?_,?_⟩<;>simp[World.cell?,World.frozen?,f]
def nI{a:cN τ}{i:ByteArray}{d:τ}(e:io a c i)(f:b ∉ a.M)(h:a.I d g)(j k l:Value) :
  a.I d (((g.setCell ⟨b,0,none⟩ j).setCell ⟨b,1,none⟩ k).setCell ⟨b,2,none⟩ l):=
 e.dl h ((((ah [b] g).a6 (p:=⟨b,0,none⟩) (by simp) _).a6 (p:=⟨b,1,none⟩) (by simp) _).a6 (p:=⟨b,2,none⟩) (by simp) _) (by simpa using f)
def As{C:cN τ}{j:ByteArray}{t:τ}(l:io C c j)(p:Rd c j e w)(g7:C.I t w)(g6:bn c.X C.bs w) :
  Calls prog 191 #[.pointer (some ⟨c.R,0,none⟩),.func (.func C.f) C.f2 C.f1] w (jl (c.S::C.M) c j w (dZ j C t e) iT C.I):=by
 have b7:w.heap.size ∉ C.M:=λg8=>by have:=p.bh _ (l.g9 _ g8);omega
 have d0:=wF l p g7 g6 (.cells #[.string ⟨#[]⟩,.int .i64 0,.nilIface] 242);go_in;go_wp2_with fail;refine(mT (eI c _) _ d0.r).mono ?_;rintro D h5 ⟨e8,⟨f9,h3,d8,rfl,g9⟩|⟨E,d8,b,m,rfl,n⟩⟩;rotate_left
 .exact aq (fw (d0.k.u (e8.af (by simp))) d0.k (bm (cj d8)) m n)
 have a3:=d0.cm l p e8 g9;have c5:U (dZ j C t e=ol j C f9 t h3):=aF (aX d8);cases f9 with
 |true=>
  go_wp2_with fail;refine(vl l a3.r a3.i a3.h).mono ?_;rintro D H ⟨c3,⟨f,f4,e4,b3,rfl,d6,b2⟩|⟨E,b3,b,m,rfl,n⟩⟩;rotate_left
  .exact aq (fw (a3.k.u c3) a3.k (c5.j.trans (bm b3)) m n)
  have B:=a3.h0 l p c3 d6 b2;have a8:U (dZ j C t e=aw (lift (jS j)) (λh=>cH ⟨f.1,f.2,.opaq h.1 h.2⟩) f4 e4):=c5.j.trans (aF b3);dsimp only[fT];go_wp2_with fail;have a4:=B.aA l (((Below.refl H.heap.size H).alloc (Y4 _) (.cells #[.string ⟨f.1.toArray⟩,.int .i64 f.2] 160)).drew);have d7:=aK (w:=H) (o:=.cells #[.string ⟨f.1.toArray⟩,.int .i64 f.2] 160) rfl;obtain⟨a6,a7,_⟩:=kD d7;have d4:=Z a6;have d5:=Z a7;have u:=Z a4;have e7:c.S<H.heap.size:=by have:=p.lt.2.1;have:=B.k.a2;omega
  have f3:w.heap.size<H.heap.size:=aj B.d;have f1:¬w.heap.size=H.heap.size:=by omega
  have f2:¬H.heap.size=w.heap.size:=by omega
  have J:=Z l;have a9:=Z p;go_region_held2 (λa1=>a1.cell? ⟨H.heap.size,0,none⟩=some (.string ⟨f.1.toArray⟩)/\a1.cell? ⟨H.heap.size,1,none⟩=some (.int .i64 f.2)) (go_keep)
   (first|(go_at_call 247;refine(wX (eI c _) u.j.r).mono ?_;rintro D F ⟨g,⟨h,d2,c9,rfl,q⟩|⟨E,c9,b,m,rfl,n⟩⟩;rotate_left;exact aq (fw (u.j.k.u (g.af (by simp))) u.j.k (a8.j.trans (bm (cj c9))) m n);dsimp only[mW];have x:=u.j.cm J.j a9.j g q;obtain⟨O,P,a0,c2⟩:=dT x.d;have e2:=g.dp (b:=H.heap.size) (by simp;omega) d4.j;have e3:=g.dp (b:=H.heap.size) (by simp;omega) d5.j;have y:=Z x;have b1:=Z c9;clear x g c9 q))
  go_wp2;obtain⟨K,L⟩:=ot p y.j.k y.j.r (.string ⟨f.1.toArray⟩) (.int .i64 f.2) (bX (.opaq h.1 h.2));refine bodyPost_ret (v:=.agg #[.string ⟨f.1.toArray⟩,.int .i64 f.2,.iface 377 (.agg #[.int .i64 h.1,.bool h.2])]) (by simp[results,results191,go_sem,O,P,a0]) rfl (kY (a:=⟨f.1,f.2,.opaq h.1 h.2⟩) (t:=f4) K (a8.j.trans (aF (aX b1.j))) rfl L ?_)
  exact nI J.j b7 y.j.i _ _ _
 |false=>
  go_wp2_with fail;refine(mT (eI c _) _ a3.r).mono ?_;rintro D H ⟨c3,⟨g0,e4,b3,rfl,d6⟩|⟨E,b3,b,m,rfl,n⟩⟩;rotate_left
  .exact aq (fw (a3.k.u (c3.af (by simp))) a3.k (c5.j.trans (bm (cj b3))) m n)
  have B:=a3.cm l p c3 d6;have a8:U (dZ j C t e=na j C g0 t e4):=c5.j.trans (aF (aX b3));cases g0 with
  |true=>
   go_wp2_with fail;refine(vl l B.r B.i B.h).mono ?_;rintro D F ⟨g,⟨f,f5,d2,b4,rfl,q,b2⟩|⟨E,b4,b,m,rfl,n⟩⟩;rotate_left
   .exact aq (fw (B.k.u g) B.k (a8.j.trans (bm b4)) m n)
   have a4:=B.h0 l p g q b2;dsimp only[fT];have b9:U (dZ j C t e=aw (lift (nt j)) (λh=>cH ⟨f.1,f.2,.str h.1 h.2⟩) f5 d2):=a8.j.trans (aF b4);go_wp2_with fail;have b6:=a4.aA l (((Below.refl F.heap.size F).alloc (Y4 _) (.cells #[.string ⟨f.1.toArray⟩,.int .i64 f.2] 160)).drew);have d7:=aK (w:=F) (o:=.cells #[.string ⟨f.1.toArray⟩,.int .i64 f.2] 160) rfl;obtain⟨a6,a7,_⟩:=kD d7;have d4:=Z a6;have d5:=Z a7;have u:=Z b6;have e7:c.S<F.heap.size:=by have:=p.lt.2.1;have:=a4.k.a2;omega
   have f3:w.heap.size<F.heap.size:=aj a4.d;have f1:¬w.heap.size=F.heap.size:=by omega
   have f2:¬F.heap.size=w.heap.size:=by omega
   have J:=Z l;have a9:=Z p;go_region_held2 (λa1=>a1.cell? ⟨F.heap.size,0,none⟩=some (.string ⟨f.1.toArray⟩)/\a1.cell? ⟨F.heap.size,1,none⟩=some (.int .i64 f.2)) (go_keep)
    (first|(go_at_call 248;refine(BU (eI c _) u.j.r).mono ?_;rintro D f8 ⟨g,⟨h,g5,A,rfl,q⟩|⟨E,A,b,m,rfl,n⟩⟩;rotate_left;exact aq (fw (u.j.k.u (g.af (by simp))) u.j.k (b9.j.trans (bm (cj A))) m n);dsimp only[mW];have N:=u.j.cm J.j a9.j g q;obtain⟨O,P,a0,c2⟩:=dT N.d;have e2:=g.dp (b:=F.heap.size) (by simp;omega) d4.j;have e3:=g.dp (b:=F.heap.size) (by simp;omega) d5.j;have y:=Z N;have b1:=Z A;clear N g A q))
   go_wp2;obtain⟨K,L⟩:=ot p y.j.k y.j.r (.string ⟨f.1.toArray⟩) (.int .i64 f.2) (bX (.str h.1 h.2));refine bodyPost_ret (v:=.agg #[.string ⟨f.1.toArray⟩,.int .i64 f.2,.iface 380 (.agg #[.int .i64 h.1,.bool h.2])]) (by simp[results,results191,go_sem,O,P,a0]) rfl (kY (a:=⟨f.1,f.2,.str h.1 h.2⟩) (t:=f5) K (b9.j.trans (aF (aX b1.j))) rfl L ?_)
   exact nI J.j b7 y.j.i _ _ _
  |false=>
   go_wp2_with fail;refine(RB (eI c _) B.r).mono ?_;rintro D F ⟨e9,⟨z,d2,b4,rfl,h0⟩|⟨E,b4,b,m,rfl,n⟩⟩;rotate_left
   .exact aq (fw (B.k.u (e9.af (by simp))) B.k (a8.j.trans (bm (cj b4))) m n)
   have a4:=B.cm l p e9 h0;have b9:U (dZ j C t e=pE j C z t d2):=a8.j.trans (aF (aX b4));obtain⟨a2,a5,c1⟩:∃a2 a5,U (bX z=.iface a2 a5):=by cases z<;>exact⟨_,_,rfl⟩
   rw[c1.j];go_wp2_with fail;refine(mT (eI c _) _ a4.r).mono ?_;rintro D h6 ⟨f0,⟨g1,h4,d9,rfl,h1⟩|⟨E,d9,b,m,rfl,n⟩⟩;rotate_left
   .exact aq (fw (a4.k.u (f0.af (by simp))) a4.k (b9.j.trans (bm (cj d9))) m n)
   have x:=a4.cm l p f0 h1;have c6:U (dZ j C t e=rl j C z g1 t h4):=b9.j.trans (aF (aX d9));cases g1 with
   |true=>
    go_wp2_with fail;refine(vl l x.r x.i x.h).mono ?_;rintro D s ⟨g,⟨f,G,e5,b5,rfl,q,b2⟩|⟨E,b5,b,m,rfl,n⟩⟩;rotate_left
    .exact aq (fw (x.k.u g) x.k (c6.j.trans (bm b5)) m n)
    have b8:=x.h0 l p g q b2;dsimp only[fT];have c7:U (dZ j C t e=cH ⟨f.1,f.2,.opt z⟩ G e5):=c6.j.trans (aF b5);obtain⟨O,P,a0,c2⟩:=dT b8.d;have b0:=Z b8;go_wp2;obtain⟨K,L⟩:=ot p b0.j.k b0.j.r (.string ⟨f.1.toArray⟩) (.int .i64 f.2) (.iface 385 (.agg #[.iface a2 a5]))
    refine bodyPost_ret (v:=.agg #[.string ⟨f.1.toArray⟩,.int .i64 f.2,.iface 385 (.agg #[.iface a2 a5])]) (by simp[results,results191,go_sem,O,P,a0]) rfl (kY (a:=⟨f.1,f.2,.opt z⟩) (t:=G) K (c7.j.trans rfl) (by simp only[iT,bX,c1.j]) L ?_)
    exact nI l b7 b0.j.i _ _ _
   |false=>
    go_wp2_with fail;refine(vl l x.r x.i x.h).mono ?_;rintro D s ⟨g,⟨f,G,e5,b5,rfl,q,b2⟩|⟨E,b5,b,m,rfl,n⟩⟩;rotate_left
    .exact aq (fw (x.k.u g) x.k (c6.j.trans (bm b5)) m n)
    have b8:=x.h0 l p g q b2;dsimp only[fT];have c7:U (dZ j C t e=om j z f G e5):=c6.j.trans (aF b5);have e7:c.S<s.heap.size:=by have:=p.lt.2.1;have:=b8.k.a2;omega
    have f3:w.heap.size<s.heap.size:=aj b8.d;have f1:¬w.heap.size=s.heap.size:=by omega
    have f2:¬s.heap.size=w.heap.size:=by omega
    have d1:=b8.aA l ((Below.refl s.heap.size s).alloc (Y4 _) (.cells #[.string ⟨f.1.toArray⟩,.int .i64 f.2] 160));obtain⟨a6,a7,_⟩:=kD (aK (w:=s) (o:=.cells #[.string ⟨f.1.toArray⟩,.int .i64 f.2] 160) rfl);go_wp2_with fail;refine(vX (eI c _) _ d1.r).mono ?_;rintro D f6 ⟨g,⟨g2,g4,e0,rfl,q⟩|⟨E,e0,b,m,rfl,n⟩⟩;rotate_left
    .exact aq (fw (d1.k.u (g.af (by simp))) d1.k (c7.j.trans (bm (cj e0))) m n)
    have c4:=d1.cm l p g q;have a6:=g.dp (b:=s.heap.size) (by simp;omega) a6;have a7:=g.dp (b:=s.heap.size) (by simp;omega) a7;have d3:U (dZ j C t e=pF j f z g2 G g4):=c7.j.trans (aF (aX e0));cases g2 with
    |true=>
     have c0:U (dZ j C t e=aw (lift (jS j)) (λh=>cH ⟨f.1,f.2,.arr z h.1 h.2⟩) G g4):=d3.j;go_wp2_with fail;have b6:=c4.aA l ((Below.refl f6.heap.size f6).drew);have u:=Z b6;have J:=Z l;have a9:=Z p;go_region_held2 (λa1=>a1.cell? ⟨s.heap.size,0,none⟩=some (.string ⟨f.1.toArray⟩)/\a1.cell? ⟨s.heap.size,1,none⟩=some (.int .i64 f.2)) (go_keep)
      (first|(go_at_call 247;refine(wX (eI c _) u.j.r).mono ?_;rintro D f8 ⟨g,⟨h,g5,A,rfl,q⟩|⟨E,A,b,m,rfl,n⟩⟩;rotate_left;exact aq (fw (u.j.k.u (g.af (by simp))) u.j.k (c0.j.trans (bm (cj A))) m n);dsimp only[mW];have N:=u.j.cm J.j a9.j g q;obtain⟨O,P,a0,c2⟩:=dT N.d;have e2:=g.dp (b:=s.heap.size) (by simp;omega) a6;have e3:=g.dp (b:=s.heap.size) (by simp;omega) a7;have y:=Z N;have b1:=Z A;clear N g A q))
     go_wp2;obtain⟨K,L⟩:=ot p y.j.k y.j.r (.string ⟨f.1.toArray⟩) (.int .i64 f.2) (.iface 382 (.agg #[.iface a2 a5,.int .i64 h.1,.bool h.2]))
     refine bodyPost_ret (v:=.agg #[.string ⟨f.1.toArray⟩,.int .i64 f.2,.iface 382 (.agg #[.iface a2 a5,.int .i64 h.1,.bool h.2])]) (by simp[results,results191,go_sem,O,P,a0]) rfl (kY (a:=⟨f.1,f.2,.arr z h.1 h.2⟩) (t:=G) K (c0.j.trans (aF (aX b1.j))) (by simp only[iT,bX,c1.j]) L ?_)
     exact nI J.j b7 y.j.i _ _ _
    |false=>
     go_wp2_with fail;refine(vX (eI c _) _ c4.r).mono ?_;rintro D f7 ⟨g,⟨g3,e6,e1,rfl,q⟩|⟨E,e1,b,m,rfl,n⟩⟩;rotate_left
     .exact aq (fw (c4.k.u (g.af (by simp))) c4.k (d3.j.trans (bm (cj e1))) m n)
     have b6:=c4.cm l p g q;have a6:=g.dp (b:=s.heap.size) (by simp;omega) a6;have a7:=g.dp (b:=s.heap.size) (by simp;omega) a7;have c0:U (dZ j C t e=pG j f z g3 G e6):=d3.j.trans (aF (aX e1));cases g3 with
     |true=>
      have c8:U (dZ j C t e=aw (lift (jS j)) (λh=>cH ⟨f.1,f.2,.arr z h.1 h.2⟩) G e6):=c0.j;go_wp2_with fail;have h2:=b6.aA l ((Below.refl f7.heap.size f7).drew);have u:=Z h2;have J:=Z l;have a9:=Z p;go_region_held2 (λa1=>a1.cell? ⟨s.heap.size,0,none⟩=some (.string ⟨f.1.toArray⟩)/\a1.cell? ⟨s.heap.size,1,none⟩=some (.int .i64 f.2)) (go_keep)
       (first|(go_at_call 247;refine(wX (eI c _) u.j.r).mono ?_;rintro D f8 ⟨g,⟨h,g5,A,rfl,q⟩|⟨E,A,b,m,rfl,n⟩⟩;rotate_left;exact aq (fw (u.j.k.u (g.af (by simp))) u.j.k (c8.j.trans (bm (cj A))) m n);dsimp only[mW];have N:=u.j.cm J.j a9.j g q;obtain⟨O,P,a0,c2⟩:=dT N.d;have e2:=g.dp (b:=s.heap.size) (by simp;omega) a6;have e3:=g.dp (b:=s.heap.size) (by simp;omega) a7;have y:=Z N;have b1:=Z A;clear N g A q))
      go_wp2;obtain⟨K,L⟩:=ot p y.j.k y.j.r (.string ⟨f.1.toArray⟩) (.int .i64 f.2) (.iface 382 (.agg #[.iface a2 a5,.int .i64 h.1,.bool h.2]))
      refine bodyPost_ret (v:=.agg #[.string ⟨f.1.toArray⟩,.int .i64 f.2,.iface 382 (.agg #[.iface a2 a5,.int .i64 h.1,.bool h.2])]) (by simp[results,results191,go_sem,O,P,a0]) rfl (kY (a:=⟨f.1,f.2,.arr z h.1 h.2⟩) (t:=G) K (c8.j.trans (aF (aX b1.j))) (by simp only[iT,bX,c1.j]) L ?_)
      exact nI J.j b7 y.j.i _ _ _
     |false=>
      have c8:U (dZ j C t e=cH ⟨f.1,f.2,z⟩ G e6):=c0.j;obtain⟨O,P,a0,c2⟩:=dT b6.d;have b0:=Z b6;go_wp2;obtain⟨K,L⟩:=ot p b0.j.k b0.j.r (.string ⟨f.1.toArray⟩) (.int .i64 f.2) (.iface a2 a5)
      refine bodyPost_ret (v:=.agg #[.string ⟨f.1.toArray⟩,.int .i64 f.2,.iface a2 a5]) (by simp[results,results191,go_sem,O,P,a0]) rfl (kY (a:=⟨f.1,f.2,z⟩) (t:=G) K (c8.j.trans rfl) (by simp only[iT,c1.j]) L ?_)
      exact nI l b7 b0.j.i _ _ _
end
def fP(a:Ad):cN Unit where
 f:=186
 f2:=#[.pointer (some ⟨a.R,0,none⟩)]
 f1:=#[]
 M:=[a.N]
 bs:=[]
 I:=λ_ _=>True
 ba:=λb=>lift (gc b)
def Ho(args:Array Value)(a:World):(callFunc 186 args).run prog a=.ok (.enter 186 args) a:=by kernel_rfl
def FH(args:Array Value)(a:World):(callFunc 251 args).run prog a=.ok (.enter 251 args) a:=by kernel_rfl
def Aj{a:Ad}{c:ByteArray}{s:St}{p:World}(d:Rd a c s p):io (fP a) a c where
 gD:=Ho
 dl:=λ_ _ _=>trivial
 h2:=by simp[fP];exact d.cq.2.2.2.1
 g9:=by simp[fP];exact d.aI.2.2.1
 call:=by
  intro h q o i g e _ l _ _;have:=Hn g l;rw[e.1,e.2.2.1]at this;refine Calls.mono (R:=dD [a.N] h c i (gc g q) oS) this ?_;rintro t u ⟨f,⟨j,r,b,rfl,m⟩|⟨k,b,n⟩⟩
  .exact⟨f,Y8 ⟨j,o,r,aX b,rfl,m,trivial⟩⟩
  .exact⟨f,Ya ⟨k,cj b,n⟩⟩
def aT(a b:Nat):cN (List (List UInt8)) where
 f:=251
 f2:=#[]
 f1:=#[.pointer (some ⟨b,0,none⟩)]
 M:=[a]
 bs:=[(b,.cells #[.map (some a)] 103)]
 I:=dq a
 ba:=λc=>lI (lh c)
def xg{h:Ad}{u:ByteArray}{c bx:Nat}(a:cU h c):io (aT c bx) h u where
 gD:=FH
 dl:=λe b f=>e.O b (λa=>f _ a (by simp[aT]))
 h2:=by simp[aT];exact λi=>a.2.2.1 i.symm
 g9:=by simp[aT];exact a.1
 call:=by
  intro j w x k v d m q e p;have n:k.cell? ⟨bx,0,none⟩=some (.map (some c)):=by
   have:=(p (bx,.cells #[.map (some c)] 103) (by simp[aT])).1;simp at this;simp[World.cell?,this]
  refine Calls.mono (FG v e n) ?_;have o:cU j c:=⟨m _ a.1,by rw[d.1];exact a.2.1,by rw[d.2.1];exact a.2.2.1,by rw[d.2.2.1];exact a.2.2.2.1,by rw[d.2.2.2];exact a.2.2.2.2⟩;rintro i z ⟨b,⟨t,g,rfl,r⟩|⟨l,g,s⟩⟩
  .obtain⟨_,y,_,f⟩:=id e;exact⟨b,Y8 ⟨(),t,w,rT g,rfl,q.k7 b o f,r⟩⟩
  .exact⟨b,Ya ⟨l,rS g,s⟩⟩
section
variable {a:Ad}{f:Mar.a5}{w:World}{c:Type}{b:St}
def hV(d:PX Unit c):PM c:=λb=>match d () b with
 |.ok (a,_,e)=>.ok (a,e)
 |.error f=>.error f
def wT{d:PX Unit c}{e:St}{a:c}{u:Unit}(f:d () b=.ok (a,u,e)):hV d b=.ok (a,e):=by simp only[hV,f]
def wS{a:PX Unit c}(d:a () b=.error f):hV a b=.error f:=by simp only[hV,d]
def mo:Ad:=⟨0,0,0,0,[]⟩
def md(a:ByteArray):PM aG:=hV (dZ a (fP mo))
def gs(a:ByteArray):PM (List UInt8×Nat):=hV (name a (fP mo))
def fY(j:List Nat)(a:Ad)(k:ByteArray)(w:World)(h:Except Mar.a5 (ao×St))(g:Ending)(b:World):Prop:=
 ai j w b/\((∃e i c d,h=.ok (e,i)/\g=.returned (.pointer (some ⟨c,0,none⟩))/\Rd a k i b/\dx d c e/\bn a.X d b)\/(∃f,h=.error f/\fg w f.no f.w g b))
def dy{d M':List Nat}{l:ByteArray}{w1 c:World}{e:Except Mar.a5 (ao×St)}{b:Nat}
  (i:ai d w c) (j:ai M' w w1) (k:e=.error f) (g:w1.heap.size<=b) (h:c.heap[b]? = some (.cells #[.int .i64 f.no,.int .i64 f.w] 179)) :
  fY d a l w e (.panicked [{ v:=.iface 143 (.pointer (some ⟨b,0,none⟩)),recovered:=false }]) c:=
 ⟨i,Ya ⟨f,k,b,Yz j.a2 g,rfl,h⟩⟩
def GY{d:ByteArray}(e:Rd a d b w) :
  Calls prog 191 #[.pointer (some ⟨a.R,0,none⟩),.func (.func 186) #[.pointer (some ⟨a.R,0,none⟩)] #[]] w (dD [a.S,a.N] a d w (md d b) iT):=by
 refine Calls.mono (As (C:=fP a) (t:=()) (Aj e) e trivial (λo j=>by simp[fP]at j)) ?_;rintro n p ⟨g,⟨i,h,m,c,rfl,k,_⟩|⟨f,c,l⟩⟩
 .exact⟨g,Y8 ⟨i,m,wT (u:=h) c,rfl,k⟩⟩
 .exact⟨g,Ya ⟨f,wS c,l⟩⟩
def tz{d:ByteArray}(e:Rd a d b w) :
  Calls prog 185 #[.pointer (some ⟨a.R,0,none⟩),.func (.func 186) #[.pointer (some ⟨a.R,0,none⟩)] #[]] w (dD [a.S,a.N] a d w (gs d b) fT):=by
 refine Calls.mono (yj (C:=fP a) (t:=()) (Aj e) e trivial (λo j=>by simp[fP]at j)) ?_;rintro n p ⟨g,⟨i,h,m,c,rfl,k,_⟩|⟨f,c,l⟩⟩
 .exact⟨g,Y8 ⟨i,m,wT (u:=h) c,rfl,k⟩⟩
 .exact⟨g,Ya ⟨f,wS c,l⟩⟩
def iI(a:ByteArray)(b:Nat):PM ao:=av (iE b) λ_=>av (md a) λc=>av (bV a [59]) λ_=>bT (.typedef c)
def RF{s:ByteArray}(l:Nat)(D:Rd a s b w) :
  Calls prog 120 #[.pointer (some ⟨a.R,0,none⟩),.int .i64 l] w (fY [a.R,a.S,a.N] a s w (iI s l b)):=by
 have L:=jw;go_in;go_wp2_with fail;refine(vt l D).mono ?_;rintro x P ⟨y,⟨O,a2,h,rfl,H⟩|⟨f,h,v,e,rfl,g⟩⟩;rotate_left
 .exact aq (dy (y.af (by simp)) (ah [] _) (bl h) e g)
 have m:=y.af (M':=[a.R,a.S,a.N]) (by simp);go_wp2_with fail;refine(GY H).mono ?_;rintro x j ⟨z,⟨c,a3,k,rfl,q⟩|⟨f,k,v,e,rfl,g⟩⟩;rotate_left
 .exact aq (dy (m.u (z.af (by simp))) m ((au h).trans (bl k)) e g)
 have n:=m.u (z.af (M':=[a.R,a.S,a.N]) (by simp));obtain⟨d,i,u⟩:∃d i,U (bX c.L=.iface d i):=by cases c.L<;>exact⟨_,_,rfl⟩
 dsimp only[iT];rw[u.j];have F:=(Below.refl j.heap.size j).alloc (Y4 _) (.cells #[.string ⟨c.t.toArray⟩,.int .i64 c.w,.iface d i] 244)
 have B:=aK (w:=j) (o:=.cells #[.string ⟨c.t.toArray⟩,.int .i64 c.w,.iface d i] 244) rfl
 have I:=q.aA F;have E:=q.bh;go_wp2_with fail;refine(rr _ I).mono ?_;rintro x a0 ⟨p,⟨a1,K,r,rfl,J⟩|⟨f,r,v,e,rfl,g⟩⟩;rotate_left
 .exact aq (dy ((n.G _).u (p.af (by simp))) (n.G _) ((au h).trans ((au k).trans (bl r))) e g)
 have C:=Z ((p.K _ (aj B) (by have:=q.lt.2.1;simp;omega)).trans B);go_wp2;go_ret;refine⟨(n.G _).u (p.af (by simp)),Y8 ⟨.typedef c,K,j.heap.size,[(j.heap.size,.cells #[.string ⟨c.t.toArray⟩,.int .i64 c.w,.iface d i] 244)],(au h).trans ((au k).trans (au r)),rfl,J,?_,?_⟩⟩
 .show _∈_;simp only[ho,u.j,Yc]
 .intro M A;simp only[Yc]at A;subst A;exact⟨C.j,λG=>by have:=E _ G;simp at this⟩
end
def iB(a:ByteArray)(c:Nat):PM ao:=av (iD c) λ_=>av (gs a) λb=>av (bV a [61]) λ_=>
 av (hM a (dj (-2147483648) 4294967295)) λd=>av (bV a [59]) λ_=>bT (.const b.1 b.2 d.1)
def GL{a:Ad}{D:ByteArray}{a0:St}(q:Nat){w:World}(a2:Rd a D a0 w) :
  Calls prog 119 #[.pointer (some ⟨a.R,0,none⟩),.int .i64 q] w (fY [a.R,a.S,a.N] a D w (iB D q a0)):=by
 have b9:=jw;go_in;go_wp2_with fail;refine(Cc q a2).mono ?_;rintro h c4 ⟨G,⟨c3,d1,f,rfl,a9⟩|⟨n,f,m,c,rfl,d⟩⟩;rotate_left
 .exact aq (dy (G.af (by simp)) (ah [] _) (bl f) c d)
 have r:=G.af (M':=[a.R,a.S,a.N]) (by simp);go_wp2_with fail;refine(tz a9).mono ?_;rintro h e ⟨H,⟨b,d2,g,rfl,j⟩|⟨n,g,m,c,rfl,d⟩⟩;rotate_left
 .exact aq (dy (r.u (H.af (by simp))) r ((au f).trans (bl g)) c d)
 have F:=r.u (H.af (M':=[a.R,a.S,a.N]) (by simp));dsimp only[fT];have a5:=j.bh;have b8:=j.lt.2.1;have b0:=j.ax (.cells #[.string ⟨b.1.toArray⟩,.int .i64 b.2,.int .i64 0] 343);have K:=aK (w:=e) (o:=.cells #[.string ⟨b.1.toArray⟩,.int .i64 b.2,.int .i64 0] 343) rfl;have s:=F.G (.cells #[.string ⟨b.1.toArray⟩,.int .i64 b.2,.int .i64 0] 343);have B:e.heap.size ∉ [a.S]:=by simp;omega
 go_wp2_with fail;refine(fh (eI a _) _ b0).mono ?_;rintro h c5 ⟨y,⟨c9,d3,k,rfl,J⟩|⟨n,k,m,c,rfl,d⟩⟩;rotate_left
 .exact aq (dy (s.u (y.af (by simp))) s ((au f).trans ((au g).trans (bl k))) c d)
 have L:=(y.K _ (aj K) B).trans K;have a3:=s.u (y.af (M':=[a.R,a.S,a.N]) (by simp));go_wp2_with fail;refine(qB _ _ _).mono ?_;rintro h c6 ⟨v,rfl,x,a7⟩;have a6:=a7 (a.a8 e.heap.size).X J.bh;have b1:=J.aA x;have M:=(x.block _ (aj L)).trans L;have t:=a3.u (bt _ x);go_wp2_with fail;refine(zk (eI a _) b1 a6).mono ?_;rintro h c7 ⟨z,⟨l,d4,p,rfl,b2⟩|⟨n,p,m,c,rfl,d⟩⟩;rotate_left
 .exact aq (dy (t.u (z.af (by simp))) t ((au f).trans ((au g).trans ((au k).trans (bl p)))) c d)
 have O:=(z.K _ (aj M) B).trans M;have a4:=t.u (z.af (M':=[a.R,a.S,a.N]) (by simp));obtain⟨c0,c1,c2,b7⟩:=dT O;dsimp only[vG];have b5:=bv (i:=2) O (.int .i64 l.1);have b3:=qT (A':=a.a8 e.heap.size) j ⟨rfl,rfl,rfl,rfl⟩ b2 (p:=⟨e.heap.size,2,none⟩) (Y4 _) (by simp[Ad.a8]) (.int .i64 l.1);have u:=a4.cy (p:=⟨e.heap.size,2,none⟩) (Nat.le_of_lt_succ (Nat.lt_succ_of_le F.a2)) (.int .i64 l.1);have E:=Z b5;go_wp2_with fail;refine(fh (eI a _) _ b3).mono ?_;rintro h c8 ⟨A,⟨d0,b6,C,rfl,b4⟩|⟨n,C,m,c,rfl,d⟩⟩;rotate_left
 .exact aq (dy (u.u (A.af (by simp))) u ((au f).trans ((au g).trans ((au k).trans ((au p).trans (bl C))))) c d)
 have a1:=Z ((A.K _ (aj E.j) B).trans E.j);go_wp2;go_ret;refine⟨u.u (A.af (by simp)),Y8 ⟨.const b.1 b.2 l.1,b6,e.heap.size,[(e.heap.size,.cells #[.string ⟨b.1.toArray⟩,.int .i64 b.2,.int .i64 l.1] 343)],(au f).trans ((au g).trans ((au k).trans ((au p).trans (au C)))),rfl,pp j.aI b4,?_,?_⟩⟩
 .show _∈_;simp
 .intro P I;simp only[Yc]at I;subst I;exact⟨a1.j,λa8=>by have:=a5 _ a8;simp at this⟩
section
variable {c:Ad}{e:TypeId}{b:World}{j:St}{g:Type}
def Au{a:cN g}{d:Ad}(h:eH d c){e:ByteArray}{i:g}(l:io a d e)(k:Rd d e j b)(n:a.I i b)(m:bn d.X a.bs b) :
  Calls prog 191 #[.pointer (some ⟨c.R,0,none⟩),.func (.func a.f) a.f2 a.f1] b (jl (c.S::a.M) d e b (dZ e a i j) iT a.I):=by
 have:=As l k n m;rw[h.1,h.2.1]at this;exact this
def mU(b:ByteArray)(a:cN g)(c:Bool):PX g aG:=if c then cH ⟨[],0,.void⟩else dZ b a
def iA(a:ByteArray)(b:cN g):PX g aG:=aw (aw (lift (da a [118,111,105,100])) (mU a b)) λc=>aw (lift (bV a [59])) λ_=>cH c
def OR{a:Nat}{m o n c f d:Value}{g:Nat×Nat}(h:b.heap[a]? = some (.cells #[m,o,n] e g)) :
  (((b.setCell ⟨a,0,none⟩ c).setCell ⟨a,1,none⟩ f).setCell ⟨a,2,none⟩ d).heap[a]? = some (.cells #[c,f,d] e g):=by
 have j:=bv (i:=0) h c;have k:=bv (i:=1) j f;have l:=bv (i:=2) k d;exact l
def jL.p5{m:cN g}{f:ByteArray}{l:World}{x y z:Value}{s:g}{C:St}(a:jL m c f b (.cells #[x,y,z] e) s j l)(q:io m c f)(o:Rd c f C b)(t u w:Value) :
  jL m c f b (.cells #[t,u,w] e) s j (((l.setCell ⟨b.heap.size,0,none⟩ t).setCell ⟨b.heap.size,1,none⟩ u).setCell ⟨b.heap.size,2,none⟩ w) where
 k:=((a.k.cy (Y4 _) _).cy (Y4 _) _).cy (Y4 _) _
 r:=by
  have n:=λ{l:World} (B:Rd (c.a8 b.heap.size) f j l) (i:Nat) (v:Value)=>qT (A':=c.a8 b.heap.size) o ⟨rfl,rfl,rfl,rfl⟩ B (p:=⟨b.heap.size,i,none⟩) (Y4 _) (by simp[Ad.a8]) v;exact n (n (n a.r 0 _) 1 _) 2 _
 i:=nI q (λA=>by have:=o.bh _ (q.g9 _ A);omega) a.i _ _ _
 h:=a.h.O ((((ah [b.heap.size] l).a6 (p:=⟨b.heap.size,0,none⟩) (by simp) _).a6 (p:=⟨b.heap.size,1,none⟩) (by simp) _).a6 (p:=⟨b.heap.size,2,none⟩) (by simp) _) (by simp[Ad.a8])
 d:=OR a.d
def FK{d:cN g}{m:ByteArray}{t:g}(A:io d c m)(z:Rd c m j b)(c0:d.I t b)(b9:bn c.X d.bs b) :
  Calls prog 200 #[.pointer (some ⟨c.R,0,none⟩),.func (.func d.f) d.f2 d.f1] b (jl (c.S::d.M) c m b (iA m d t j) iT d.I):=by
 have a5:b.heap.size ∉ d.M:=λc2=>by have:=z.bh _ (A.g9 _ c2);omega
 have d1:=z.lt.2.1;have x:=wF A z c0 b9 (.cells #[.string ⟨#[]⟩,.int .i64 0,.nilIface] 242);have o:=A.a8 b.heap.size;have N:=wF o x.r x.i x.h (.cells #[.string ⟨#[]⟩,.int .i64 0,.iface 444 (.agg #[])] 242)
 have h:=x.k;have K:(b.alloc (.cells #[.string ⟨#[]⟩,.int .i64 0,.nilIface] 242)).heap[b.heap.size]? = _:=x.d;have s:=x.r;go_in;go_wp2_with fail;have b3:b.heap.size ∉ c.S::d.M:=by
  simp only[Yg,not_or];exact⟨by omega,a5⟩
 have J:eH ((c.a8 b.heap.size).a8 (b.alloc (.cells #[.string ⟨#[]⟩,.int .i64 0,.nilIface] 242)).heap.size) c:=⟨rfl,rfl,rfl,rfl⟩;refine(mT J _ N.r).mono ?_;rintro P d2 ⟨b1,⟨c7,c8,C,rfl,c3⟩|⟨a0,C,O,p,rfl,q⟩⟩;rotate_left
 .exact aq (fw ((h.u N.k).u (b1.af (by simp))) (h.u N.k) (bm (bm (cj C))) p q)
 have l:=N.cm o s b1 c3;have L:(b.alloc (.cells #[.string ⟨#[]⟩,.int .i64 0,.nilIface] 242)).heap.size=b.heap.size+1:=by simp
 cases c7 with
 |true=>
  have y:U (aw (lift (da m [118,111,105,100])) (mU m d) t j=cH ⟨[],0,.void⟩ t c8):=aF (aX C);go_wp2_with fail;refine(fh J _ l.r).mono ?_;rintro P c5 ⟨B,⟨c6,c9,u,rfl,a4⟩|⟨a0,u,O,p,rfl,q⟩⟩;rotate_left
  .exact aq (fw ((h.u l.k).u (B.af (by simp))) (h.u l.k) ((aF (y.j.trans rfl)).trans (bm (cj u))) p q)
  have w:=l.cm o s B a4;have a3:=(w.k.K _ (aj K) b3).trans K;obtain⟨a7,a8,a9,b8⟩:=dT a3;obtain⟨D,E,F,_⟩:=dT w.d;rw[L]at D E F;have n:=Z w;go_wp2;obtain⟨a1,a2⟩:=ot z (h.u n.j.k) (pp s.aI n.j.r) (.string ⟨#[]⟩) (.int .i64 0) (.iface 444 (.agg #[]))
  refine bodyPost_ret (v:=.agg #[.string ⟨#[]⟩,.int .i64 0,.iface 444 (.agg #[])]) (by simp[results,results200,go_sem,a7,a8,a9]) rfl (kY (a:=⟨[],0,.void⟩) (t:=t) a1 ((aF (y.j.trans rfl)).trans (aF (aX u))) (rfl) a2 ?_)
  exact nI A a5 n.j.i _ _ _
 |false=>
  go_wp2_with fail;refine(Au J (o.a8 _) l.r l.i l.h).mono ?_;rintro P d3 ⟨b2,⟨f,b6,d0,a6,rfl,c4,c1⟩|⟨a0,a6,O,p,rfl,q⟩⟩;rotate_left
  .exact aq (fw ((h.u l.k).u b2) (h.u l.k) (bm ((aF (aX C)).trans a6)) p q)
  have y:U (aw (lift (da m [118,111,105,100])) (mU m d) t j=.ok (f,b6,d0)):=(aF (aX C)).trans a6;have b4:=l.h0 o s b2 c4 c1;obtain⟨e,G,b0⟩:∃e G,U (bX f.L=.iface e G):=by cases f.L<;>exact⟨_,_,rfl⟩
  have b5:=b4.p5 o s (.string ⟨f.t.toArray⟩) (.int .i64 f.w) (.iface e G)
  obtain⟨D,E,F,b7⟩:=dT b4.d;rw[L]at D E F b7;rw[L]at b5;have H:=Z b5;dsimp only[iT];rw[b0.j];go_wp2_with fail;refine(fh J _ H.j.r).mono ?_;rintro P c5 ⟨B,⟨c6,c9,u,rfl,a4⟩|⟨a0,u,O,p,rfl,q⟩⟩;rotate_left
  .exact aq (fw ((h.u H.j.k).u (B.af (by simp))) (h.u H.j.k) ((aF y.j).trans (bm (cj u))) p q)
  have w:=H.j.cm o s B a4;have a3:=(w.k.K _ (aj K) b3).trans K;obtain⟨a7,a8,a9,b8⟩:=dT a3;obtain⟨D,E,F,_⟩:=dT w.d;rw[L]at D E F;have n:=Z w;go_wp2;obtain⟨a1,a2⟩:=ot z (h.u n.j.k) (pp s.aI n.j.r) (.string ⟨f.t.toArray⟩) (.int .i64 f.w) (.iface e G)
  refine bodyPost_ret (v:=.agg #[.string ⟨f.t.toArray⟩,.int .i64 f.w,.iface e G]) (by simp[results,results200,go_sem,a7,a8,a9]) rfl (kY (a:=f) (t:=b6) a1 ((aF y.j).trans (aF (aX u))) (by simp only[iT,b0.j]) a2 ?_)
  exact nI A a5 n.j.i _ _ _
end
section
variable {a:Nat}{c:Option ao}{w:World}{e:Type}
def OU{P:Program}{T kt et:TypeId}{d:TypeDesc}(u:P.underlying T=some (.map kt et))(l:P.underlying kt=some d){s:ByteArray}(m:IsKey d (.string s)){c:Array MapEntry}{h:Nat}
  (k:w.heap[a]? = some (.map c h)) (p:∀f∈c.toList,IsKey d f.key) (q:∃f∈c.toList,f.key=.string s) (v:Value) :
  ∃(e:Nat) (b:MapEntry),c.toList[e]? = some b/\b.key=.string s/\
   (Instr.mapUpdate T (.map (some a)) (.string s) v).run P w=.ok () (dn w a (.map (c.modify e λb=>{ b with key:=.string s,val:=v }) h)):=by
 have o:=λn=>MapKept.run_checkKey (w:=w) l m n 9999;rcases findNow_spec m c.toList 0 p with⟨i,g⟩|⟨e,b,i,g,j⟩
 .obtain⟨f,x,y⟩:=q;exact absurd y (g f x)
 .refine⟨e,b,g,j,?_⟩;have r:c[e]? = some b:=by simpa using g
  have t:Instr.keyThatStays (.string s) (.string s)=pure (.string s):=by
   unfold Instr.keyThatStays;rw[Y9 (by show (s==s)=true;exact(MapKept.bytes_beq s s).2 rfl)]
  simp[Instr.mapUpdate,Instr.findKey,run_underlying u,run_underlying l,MapKept.run_getObj_map k,o,i,r,j,t,MapKept.run_setObj_map _ k,Result.andThen]
def cM(d:List (List UInt8×Option ao))(c:List UInt8)(b:ao):List (List UInt8×Option ao):=d.map λa=>if a.1==c then (a.1,some b)else a
def CX(d:List (List UInt8×Option ao))(c:List UInt8)(b:ao):(cM d c b).map (·.1)=d.map (·.1):=by
 unfold cM;rw[List.map_map];apply List.map_congr_left;intro a _;show (if a.1==c then (a.1,some b)else a).1=a.1
 split<;>rfl
def xX{g:List (List UInt8×e)}{f:List UInt8}{c:e}(b:az g f=some c):∃a∈g,a.1=f/\a.2=c:=by
 unfold az at b;cases d:g.find? (λa=>a.1==f)with
 |none=>rw[d]at b;cases b
 |some a=>
  rw[d]at b;exact⟨a,List.mem_of_find?_eq_some d,by simpa using List.find?_some d,by simpa using b⟩
def tB{d:List e}(j:d.Nodup)(a b:Nat)(g:a<d.length)(h:b<d.length)(f:d[a]=d[b]):a=b:=by
 have i:=List.pairwise_iff_getElem.1 j;rcases Nat.lt_trichotomy a b with c|c|c
 .exact absurd f (i a b g h c)
 .exact c
 .exact absurd f.symm (i b a h g c)
def pi{o p:List (Nat×Obj)}{v:Value}(h:∀F∈o,F∈p)(e:jk o v c):jk p v c:=by
 have y:∀k t,qG o k t->qG p k t:=λk t C=>h _ C;have a:∀s v u w,fy o s v u w->fy p s v u w:=by
  intro s v u w a;rcases a with a|⟨B,z,A,b,d,f,g⟩
  .exact Y8 a
  .exact Ya ⟨B,z,A,b,d,h _ f,g⟩
 cases c with
 |none=>exact e
 |some x=>
  obtain⟨k,D,j⟩:=e;refine⟨k,D,?_⟩;cases x with
  |const q n v=>exact y _ _ j
  |typedef x=>exact h _ j
  |enum q n E=>obtain⟨i,G,b,d,f,g⟩:=j;exact⟨i,G,h _ b,d,a _ _ _ _ f,λm e l=>y _ _ (g m e l)⟩
  |struct q n E=>obtain⟨i,b,d⟩:=j;exact⟨i,h _ b,a _ _ _ _ d⟩
  |union q n J H=>obtain⟨i,r,b,d,f,g⟩:=j;exact⟨i,r,h _ b,d,a _ _ _ _ f,λm e l=>a _ _ _ _ (g m e l)⟩
  |prog q n K I=>obtain⟨i,r,b,d,f,g⟩:=j;exact⟨i,r,h _ b,d,a _ _ _ _ f,λm e l=>a _ _ _ _ (g m e l)⟩
def fN.bQ{o:List Nat}{e:List (List UInt8×Option ao)}(G:fN o a e w)(B:a∈o){j:List UInt8}(a0:az e j=some c)
  {d:ao} {b:Nat} {bs':List (Nat×Obj)} (K:dx bs' b d) (M:bn o bs' w) :
  ∃D,(Instr.mapUpdate 148 (.map (some a)) (.string ⟨j.toArray⟩) (.iface (cE d) (.pointer (some ⟨b,0,none⟩)))).run prog w=.ok () (dn w a D)/\fN o a (cM e j d) (dn w a D):=by
 obtain⟨t,F,n,H,I,A,J⟩:=G;have R:=aj A;obtain⟨g,i,m,_⟩:=xX a0;obtain⟨f,v,rfl⟩:=List.getElem_of_mem i;have a3:f<n.length:=by omega
 have L:=rK (e.zip n |>.map λg=>(g.1.1,g.2));obtain⟨r,p,l,z,a2⟩:=OU (P:=prog) (T:=148) (kt:=9) (et:=157) (d:=.string) (by kernel_rfl) (by kernel_rfl) (s:=⟨j.toArray⟩) trivial A (by simpa using L)
  ⟨⟨.string ⟨e[f].1.toArray⟩,n[f],f⟩,by
   simp only;rw[List.mem_mapIdx];exact⟨f,by simp;omega,by simp⟩,by simp[m]⟩ (.iface (cE d) (.pointer (some ⟨b,0,none⟩)))
 simp only[List.getElem?_mapIdx]at l;have x:r<e.length:=by
  by_cases x:r<e.length
  .exact x
  .rw[YA (by simp;omega)]at l;cases l
 rw[Yd (by simp;omega)]at l;simp at l;subst l;simp at z;have N:f=r:=by
  have a1:(e.map (·.1))[f]'(by simpa using v)=(e.map (·.1))[r]'(by simpa using x):=by simp[m,z]
  exact tB t _ _ _ _ a1
 subst N;refine⟨_,a2,?_,F++bs',n.set f (.iface (cE d) (.pointer (some ⟨b,0,none⟩))),?_,?_,?_,?_⟩
 .rw[CX];exact t
 .intro g i;rcases Yn.1 i with i|i
  .exact(H.O (gY _ _ _) (by simpa using B)) g i
  .exact(M.O (gY _ _ _) (by simpa using B)) g i
 .simp[cM,I]
 .rw[kh R];unfold pZ;have O:(List.map (λg:(List UInt8×Option ao)×Value=>(g.1.1,g.2)) ((cM e j d).zip (n.set f (.iface (cE d) (.pointer (some ⟨b,0,none⟩)))))).length=(List.map (λg:(List UInt8×Option ao)×Value=>(g.1.1,g.2)) (e.zip n)).length:=by simp[cM]
  rw[O];refine Yo (λE=>some (Obj.map E _)) ?_;apply Array.ext';simp only[Array.toList_modify];apply List.ext_getElem
  .simp[cM]
  .intro h a5 S;have q:h<e.length:=by simp at S;omega
   by_cases k:f=h
   .subst k;simp[cM,List.getElem_modify,m]
   .have y:¬e[h].1=j:=λp=>k (tB t f h (by simpa using v) (by simpa using q) (by simp[m,p]));simp[cM,List.getElem_modify,k,List.getElem_set,y]
 .intro h q a4;have C:h<e.length:=by simp[cM]at q;exact q
  by_cases k:f=h
  .subst k;have u:(cM e j d)[f].2=some d:=by simp[cM,m]
   rw[u,List.getElem_set_self];exact pi (λg i=>Ym _ i) (show jk bs' _ (some d)from⟨b,rfl,K⟩)
  .have y:¬e[h].1=j:=λp=>k (tB t f h (by simpa using v) (by simpa using C) (by simp[m,p]));have u:(cM e j d)[h].2=e[h].2:=by simp[cM,y]
   rw[u,List.getElem_set_ne k];exact pi (λg i=>Yf _ i) (J h C (by omega))
end
section
variable {α:Type}{a b:St}
def gQ(d:PM α):Prop:=∀a c b,d a=.ok (c,b)->b.F=a.F
def gQ.b3{k:Type}{f:PM α}{g:α->PM k}(i:gQ f)(h:∀d,gQ (g d)):gQ (av f g):=by
 intro a l b c;cases e:f a with
 |error m=>rw[bl e]at c;cases c
 |ok j=>
  obtain⟨d,n⟩:=j;rw[au e]at c;rw[h d _ _ _ c,i _ _ _ e]
def gQ.ret(d:α):gQ (bT d):=by
 intro a e b c;simp only[bT,Except.ok.injEq,Prod.mk.injEq]at c;rw[<-c.2]
def wI(e c:Nat):gQ (fl (α:=α) e c):=λa f b d=>by cases d
def qR{a:Prop}[Decidable a]{b c:PM α}(d:gQ b)(e:gQ c):gQ (if a then b else c):=by split<;>assumption
def CI(d:ByteArray):gQ (next d):=by
 intro a e b c;unfold next at c
 split at c
 .simp only[Except.ok.injEq,Prod.mk.injEq]at c;rw[<-c.2]
 .cases c
def Nj(a:ByteArray)(b:List UInt8):gQ (bV a b):=(CI a).b3 λc=>qR (gQ.ret _) (wI _ _)
def Ni(d:Mar.bi):gQ (hB d):=by
 intro a e b c;unfold hB at c;split at c
 .simp only[Except.ok.injEq,Prod.mk.injEq]at c;rw[<-c.2]
 .cases c
def Nk(a:Mar.bi):gQ (ic a):=
 qR (gQ.ret _) (qR (Ni a) (qR (gQ.ret _) (qR (gQ.ret _) (wI _ _))))
def Nn(a:ByteArray)(b:Int->Bool):gQ (hM a b):=(CI a).b3 λc=>(Nk c).b3 λd=>qR (gQ.ret _) (wI _ _)
def Nm{g:ByteArray}{f:Int->Bool}{i k:List (Int×Int)}{l:Int}(c:fU g f i a=.ok (l,k,b)):b.F=a.F:=by
 unfold fU at c;cases e:hM g f a with
 |error j=>rw[bm (cj e)]at c;cases c
 |ok d=>
  obtain⟨d,n⟩:=d;rw[aF (aX e)]at c;cases h:kE d.1 d.2 i ⟨6,d.2⟩with
  |error j=>rw[bm (rS h)]at c;cases c
  |ok m=>
   rw[aF (rT h)]at c;simp only[cH,Except.ok.injEq,Prod.mk.injEq]at c;rw[<-c.2.2];exact Nn g f _ _ _ e
def LC{l:ByteArray}{k:List UInt8×Nat}(c:gs l a=.ok (k,b)):az b.F k.1=some none:=by
 unfold gs hV name at c;cases j:next l a with
 |error p=>rw[bm (cj j)]at c;cases c
 |ok o=>
  obtain⟨d,e⟩:=o;rw[aF (aX j)]at c;by_cases i:((d.H:Int)==1)=true
  .rw[Y9 i]at c;cases f:az e.F d.text with
   |none=>
    have h:gc d e=.ok ((),{ e with F:=e.F++[(d.text,none)] }):=by simp only[gc,f]
    rw[aF (show (fP mo).ba d () e=_ from aX h)]at c;simp only[cH,Except.ok.injEq,Prod.mk.injEq]at c;obtain⟨rfl,rfl⟩:=c;unfold az at f ⊢;have m:e.F.find? (λg=>g.1==d.text)=none:=by
     cases n:e.F.find? (λg=>g.1==d.text)with
     |none=>rfl
     |some g=>rw[n]at f;cases f
    simp[List.find?_append,m]
   |some q=>
    have h:gc d e=.error ⟨6,d.w⟩:=by simp only[gc,f]
    rw[bm (show (fP mo).ba d () e=_ from cj h)]at c;cases c
  .rw[Y2 i]at c;cases c
def ej(c nt b:Nat):PM Unit:=λa=>if nt<=c then .error ⟨5,b⟩else .ok ((),a)
def xW(c:List UInt8)(b:ao):PM Unit:=λa=>.ok ((),{ a with F:=cM a.F c b })
def ie(b:ByteArray)(d:Nat):PX (List (Int×Int)) (List UInt8×Nat×Int):=
 aw (lift (fL b)) λc=>aw (lift (ej d 12 c.w)) λ_=>aw (lift (iD c.w)) λ_=>aw (lift (gs b)) λa=>aw (lift (bV b [61])) λ_=>
  aw (fU b (dj (-2147483648) 2147483647)) λv=>aw (lift (xW a.1 (.const a.1 a.2 v))) λ_=>cH (a.1,a.2,v)
end
section
variable {a:Ad}{e:List (Int×Int)}{c:Nat}{w:World}{g:St}
def jV(a:List UInt8×Nat×Int):Obj:=.cells #[.string ⟨a.1.toArray⟩,.int .i64 a.2.1,.int .i64 a.2.2] 343
def wB(k:List Nat)(a:Ad)(l:ByteArray)(w:World)(c:Nat)(i:Except Mar.a5 ((List UInt8×Nat×Int)×List (Int×Int)×St))(f:Ending)(b:World):Prop:=
 ai k w b/\((∃h g j e,i=.ok (h,g,j)/\f=.returned (.pointer (some ⟨e,0,none⟩))/\Rd a l j b/\cO c g b/\bn a.X [(e,jV h)] b)\/(∃d,i=.error d/\fg w d.no d.w f b))
def qK{e M':List Nat}{m:ByteArray}{w1 d:World}{g:Except Mar.a5 ((List UInt8×Nat×Int)×List (Int×Int)×St)}{f:Mar.a5}{b:Nat}
  (j:ai e w d) (k:ai M' w w1) (l:g=.error f) (h:w1.heap.size<=b) (i:d.heap[b]? = some (.cells #[.int .i64 f.no,.int .i64 f.w] 179)) :
  wB e a m w c g (.panicked [{ v:=.iface 143 (.pointer (some ⟨b,0,none⟩)),recovered:=false }]) d:=
 ⟨j,Ya ⟨f,l,b,Yz k.a2 h,rfl,i⟩⟩
def cU.a8(d:cU a c)(b:Nat):cU (a.a8 b) c:=⟨Y5 _ d.1,d.2⟩
def Ck{b:Ad}(k:eH b a){d:ByteArray}{v:Value}{f:Int->Bool}(j:Rd b d g w)(l:gA b.X v f w)(n:cU b c)(m:cO c e w) :
  Calls prog 250 #[.pointer (some ⟨a.R,0,none⟩),.map (some c),v] w (jl [a.S,c] b d w (fU d f e g) ia (cO c)):=by
 obtain⟨h,i,o,p⟩:=k;rw[<-h,<-i];exact Cj j l n m
def Ks{a0:ByteArray}(A:Nat)(a3:Rd a a0 g w)(q:cU a c)(d4:cO c e w) :
  Calls prog 193 #[.pointer (some ⟨a.R,0,none⟩),.int .i64 A,.map (some c)] w (wB [a.R,a.S,a.N,c] a a0 w c (ie a0 A e g)):=by
 have h4:=jw;obtain⟨f4,f5,f6,f7,f8,g9⟩:=a3.am;have h1:=AR;have b0:c ∉ [a.S]:=by simp;exact q.2.2.1
 go_in;go_wp2_with fail;refine(yx a3).mono ?_;rintro m h9 ⟨K,⟨G,a2,l,rfl,e5⟩|⟨u,l,p,h,rfl,j⟩⟩;rotate_left
 .exact aq (qK (K.af (by simp)) (ah [] _) (bm (cj l)) h j)
 have d5:=d4.O K b0;have x:=K.af (M':=[a.R,a.S,a.N,c]) (by simp);dsimp only[cr];go_wp2_with fail;by_cases a5:(12:Nat)<=A
 .refine(qm _ _ _ _ (by omega)).mono ?_;rintro m b9 ⟨⟨p,h,rfl,j⟩,c9⟩;exact aq (qK (f:=⟨5,G.w⟩) (x.u (bt _ c9)) x ((aF (aX l)).trans (bm (cj (show ej A 12 G.w a2=_ from Y9 a5)))) h j)
 have y:ej A 12 G.w a2=.ok ((),a2):=Y2 a5;refine(qn _ _ _ _ (by omega)).mono ?_;rintro m b9 ⟨rfl,rfl⟩;go_wp2_with fail;refine(Cc G.w e5).mono ?_;rintro m b9 ⟨L,⟨h8,i2,s,rfl,e6⟩|⟨u,s,p,h,rfl,j⟩⟩;rotate_left
 .exact aq (qK (x.u (L.af (by simp))) x ((aF (aX l)).trans ((aF (aX y)).trans (bm (cj s)))) h j)
 have d6:=d5.O L (by simp;exact q.2.1);have H:=x.u (L.af (M':=[a.R,a.S,a.N,c]) (by simp));go_wp2_with fail;refine(tz e6).mono ?_;rintro m f ⟨M,⟨b,i3,t,rfl,r⟩|⟨u,t,p,h,rfl,j⟩⟩;rotate_left
 .exact aq (qK (H.u (M.af (by simp))) H ((aF (aX l)).trans ((aF (aX y)).trans ((aF (aX s)).trans (bm (cj t))))) h j)
 have a7:=d6.O M (by simp;exact⟨q.2.2.1,q.2.2.2.1⟩);have a4:=H.u (M.af (M':=[a.R,a.S,a.N,c]) (by simp));dsimp only[fT];have c8:=r.bh;have h2:=r.lt.2.1;have h3:=aj a7;have e7:=r.ax (.cells #[.string ⟨b.1.toArray⟩,.int .i64 b.2,.int .i64 0] 343);have b2:=aK (w:=f) (o:=.cells #[.string ⟨b.1.toArray⟩,.int .i64 b.2,.int .i64 0] 343) rfl;have d7:cO c e (f.alloc (.cells #[.string ⟨b.1.toArray⟩,.int .i64 b.2,.int .i64 0] 343)):=a7.O ((ah [] f).G _) (by simp);have I:=a4.G (.cells #[.string ⟨b.1.toArray⟩,.int .i64 b.2,.int .i64 0] 343);have e1:f.heap.size ∉ [a.S]:=by simp;omega
 have e2:f.heap.size ∉ [a.S,c]:=by simp;omega
 go_wp2_with fail;refine(fh (eI a _) _ e7).mono ?_;rintro m i0 ⟨D,⟨i1,i4,z,rfl,b1⟩|⟨u,z,p,h,rfl,j⟩⟩;rotate_left
 .exact aq (qK (I.u (D.af (by simp))) I ((aF (aX l)).trans ((aF (aX y)).trans ((aF (aX s)).trans ((aF (aX t)).trans (bm (cj z)))))) h j)
 have b3:=(D.K _ (aj b2) e1).trans b2;have a8:=d7.O D b0;have c5:=I.u (D.af (M':=[a.R,a.S,a.N,c]) (by simp));go_wp2_with fail;refine(qB _ _ _).mono ?_;rintro m f2 ⟨v,rfl,B,d1⟩;have d0:=d1 (a.a8 f.heap.size).X b1.bh;have e8:=b1.aA B;have b4:=(B.block _ (aj b3)).trans b3;have d8:cO c e f2:=(B.block _ (aj a8)).trans a8;have J:=c5.u (bt _ B);go_wp2_with fail;refine(Ck (eI a _) e8 d0 (q.a8 _) d8).mono ?_;rintro m a1 ⟨O,⟨k,b7,f3,F,rfl,e9,d9⟩|⟨u,F,p,h,rfl,j⟩⟩;rotate_left
 .exact aq (qK (J.u (O.af (by simp))) J ((aF (aX l)).trans ((aF (aX y)).trans ((aF (aX s)).trans ((aF (aX t)).trans ((aF (aX z)).trans (bm F)))))) h j)
 have b5:=(O.K _ (aj b4) e2).trans b4;have c6:=J.u (O.af (M':=[a.R,a.S,a.N,c]) (by simp));have d2:az f3.F b.1=some none:=by rw[Nm F,Nj _ _ _ _ _ z];exact LC t
 obtain⟨h5,h6,h7,h0⟩:=dT b5;dsimp only[ia];have b6:=bv (i:=2) b5 (.int .i64 k);have f0:=qT (A':=a.a8 f.heap.size) r ⟨rfl,rfl,rfl,rfl⟩ e9 (p:=⟨f.heap.size,2,none⟩) (Y4 _) (by simp[Ad.a8]) (.int .i64 k);have e0:cO c b7 (a1.setCell ⟨f.heap.size,2,none⟩ (.int .i64 k)):=d9.O ((ah [f.heap.size] a1).a6 (by simp) _) (by simp;omega);have c7:=c6.cy (p:=⟨f.heap.size,2,none⟩) (Nat.le_of_lt_succ (Nat.lt_succ_of_le a4.a2)) (.int .i64 k);go_wp2_with fail;have E:=pp r.aI f0;generalize a1.setCell ⟨f.heap.size,2,none⟩ (.int .i64 k)=n at *
 have a6:bn a.X [(f.heap.size,jV (b.1,b.2,k))] n:=by
  intro b8 a9;simp only[Yc]at a9;subst a9;exact⟨b6,λd3=>by have:=c8 _ d3;simp at this⟩
 have C:Below n.heap.size n n.drew:=(Below.refl _ _).drew;obtain⟨f1,e4,e3⟩:=(E.nm.aA C).bQ E.aI.2.2.1 d2 (d:=.const b.1 b.2 k) (b:=f.heap.size) (bs':=[(f.heap.size,jV (b.1,b.2,k))]) (by show _∈_;simp[jV]) (a6.O (bt [] C) (by simp));dsimp only[cE]at e4;obtain⟨f9,g0,g1,g2,g3,g7⟩:=E.am;obtain⟨g4,g5,g6,g8⟩:=dT b6;have c1:=Z c7;have c2:=Z e0;have c4:=Z E;have c0:=Z a6;have c3:=Z e3;go_region;go_wp2;go_ret;have P:ai [a.N] n (dn n.drew a.N f1):=(bt _ C).u (gY _ _ _);refine⟨c1.j.u (P.af (by simp)),Y8 ⟨(b.1,b.2,k),b7,_,f.heap.size,?_,rfl,Rd.lY (c4.j.aA C) c3.j,c2.j.O P (by simp;exact q.2.2.2.1),c0.j.O P (by simpa using r.aI.2.2.1)⟩⟩;exact(aF (aX l)).trans ((aF (aX y)).trans ((aF (aX s)).trans ((aF (aX t)).trans ((aF (aX z)).trans (aF F)))))
end
section
variable {A r:Ad}{h z g l D:Nat}{s x e t:List Nat}{q u:List (Int×Int)}{a:List UInt8×Nat×Int}{d:List (List UInt8×Nat×Int)}{n:List UInt8×Nat}{m:Value}{f o c B:World}{E:List Value}{j w C:St}
def Ad.aC(A:Ad)(e:List Nat):Ad:={ A with X:=e++A.X }
def cD(A:Ad)(e:List Nat):eH (A.aC e) A:=⟨rfl,rfl,rfl,rfl⟩
def jq{d:ByteArray}(f:A.R∈A.X/\A.S∈A.X/\A.N∈A.X/\A.P∈A.X)(a:Rd (A.aC e) d j c):Rd A d j c:=
 ⟨a.me,a.sc,a.nm.cc (λ_ b=>Ym _ b),f,λg b=>a.bh g (Ym _ b),a.pr,a.np,a.gl,a.e6,a.b0⟩
def Rd.ce{d:ByteArray}(e:Rd A d C c)(m:eH r A)(l:Rd r d j f)(n:ai s f o)(g:∀a∈s,c.heap.size<=a/\a∈r.X):Rd r d j o:=by
 obtain⟨v,w,x,y⟩:=e.lt;obtain⟨⟨a,h⟩,⟨_,_,i⟩,⟨_,_,k⟩⟩:=e.gl;have h:=lq h;have i:=lq i;have k:=lq k;obtain⟨p,q,t,u⟩:=m;refine l.O n (λa b=>(g a b).2) ?_ ?_ ?_ ?_ ?_ ?_ ?_<;>(intro b;have:=(g _ b).1;omega)
def eL{b:Option Nat}(a:c.grownBy B b):ai b.toList c B:=
 ⟨a.os,a.tape,a.output,a.size,λg e f=>a.block g e (λd=>f (by rw[<-d];simp))⟩
def qS{m:ByteArray}{i:Option Nat}(p:Rd A m C c)(q:eH r A)(k:Rd r m j f)(w:f.grownBy o i)
  (t:∀b,i=some b->c.heap.size<=b/\b∈r.X) (v:i=some g\/g=f.heap.size) (x:g<o.heap.size):Rd (r.a8 g) m j o:=by
 have s:=eL w;have l:∀a∈i.toList,c.heap.size<=a/\a∈r.X:=λa h=>t a (by simpa using h);have d:=p.ce q k s l;obtain⟨y,z,B,D⟩:=d.aI;refine⟨d.me,d.sc,?_,⟨Y5 _ y,Y5 _ z,Y5 _ B,Y5 _ D⟩,?_,d.pr,d.np,d.gl,d.e6,d.b0⟩
 .rcases v with n|n
  .exact d.nm.cc (λu e=>by
    rcases Yg.1 e with rfl|e
    .exact(t _ n).2
    .exact e)
  .obtain⟨I,J,K,L⟩:=k.lt;refine(k.nm.a8 (b:=g) (by omega)).O s (λa h=>Y5 _ (l a h).2) (λh=>?_);have:=(l _ h).1;have:=p.lt.2.2.1;obtain⟨E,F,G,H⟩:=q;omega
 .intro u e;rcases Yg.1 e with rfl|e
  .exact x
  .exact d.bh u e
def bn.bZ{a:List Nat}{i:List (Nat×Obj)}{e:Option Nat}(m:bn a i f)(p:f.grownBy o e)(l:∀h,e=some h->h∈a)(n:e=some g\/g=f.heap.size):bn (g::a) i o:=by
 intro s r;obtain⟨k,c⟩:=m s r;have q:=aj k;refine⟨(p.block _ q (λb=>c (l _ b.symm))).trans k,?_⟩;intro d;rcases Yg.1 d with b|d
 .rcases n with j|j
  .exact c (by rw[b];exact l _ j)
  .omega
 .exact c d
def aY{b:TypeId}{n:Nat}{v:Value}(a:c.ownsRow z b D v n E)(k:ai s c B)(j:∀g,v.ownBlock=some g->g ∉ s):B.ownsRow z b D v n E:=by
 refine⟨a.1,?_⟩;rcases a.2 with a|⟨g,e,f,rfl,h,d,i⟩
 .exact Y8 a
 .exact Ya ⟨g,e,f,rfl,h,(k.K _ (aj d) (j g rfl)).trans d,i⟩
def gK{b:TypeId}{n:Nat}{v:Value}(d:c.ownsRow z b D v n E)(a:v.ownBlock=some g):z<=g/\g<c.heap.size:=by
 rcases d.2 with⟨rfl,_⟩|⟨j,h,i,rfl,e,f,k⟩
 .cases a
 .simp only[Value.ownBlock,Yu]at a;subst a;exact⟨e,aj f⟩
def ai.ce(b:ai s c f)(d:ai x f o)(j:∀a∈x,a∈s\/c.heap.size<=a):ai s c o:=
 ⟨d.os.trans b.os,d.d9.trans b.d9,d.d8.trans b.d8,Yz b.a2 d.a2,λe h i=>(d.K e (Yr h b.a2) (λk=>by
  rcases j e k with g|g
  .exact i g
  .omega)).trans (b.K e h i)⟩
def ai.cons{b:List Nat}(d:ai s c f)(h:ai x f o)(e:∀a∈s,a∈b)(g:∀a∈x,a∈b):ai b c o:=(d.af e).u (h.af g)
def nh(a:ByteArray)(n:List UInt8×Nat)(d:List (List UInt8×Nat×Int)):PM ao:=av (bV a [125]) λ_=>av (bV a [59]) λ_=>bT (.enum n.1 n.2 d)
def gr(b:ByteArray)(n:List UInt8×Nat):Nat->List (List UInt8×Nat×Int)->List (Int×Int)->PM ao
 |0,_,_=>fl 0 0
 |k+1,d,q=>λj=>match ie b d.length q j with
  |.ok (a,u,w)=>av (da b [44]) (λe=>if e then gr b n k (d++[a]) u else nh b n (d++[a])) w
  |.error c=>.error c
def rI{b:ByteArray}{c:Nat}(e:ie b d.length q j=.ok (a,u,w)) :
  gr b n (c+1) d q j=av (da b [44]) (λf=>if f then gr b n c (d++[a]) u else nh b n (d++[a])) w:=by simp only[gr,e]
def tq{b:ByteArray}{e:Nat}{a:Mar.a5}(c:ie b d.length q j=.error a) :
  gr b n (e+1) d q j=.error a:=by simp only[gr,c]
def gp(a:ByteArray)(b:Nat):PM ao:=av (iE b) λ_=>av (gs a) λn=>av (bV a [123]) λ_=>gr a n 13 [] []
structure jJ(A:Ad)(text:ByteArray)(c:World)(h l:Nat)(n:List UInt8×Nat)(d:List (List UInt8×Nat×Int))(t e:List Nat)(q:List (Int×Int))(m:Value)(j:St)(f:World):Prop where
 kp:ai [A.R,A.S,A.N] c f
 rd:Rd (A.aC e) text j f
 aI:h∈e/\l∈e/\h≠l
 aQ:∀y∈e,c.heap.size<=y
 b2:cO l q f
 aD:f.heap[h]? = some (.cells #[.string ⟨n.1.toArray⟩,.int .i64 n.2,m] 253)
 row:f.ownsRow c.heap.size 223 1 m d.length (t.map λb=>Value.pointer (some ⟨b,0,none⟩))
 ax:∀g,m.ownBlock=some g->g∈e/\g≠h/\g≠l
 bc:t.length=d.length
 ev:bn (A.aC e).X ((t.zip d).map λp=>(p.1,jV p.2)) f
def jJ.b1{b:ByteArray}(g:Rd A b C c)(a:jJ A b c h l n d t e q m j f):cU (A.aC e) l:=by
 obtain⟨k,o,p,r⟩:=g.lt;have i:=a.aQ _ a.aI.2.1;refine⟨Yf _ a.aI.2.1,?_,?_,?_,?_⟩<;>simp only[Ad.aC]<;>omega
def EE{K:ByteArray}{v L x:World}{k E:Nat}(M:Rd A K C c)
  (b:jJ A K c h l n d t e q m j f) (H:ai [A.R,A.S,A.N,l] f v) (a4:Rd (A.aC e) K w v) (b3:cO l u v) (b1:bn (A.aC e).X [(k,jV a)] v) (p:Below v.heap.size v L)
  (a3:x.ownsRow c.heap.size 223 1 (.slice (some ⟨g,0,none⟩) (d.length+1) E) (d.length+1) ((t.map λk=>Value.pointer (some ⟨k,0,none⟩))++[.pointer (some ⟨k,0,none⟩)]))
  (G:L.grownBy x m.ownBlock) (F:m.ownBlock=some g\/g=L.heap.size) (b2:g<x.heap.size) :
  jJ A K c h l n (d++[a]) (t++[k]) (g::e) u (.slice (some ⟨g,0,none⟩) (d.length+1) E) w (x.setCell ⟨h,2,none⟩ (.slice (some ⟨g,0,none⟩) (d.length+1) E)):=by
 obtain⟨J,a1,b8⟩:=b.aI;obtain⟨b6,_⟩:=gK a3 (g:=g) rfl;have b7:=aj b.aD;have d0:=aj b.b2;have c1:=b.aQ _ J;have d1:=b.aQ _ a1;have c3:=H.a2;have c4:=p.size;have c5:=G.size;have a2:g≠h:=by
  rcases F with o|o
  .exact(b.ax g o).2.1
  .omega
 have a7:g≠l:=by
  rcases F with o|o
  .exact(b.ax g o).2.2
  .omega
 have P:∀k,m.ownBlock=some k->c.heap.size<=k/\k∈(A.aC e).X:=λk p=>⟨b.aQ _ (b.ax k p).1,Yf _ (b.ax k p).1⟩;have O:=eL G;have z:ai [h] x (x.setCell ⟨h,2,none⟩ (.slice (some ⟨g,0,none⟩) (d.length+1) E)):=(ah [h] x).a6 (by simp) _;have I:ai [] v L:=bt _ p;obtain⟨c6,c7,c8,c9⟩:=M.lt;have b9:h ∉ m.ownBlock.toList:=by
  intro r;exact(b.ax h (by simpa using r)).2.1 rfl
 have c0:l ∉ m.ownBlock.toList:=by
  intro r;exact(b.ax l (by simpa using r)).2.2 rfl
 have b5:=(((b3.O I (by simp)).O O c0).O z (by simp;omega));have b0:x.heap[h]? = some (.cells #[.string ⟨n.1.toArray⟩,.int .i64 n.2,m] 253):=
  (O.K _ (by omega) b9).trans ((I.K _ (by omega) (by simp)).trans ((H.K _ b7 (by simp;omega)).trans b.aD))
 refine⟨?_,?_,⟨Y5 _ J,Y5 _ a1,b8⟩,?_,b5,?_,?_,?_,?_,?_⟩
 .refine(((b.kp.ce H ?_).ce I (by simp)).ce O ?_).ce z (by simp;omega)
  .intro a r;simp at r ⊢;rcases r with o|o|o|o
   .exact Y8 (Y8 o)
   .exact Y8 (Ya (Y8 o))
   .exact Y8 (Ya (Ya o))
   .exact Ya (by omega)
  .intro a r;exact Ya (P a (by simpa using r)).1
 .exact M.ce (cD A (g::e)) (qS M (cD A e) (a4.aA p) G P F b2) z (by
   intro a5 s;simp only[Yc]at s;subst s;exact⟨c1,Yf _ (Y5 _ J)⟩)
 .intro c2 a0;rcases Yg.1 a0 with rfl|a0
  .exact b6
  .exact b.aQ c2 a0
 .exact bv (i:=2) b0 _
 .have:=aY a3 z (by
   intro a6 y;simp only[Value.ownBlock,Yu]at y;subst y;simp;exact a2)
  simpa using this
 .intro a6 y;simp only[Value.ownBlock,Yu]at y;subst y;exact⟨Yb,a2,a7⟩
 .simp[b.bc]
 .rw[List.zip_append (by exact b.bc),List.map_append];have a8:∀a∈[A.R,A.S,A.N,l],a∈(A.aC e).X:=by
   have:=a4.aI;intro a5 s;simp at s;rcases s with rfl|rfl|rfl|rfl
   .exact this.1
   .exact this.2.1
   .exact this.2.2.1
   .exact Yf _ a1
  have b4:=b.ev.O H a8;have a9:bn (A.aC e).X (((t.zip d).map λD=>(D.1,jV D.2))++[(k,jV a)]) v:=by
   intro D B;rcases Yn.1 B with B|B
   .exact b4 D B
   .exact b1 D B
  exact((a9.O I (by simp)).bZ G (λk p=>(P k p).2) F).O z (by
   intro a5 s;simp only[Yc]at s;subst s;exact Y5 _ (Yf _ J))
end
end Go.Proofs.YtjdhaegijjednaaGreatDoor
namespace Go.Proofs.YtjdhaegijjednaaGreatDoor
open Go.RowKit
open Go.Proofs.Tryz
structure ef where
 H:Nat
 text:List UInt8
 w:Nat
 fin:Nat
 n:Int
 e:Nat
abbrev du(a:ef):Array Value:=#[.int .i64 a.H,.string ⟨a.text.toArray⟩,.int .i64 a.w,.int .i64 a.fin,.int .i64 a.n,.int .i64 a.e]
def cR(a:List UInt8)(b:Nat):ef:=match Mar.ds (a.drop (dV a b)) (dV a b)with
 |.ok c=>⟨c.H,c.text,dV a b,dV a b+c.text.length,c.n,0⟩
 |.error d=>⟨5,[],dV a b,0,0,d.no⟩
def rR{b:List UInt8}{a c:Nat}(o:a<b.length)(m:a<c)(n:c<=b.length)(i:∀d (g:d<b.length),a<d->d<c->Mar.cX b[d]=true)(j:∀f:c<b.length,Mar.cX b[c]=false):(b.drop a).take (c-a)=Mar.ba (b.drop a):=by
 have:=yL ⟨(b.drop a).toArray⟩ (c-a) (by omega) (by simp[ByteArray.size];omega) (by
  intro d g k l;have e:d<(b.drop a).length:=by simpa[ByteArray.size]using g
  show Mar.cX ((b.drop a)[d]'e)=true;rw[List.getElem_drop];exact i _ (by simp at e;omega) (by omega) (by omega)) (by
  intro f;have e:c-a<(b.drop a).length:=by simpa[ByteArray.size]using f
  show Mar.cX ((b.drop a)[c-a]'e)=false;rw[List.getElem_drop];have h:a+(c-a)=c:=by omega
  simp only[h];exact j _)
 exact this.symm
def pD(c:List UInt8)(a b:Nat):(⟨c.toArray⟩:ByteArray).extract a (a+b)=⟨((c.drop a).take b).toArray⟩:=by
 apply ByteArray.ext;simp only[ByteArray.data_extract];apply Array.ext';simp[Array.toList_extract,List.extract]
def Bp{a:List UInt8}(b:Mar.e3 a=true):¬16<a.length:=by
 have:Mar.i7.all (λd=>decide (d.length<=16))=true:=by decide
 have c:a∈Mar.i7:=by simpa[Mar.e3]using b
 have:=List.all_eq_true.1 this a c;simp at this;omega
def Fb(b:List UInt8)(h a:Nat)(g:h<=b.length)(b4:b.length<=2000)(I:dV b h=a)(z:a<b.length)(H:Mar.d0 b[a]=true)(e:World) :
  Calls prog 80 #[.string ⟨b.toArray⟩,.int .i64 h] e λf a6=>f=.returned (.agg (du (cR b h)))/\ai [] e a6:=by
 have C:=λa4=>tc b h g (by omega) a4;rw[I]at C;have C:=Z C;have L:=Z (pR b[a]);have P:=Z (mf b[a]);rw[H]at L;have K:U (cR b h=match Mar.d7 (Mar.ba (b.drop a)) a with|.ok e=>⟨e.H,e.text,a,a+e.text.length,e.n,0⟩|.error y=>⟨5,[],a,0,0,y.no⟩):=by
  show _=_;unfold cR;rw[I,Yk z];unfold Mar.ds;simp only[H,if_true]
 have b1:(0:Int)<=(a:Int):=by omega
 have b2:(a:Int)<(b.length:Int):=by omega
 have b3:((a:Int)==(b.length:Int))=false:=by rw[Yi];omega
 have b0:(⟨b.toArray⟩:ByteArray)[a]'(by simp[ByteArray.size];exact z)=b[a]:=rfl;clear I H;go_in;go_wp2_with fail;refine(C.j _).mono ?_;rintro f m ⟨rfl,rfl⟩;go_wp2_with fail;refine(L.j _).mono ?_;rintro f m ⟨rfl,rfl⟩;go_wp2_with fail;refine(P.j _).mono ?_;rintro f m ⟨rfl,rfl⟩;go_wp2_with fail;go_loopw [6] (λG a5=>∃c:Nat,G=.int .i64 c/\a<c/\c<=b.length/\U (∀j (D:j<b.length),a<j->j<c->Mar.cX b[j]=true)/\a5=e.alloc (.cells #[.int .i64 0,.string ⟨#[]⟩,.int .i64 0,.int .i64 0,.int .i64 0,.int .i64 0] 112)) (λG _=>b.length-(intOf G).toNat)
 case atStart=>exact⟨a+1,by go_num,by omega,z,(λj D M R=>by omega),rfl⟩
 case round=>
  obtain⟨c,rfl,O,N,u,rfl⟩:=hrel;rcases Yj c b.length with B|B
  .have b5:(0:Int)<=(c:Int):=by omega
   have a7:(c:Int)<(b.length:Int):=by omega
   have a9:(⟨b.toArray⟩:ByteArray)[c]'(by simp[ByteArray.size];exact B)=b[c]:=rfl;have r:=Z (pR b[c]);have w:=Z (mf b[c]);cases k:Mar.cX b[c]with
   |true=>
    have E:U (∀j (D:j<b.length),a<j->j<c+1->Mar.cX b[j]=true):=by
     intro j D M R;by_cases f:j=c
     .subst f;exact k
     .exact u.j j D M (by omega)
    clear u;cases p:Mar.d0 b[c]with
    |true=>
     rw[p]at r;clear k p;go_wp2_with fail;refine(r.j _).mono ?_;rintro f m ⟨rfl,rfl⟩;go_wp2;exact⟨⟨c+1,by go_num,by omega,B,E,trivial⟩,by simp[intOf];omega⟩
    |false=>
     rw[p]at r;cases q:Mar.dk b[c]with
     |true=>
      rw[q]at w;clear k p q;go_wp2_with fail;refine(r.j _).mono ?_;rintro f m ⟨rfl,rfl⟩;go_wp2_with fail;refine(w.j _).mono ?_;rintro f m ⟨rfl,rfl⟩;go_wp2;exact⟨⟨c+1,by go_num,by omega,B,E,trivial⟩,by simp[intOf];omega⟩
     |false=>
      rw[q]at w;have S:((b[c].toNat:Int)==95)=true:=by
       simp only[Mar.cX,p,q,Bool.false_or,beq_iff_eq]at k;rw[k];rfl
      clear k p q;go_wp2_with fail;refine(r.j _).mono ?_;rintro f m ⟨rfl,rfl⟩;go_wp2_with fail;refine(w.j _).mono ?_;rintro f m ⟨rfl,rfl⟩;go_wp2;exact⟨⟨c+1,by go_num,by omega,B,E,trivial⟩,by simp[intOf];omega⟩
   |false=>
    have s:=rR z O N u.j (λ_=>k);have a0:Mar.d0 b[c]=false/\Mar.dk b[c]=false/\((b[c].toNat:Int)==95)=false:=by
     simp only[Mar.cX,Bool.or_eq_false_iff]at k;refine⟨k.1.1,k.1.2,?_⟩;have:=k.2;rw[Yi]at this ⊢;omega
    obtain⟨p,q,S⟩:=a0;rw[p]at r;rw[q]at w;clear k p q;go_wp2_with fail;refine(r.j _).mono ?_;rintro f m ⟨rfl,rfl⟩;go_wp2_with fail;refine(w.j _).mono ?_;rintro f m ⟨rfl,rfl⟩;obtain⟨d,t⟩:∃d,U (d=Mar.ba (b.drop a)):=⟨_,rfl⟩;have hcut:(⟨b.toArray⟩:ByteArray).extract a c=⟨d.toArray⟩:=by
     have f:=pD b a (c-a);rw[show a+(c-a)=c by omega,s,<-t.j]at f;exact f
    have A:c=a+d.length:=by
     rw[t.j,<-s,YW,YI];omega
    have F:=Z (Bo ⟨d.toArray⟩);have i:U (cR b h=match Mar.d7 d a with|.ok e=>⟨e.H,e.text,a,a+e.text.length,e.n,0⟩|.error y=>⟨5,[],a,0,0,y.no⟩):=by
     show _=_;rw[K.j,<-t.j]
    have a1:(0:Int)<=(a:Int):=by omega
    have a2:(a:Int)<=(c:Int):=by omega
    have a3:(c:Int)<=(b.length:Int):=by omega
    have x:=Z A;clear s u A;go_wp2_with fail;refine(F.j _).mono ?_;rintro f m ⟨rfl,rfl⟩;cases g:Mar.e3 d with
    |true=>
     have o:¬16<d.length:=Bp g;have l:U (cR b h=⟨2,d,a,a+d.length,0,0⟩):=by show _=_;rw[i.j];unfold Mar.d7;rw[Y2 o,Y9 g]
     clear g i;go_wp2;refine bodyPost_ret (v:=.agg (du ⟨2,d,a,a+d.length,0,0⟩)) (by simp[results,results80,go_sem,x.j]) rfl ?_;exact⟨by rw[l.j],(ah [] e).G _⟩
    |false=>
     by_cases o:16<d.length
     .have l:U (cR b h=⟨5,[],a,0,0,7⟩):=by show _=_;rw[i.j];unfold Mar.d7;rw[Y9 o]
      have J:(16:Int)<(d.length:Int):=by omega
      clear g i;go_wp2;refine bodyPost_ret (v:=.agg (du ⟨5,[],a,0,0,7⟩)) (by simp[results,results80,go_sem]) rfl ?_;exact⟨by rw[l.j],(ah [] e).G _⟩
     .have l:U (cR b h=⟨1,d,a,a+d.length,0,0⟩):=by show _=_;rw[i.j];unfold Mar.d7;rw[Y2 o,Y2 (by rw[g];simp)]
      have J:¬((16:Int)<(d.length:Int)):=by omega
      clear g i;go_wp2;refine bodyPost_ret (v:=.agg (du ⟨1,d,a,a+d.length,0,0⟩)) (by simp[results,results80,go_sem,x.j]) rfl ?_;exact⟨by rw[l.j],(ah [] e).G _⟩
  .have s:=rR z O N u.j (λa8=>by omega);have a7:¬((c:Int)<(b.length:Int)):=by omega
   obtain⟨d,t⟩:∃d,U (d=Mar.ba (b.drop a)):=⟨_,rfl⟩;have hcut:(⟨b.toArray⟩:ByteArray).extract a c=⟨d.toArray⟩:=by
    have f:=pD b a (c-a);rw[show a+(c-a)=c by omega,s,<-t.j]at f;exact f
   have A:c=a+d.length:=by
    rw[t.j,<-s,YW,YI];omega
   have F:=Z (Bo ⟨d.toArray⟩);have i:U (cR b h=match Mar.d7 d a with|.ok e=>⟨e.H,e.text,a,a+e.text.length,e.n,0⟩|.error y=>⟨5,[],a,0,0,y.no⟩):=by
    show _=_;rw[K.j,<-t.j]
   have a1:(0:Int)<=(a:Int):=by omega
   have a2:(a:Int)<=(c:Int):=by omega
   have a3:(c:Int)<=(b.length:Int):=by omega
   have x:=Z A;clear s u A;go_wp2_with fail;refine(F.j _).mono ?_;rintro f m ⟨rfl,rfl⟩;cases g:Mar.e3 d with
   |true=>
    have o:¬16<d.length:=Bp g;have l:U (cR b h=⟨2,d,a,a+d.length,0,0⟩):=by show _=_;rw[i.j];unfold Mar.d7;rw[Y2 o,Y9 g]
    clear g i;go_wp2;refine bodyPost_ret (v:=.agg (du ⟨2,d,a,a+d.length,0,0⟩)) (by simp[results,results80,go_sem,x.j]) rfl ?_;exact⟨by rw[l.j],(ah [] e).G _⟩
   |false=>
    by_cases o:16<d.length
    .have l:U (cR b h=⟨5,[],a,0,0,7⟩):=by show _=_;rw[i.j];unfold Mar.d7;rw[Y9 o]
     have J:(16:Int)<(d.length:Int):=by omega
     clear g i;go_wp2;refine bodyPost_ret (v:=.agg (du ⟨5,[],a,0,0,7⟩)) (by simp[results,results80,go_sem]) rfl ?_;exact⟨by rw[l.j],(ah [] e).G _⟩
    .have l:U (cR b h=⟨1,d,a,a+d.length,0,0⟩):=by show _=_;rw[i.j];unfold Mar.d7;rw[Y2 o,Y2 (by rw[g];simp)]
     have J:¬((16:Int)<(d.length:Int)):=by omega
     clear g i;go_wp2;refine bodyPost_ret (v:=.agg (du ⟨1,d,a,a+d.length,0,0⟩)) (by simp[results,results80,go_sem,x.j]) rfl ?_;exact⟨by rw[l.j],(ah [] e).G _⟩
def An(a:List UInt8)(b:Nat):(⟨a.toArray⟩:ByteArray).extract b a.length=⟨(a.drop b).toArray⟩:=by
 apply ByteArray.ext;simp only[ByteArray.data_extract];apply Array.ext';simp[Array.toList_extract,List.extract];exact List.take_of_length_le (by simp)
def EZ(b:List UInt8)(k a:Nat)(b1:k<=b.length)(c6:b.length<=2000)(N:dV b k=a)(x:a<b.length)(C:Mar.dk b[a]=true)(l:World) :
  Calls prog 80 #[.string ⟨b.toArray⟩,.int .i64 k] l λe b7=>e=.returned (.agg (du (cR b k)))/\ai [] l b7:=by
 have H:=λb5=>tc b k b1 (by omega) b5;rw[N]at H;have H:=Z H;have a2:=Z (pR b[a]);have a1:=Z (mf b[a]);have a9:=(oz b[a]).1 C;have M:Mar.d0 b[a]=false:=by
  unfold Mar.d0;simp;omega
 have c0:((b[a].toNat:Int)==45)=false:=by rw[Yi];omega
 rw[M]at a2;rw[C]at a1;have a0:U (cR b k=match Mar.e5 (Mar.ba (b.drop a)) a with|.ok l=>⟨l.H,l.text,a,a+l.text.length,l.n,0⟩|.error a6=>⟨5,[],a,0,0,a6.no⟩):=by
  show _=_;unfold cR;rw[N,Yk x];unfold Mar.ds;simp only[M,Ye,if_false]
  rw[Y9 (by rw[C];rfl)];all_goals (cases Mar.e5 (Mar.ba (b[a]::List.drop (a+1) b)) a<;>rfl)
 have c3:(0:Int)<=(a:Int):=by omega
 have c4:(a:Int)<(b.length:Int):=by omega
 have c5:((a:Int)==(b.length:Int))=false:=by rw[Yi];omega
 have c2:(⟨b.toArray⟩:ByteArray)[a]'(by simp[ByteArray.size];exact x)=b[a]:=rfl;have S:=Z C;clear N C M a9;go_in;go_wp2_with fail;refine(H.j _).mono ?_;rintro e i ⟨rfl,rfl⟩;go_wp2_with fail;refine(a2.j _).mono ?_;rintro e i ⟨rfl,rfl⟩;go_wp2_with fail;refine(a1.j _).mono ?_;rintro e i ⟨rfl,rfl⟩;go_wp2_with fail;go_loopw [6] (λL b6=>∃c:Nat,L=.int .i64 c/\a<c/\c<=b.length/\U (∀h (I:h<b.length),a<h->h<c->Mar.cX b[h]=true)/\b6=l.alloc (.cells #[.int .i64 0,.string ⟨#[]⟩,.int .i64 0,.int .i64 0,.int .i64 0,.int .i64 0] 112)) (λL _=>b.length-(intOf L).toNat)
 case atStart=>exact⟨a+1,by go_num,by omega,x,(λh I a3 a7=>by omega),rfl⟩
 case round=>
  obtain⟨c,rfl,a5,a4,z,rfl⟩:=hrel;rcases Yj c b.length with E|E
  .have c7:(0:Int)<=(c:Int):=by omega
   have b8:(c:Int)<(b.length:Int):=by omega
   have c1:(⟨b.toArray⟩:ByteArray)[c]'(by simp[ByteArray.size];exact E)=b[c]:=rfl;have u:=Z (pR b[c]);have A:=Z (mf b[c]);cases j:Mar.cX b[c]with
   |true=>
    have J:U (∀h (I:h<b.length),a<h->h<c+1->Mar.cX b[h]=true):=by
     intro h I a3 a7;by_cases e:h=c
     .subst e;exact j
     .exact z.j h I a3 (by omega)
    clear z;cases p:Mar.d0 b[c]with
    |true=>
     rw[p]at u;clear j p;go_wp2_with fail;refine(u.j _).mono ?_;rintro e i ⟨rfl,rfl⟩;go_wp2;exact⟨⟨c+1,by go_num,by omega,E,J,trivial⟩,by simp[intOf];omega⟩
    |false=>
     rw[p]at u;cases s:Mar.dk b[c]with
     |true=>
      rw[s]at A;clear j p s;go_wp2_with fail;refine(u.j _).mono ?_;rintro e i ⟨rfl,rfl⟩;go_wp2_with fail;refine(A.j _).mono ?_;rintro e i ⟨rfl,rfl⟩;go_wp2;exact⟨⟨c+1,by go_num,by omega,E,J,trivial⟩,by simp[intOf];omega⟩
     |false=>
      rw[s]at A;have a8:((b[c].toNat:Int)==95)=true:=by
       simp only[Mar.cX,p,s,Bool.false_or,beq_iff_eq]at j;rw[j];rfl
      clear j p s;go_wp2_with fail;refine(u.j _).mono ?_;rintro e i ⟨rfl,rfl⟩;go_wp2_with fail;refine(A.j _).mono ?_;rintro e i ⟨rfl,rfl⟩;go_wp2;exact⟨⟨c+1,by go_num,by omega,E,J,trivial⟩,by simp[intOf];omega⟩
   |false=>
    have w:=rR x a5 a4 z.j (λ_=>j);have b0:Mar.d0 b[c]=false/\Mar.dk b[c]=false/\((b[c].toNat:Int)==95)=false:=by
     simp only[Mar.cX,Bool.or_eq_false_iff]at j;refine⟨j.1.1,j.1.2,?_⟩;have:=j.2;rw[Yi]at this ⊢;omega
    obtain⟨p,s,a8⟩:=b0;rw[p]at u;rw[s]at A;clear j p s;go_wp2_with fail;refine(u.j _).mono ?_;rintro e i ⟨rfl,rfl⟩;go_wp2_with fail;refine(A.j _).mono ?_;rintro e i ⟨rfl,rfl⟩;obtain⟨d,m⟩:∃d,U (d=Mar.ba (b.drop a)):=⟨_,rfl⟩;have hcut:(⟨b.toArray⟩:ByteArray).extract a c=⟨d.toArray⟩:=by
     have e:=pD b a (c-a);rw[show a+(c-a)=c by omega,w,<-m.j]at e;exact e
    have D:c=a+d.length:=by
     rw[m.j,<-w,YW,YI];omega
    have O:d.length<=2000:=by omega
    obtain⟨o,y,G,B⟩:∃o y,d=o::y/\Mar.dk o=true:=⟨_,_,by rw[m.j,Yk x];rfl,S.j⟩;have F:Mar.f0 d=cB d false:=by rw[G];exact Cm B
    have f:=Z (vC d false O);clear G B o y;have n:U (cR b k=match cB d false with|some r=>⟨3,d,a,a+d.length,r,0⟩|none=>⟨5,[],a,0,0,4⟩):=by
     show _=_;rw[a0.j,<-m.j];unfold Mar.e5;rw[F];cases cB d false<;>rfl
    have b2:(0:Int)<=(a:Int):=by omega
    have b3:(a:Int)<=(c:Int):=by omega
    have b4:(c:Int)<=(b.length:Int):=by omega
    have K:=Z D;clear w z D F m;cases g:cB d false with
    |none=>
     rw[g]at f;have t:U (cR b k=⟨5,[],a,0,0,4⟩):=by show _=_;rw[n.j,g]
     clear g n;go_wp2_with fail;refine(f.j _).mono ?_;rintro e i ⟨rfl,r,rfl,q⟩;clear f q;have P:(none:Option Int).isSome=false:=rfl;go_wp2;refine bodyPost_ret (v:=.agg (du ⟨5,[],a,0,0,4⟩)) (by simp[results,results80,go_sem]) rfl ?_;exact⟨by rw[t.j],(ah [] l).G _⟩
    |some v=>
     rw[g]at f;have t:U (cR b k=⟨3,d,a,a+d.length,v,0⟩):=by show _=_;rw[n.j,g]
     clear g n;go_wp2_with fail;refine(f.j _).mono ?_;rintro e i ⟨rfl,r,rfl,q⟩;obtain rfl:=q v rfl;clear f q;have P:∀R:Int,(some R).isSome=true:=λ_=>rfl;go_wp2;refine bodyPost_ret (v:=.agg (du ⟨3,d,a,a+d.length,r,0⟩)) (by simp[results,results80,go_sem,K.j]) rfl ?_;exact⟨by rw[t.j],(ah [] l).G _⟩
  .have w:=rR x a5 a4 z.j (λb9=>by omega);have b8:¬((c:Int)<(b.length:Int)):=by omega
   obtain⟨d,m⟩:∃d,U (d=Mar.ba (b.drop a)):=⟨_,rfl⟩;have hcut:(⟨b.toArray⟩:ByteArray).extract a c=⟨d.toArray⟩:=by
    have e:=pD b a (c-a);rw[show a+(c-a)=c by omega,w,<-m.j]at e;exact e
   have D:c=a+d.length:=by
    rw[m.j,<-w,YW,YI];omega
   have O:d.length<=2000:=by omega
   obtain⟨o,y,G,B⟩:∃o y,d=o::y/\Mar.dk o=true:=⟨_,_,by rw[m.j,Yk x];rfl,S.j⟩;have F:Mar.f0 d=cB d false:=by rw[G];exact Cm B
   have f:=Z (vC d false O);clear G B o y;have n:U (cR b k=match cB d false with|some r=>⟨3,d,a,a+d.length,r,0⟩|none=>⟨5,[],a,0,0,4⟩):=by
    show _=_;rw[a0.j,<-m.j];unfold Mar.e5;rw[F];cases cB d false<;>rfl
   have b2:(0:Int)<=(a:Int):=by omega
   have b3:(a:Int)<=(c:Int):=by omega
   have b4:(c:Int)<=(b.length:Int):=by omega
   have K:=Z D;clear w z D F m;cases g:cB d false with
   |none=>
    rw[g]at f;have t:U (cR b k=⟨5,[],a,0,0,4⟩):=by show _=_;rw[n.j,g]
    clear g n;go_wp2_with fail;refine(f.j _).mono ?_;rintro e i ⟨rfl,r,rfl,q⟩;clear f q;have P:(none:Option Int).isSome=false:=rfl;go_wp2;refine bodyPost_ret (v:=.agg (du ⟨5,[],a,0,0,4⟩)) (by simp[results,results80,go_sem]) rfl ?_;exact⟨by rw[t.j],(ah [] l).G _⟩
   |some v=>
    rw[g]at f;have t:U (cR b k=⟨3,d,a,a+d.length,v,0⟩):=by show _=_;rw[n.j,g]
    clear g n;go_wp2_with fail;refine(f.j _).mono ?_;rintro e i ⟨rfl,r,rfl,q⟩;obtain rfl:=q v rfl;clear f q;have P:∀R:Int,(some R).isSome=true:=λ_=>rfl;go_wp2;refine bodyPost_ret (v:=.agg (du ⟨3,d,a,a+d.length,r,0⟩)) (by simp[results,results80,go_sem,K.j]) rfl ?_;exact⟨by rw[t.j],(ah [] l).G _⟩
def Fc(b:List UInt8)(k a:Nat)(a8:k<=b.length)(c5:b.length<=2000)(L:dV b k=a)(w:a<b.length)(B:b[a]=45)(l:World) :
  Calls prog 80 #[.string ⟨b.toArray⟩,.int .i64 k] l λe b6=>e=.returned (.agg (du (cR b k)))/\ai [] l b6:=by
 have F:=λb4=>tc b k a8 (by omega) b4;rw[L]at F;have F:=Z F;have S:=Z (pR b[a]);have R:=Z (mf b[a]);have K:Mar.d0 b[a]=false:=by rw[B];rfl
 have a1:Mar.dk b[a]=false:=by rw[B];rfl
 have b9:((b[a].toNat:Int)==45)=true:=by rw[B];rfl
 rw[K]at S;rw[a1]at R;have P:U (cR b k=match Mar.e5 (Mar.ba (b.drop a)) a with|.ok l=>⟨l.H,l.text,a,a+l.text.length,l.n,0⟩|.error a4=>⟨5,[],a,0,0,a4.no⟩):=by
  show _=_;unfold cR;rw[L,Yk w];unfold Mar.ds;simp only[K,Ye,if_false]
  rw[Y9 (by rw[B];rfl)];all_goals (cases Mar.e5 (Mar.ba (b[a]::List.drop (a+1) b)) a<;>rfl)
 have c2:(0:Int)<=(a:Int):=by omega
 have c3:(a:Int)<(b.length:Int):=by omega
 have c4:((a:Int)==(b.length:Int))=false:=by rw[Yi];omega
 have c1:(⟨b.toArray⟩:ByteArray)[a]'(by simp[ByteArray.size];exact w)=b[a]:=rfl;have O:=Z B;clear L B K a1;go_in;go_wp2_with fail;refine(F.j _).mono ?_;rintro e i ⟨rfl,rfl⟩;go_wp2_with fail;refine(S.j _).mono ?_;rintro e i ⟨rfl,rfl⟩;go_wp2_with fail;refine(R.j _).mono ?_;rintro e i ⟨rfl,rfl⟩;go_wp2_with fail;go_loopw [6] (λJ b5=>∃d:Nat,J=.int .i64 d/\a<d/\d<=b.length/\U (∀h (G:h<b.length),a<h->h<d->Mar.cX b[h]=true)/\b5=l.alloc (.cells #[.int .i64 0,.string ⟨#[]⟩,.int .i64 0,.int .i64 0,.int .i64 0,.int .i64 0] 112)) (λJ _=>b.length-(intOf J).toNat)
 case atStart=>exact⟨a+1,by go_num,by omega,w,(λh G a0 a5=>by omega),rfl⟩
 case round=>
  obtain⟨d,rfl,a3,a2,z,rfl⟩:=hrel;rcases Yj d b.length with D|D
  .have c6:(0:Int)<=(d:Int):=by omega
   have b7:(d:Int)<(b.length:Int):=by omega
   have c0:(⟨b.toArray⟩:ByteArray)[d]'(by simp[ByteArray.size];exact D)=b[d]:=rfl;have t:=Z (pR b[d]);have A:=Z (mf b[d]);cases j:Mar.cX b[d]with
   |true=>
    have H:U (∀h (G:h<b.length),a<h->h<d+1->Mar.cX b[h]=true):=by
     intro h G a0 a5;by_cases e:h=d
     .subst e;exact j
     .exact z.j h G a0 (by omega)
    clear z;cases p:Mar.d0 b[d]with
    |true=>
     rw[p]at t;clear j p;go_wp2_with fail;refine(t.j _).mono ?_;rintro e i ⟨rfl,rfl⟩;go_wp2;exact⟨⟨d+1,by go_num,by omega,D,H,trivial⟩,by simp[intOf];omega⟩
    |false=>
     rw[p]at t;cases n:Mar.dk b[d]with
     |true=>
      rw[n]at A;clear j p n;go_wp2_with fail;refine(t.j _).mono ?_;rintro e i ⟨rfl,rfl⟩;go_wp2_with fail;refine(A.j _).mono ?_;rintro e i ⟨rfl,rfl⟩;go_wp2;exact⟨⟨d+1,by go_num,by omega,D,H,trivial⟩,by simp[intOf];omega⟩
     |false=>
      rw[n]at A;have a6:((b[d].toNat:Int)==95)=true:=by
       simp only[Mar.cX,p,n,Bool.false_or,beq_iff_eq]at j;rw[j];rfl
      clear j p n;go_wp2_with fail;refine(t.j _).mono ?_;rintro e i ⟨rfl,rfl⟩;go_wp2_with fail;refine(A.j _).mono ?_;rintro e i ⟨rfl,rfl⟩;go_wp2;exact⟨⟨d+1,by go_num,by omega,D,H,trivial⟩,by simp[intOf];omega⟩
   |false=>
    have u:=rR w a3 a2 z.j (λ_=>j);have a7:Mar.d0 b[d]=false/\Mar.dk b[d]=false/\((b[d].toNat:Int)==95)=false:=by
     simp only[Mar.cX,Bool.or_eq_false_iff]at j;refine⟨j.1.1,j.1.2,?_⟩;have:=j.2;rw[Yi]at this ⊢;omega
    obtain⟨p,n,a6⟩:=a7;rw[p]at t;rw[n]at A;clear j p n;go_wp2_with fail;refine(t.j _).mono ?_;rintro e i ⟨rfl,rfl⟩;go_wp2_with fail;refine(A.j _).mono ?_;rintro e i ⟨rfl,rfl⟩;obtain⟨c,m⟩:∃c,U (c=Mar.ba (b.drop a)):=⟨_,rfl⟩;have hcut:(⟨b.toArray⟩:ByteArray).extract a d=⟨c.toArray⟩:=by
     have e:=pD b a (d-a);rw[show a+(d-a)=d by omega,u,<-m.j]at e;exact e
    have C:d=a+c.length:=by
     rw[m.j,<-u,YW,YI];omega
    have b0:c.length<=2000:=by omega
    obtain⟨y,x⟩:∃y,c=45::y:=⟨_,by rw[m.j,Yk w,O.j];rfl⟩;have E:Mar.f0 c=cB c.tail true:=by rw[x];exact Cl y
    have f:=Z (vC c.tail true (by rw[List.length_tail];omega));have n:(⟨c.toArray⟩:ByteArray).extract 1 c.length=⟨c.tail.toArray⟩:=by
     have e:=An c 1;rw[List.drop_one]at e;exact e
    have a9:(1:Int)<=(c.length:Int):=by rw[x];simp;omega
    clear x;have o:U (cR b k=match cB c.tail true with|some r=>⟨3,c,a,a+c.length,r,0⟩|none=>⟨5,[],a,0,0,4⟩):=by
     show _=_;rw[P.j,<-m.j];unfold Mar.e5;rw[E];cases cB c.tail true<;>rfl
    have b1:(0:Int)<=(a:Int):=by omega
    have b2:(a:Int)<=(d:Int):=by omega
    have b3:(d:Int)<=(b.length:Int):=by omega
    have I:=Z C;clear u z C E m;cases g:cB c.tail true with
    |none=>
     rw[g]at f;have s:U (cR b k=⟨5,[],a,0,0,4⟩):=by show _=_;rw[o.j,g]
     clear g o;go_wp2_with fail;refine(f.j _).mono ?_;rintro e i ⟨rfl,r,rfl,q⟩;clear f q;have M:(none:Option Int).isSome=false:=rfl;go_wp2;refine bodyPost_ret (v:=.agg (du ⟨5,[],a,0,0,4⟩)) (by simp[results,results80,go_sem]) rfl ?_;exact⟨by rw[s.j],(ah [] l).G _⟩
    |some v=>
     rw[g]at f;have s:U (cR b k=⟨3,c,a,a+c.length,v,0⟩):=by show _=_;rw[o.j,g]
     clear g o;go_wp2_with fail;refine(f.j _).mono ?_;rintro e i ⟨rfl,r,rfl,q⟩;obtain rfl:=q v rfl;clear f q;have M:∀N:Int,(some N).isSome=true:=λ_=>rfl;go_wp2;refine bodyPost_ret (v:=.agg (du ⟨3,c,a,a+c.length,r,0⟩)) (by simp[results,results80,go_sem,I.j]) rfl ?_;exact⟨by rw[s.j],(ah [] l).G _⟩
  .have u:=rR w a3 a2 z.j (λb8=>by omega);have b7:¬((d:Int)<(b.length:Int)):=by omega
   obtain⟨c,m⟩:∃c,U (c=Mar.ba (b.drop a)):=⟨_,rfl⟩;have hcut:(⟨b.toArray⟩:ByteArray).extract a d=⟨c.toArray⟩:=by
    have e:=pD b a (d-a);rw[show a+(d-a)=d by omega,u,<-m.j]at e;exact e
   have C:d=a+c.length:=by
    rw[m.j,<-u,YW,YI];omega
   have b0:c.length<=2000:=by omega
   obtain⟨y,x⟩:∃y,c=45::y:=⟨_,by rw[m.j,Yk w,O.j];rfl⟩;have E:Mar.f0 c=cB c.tail true:=by rw[x];exact Cl y
   have f:=Z (vC c.tail true (by rw[List.length_tail];omega));have n:(⟨c.toArray⟩:ByteArray).extract 1 c.length=⟨c.tail.toArray⟩:=by
    have e:=An c 1;rw[List.drop_one]at e;exact e
   have a9:(1:Int)<=(c.length:Int):=by rw[x];simp;omega
   clear x;have o:U (cR b k=match cB c.tail true with|some r=>⟨3,c,a,a+c.length,r,0⟩|none=>⟨5,[],a,0,0,4⟩):=by
    show _=_;rw[P.j,<-m.j];unfold Mar.e5;rw[E];cases cB c.tail true<;>rfl
   have b1:(0:Int)<=(a:Int):=by omega
   have b2:(a:Int)<=(d:Int):=by omega
   have b3:(d:Int)<=(b.length:Int):=by omega
   have I:=Z C;clear u z C E m;cases g:cB c.tail true with
   |none=>
    rw[g]at f;have s:U (cR b k=⟨5,[],a,0,0,4⟩):=by show _=_;rw[o.j,g]
    clear g o;go_wp2_with fail;refine(f.j _).mono ?_;rintro e i ⟨rfl,r,rfl,q⟩;clear f q;have M:(none:Option Int).isSome=false:=rfl;go_wp2;refine bodyPost_ret (v:=.agg (du ⟨5,[],a,0,0,4⟩)) (by simp[results,results80,go_sem]) rfl ?_;exact⟨by rw[s.j],(ah [] l).G _⟩
   |some v=>
    rw[g]at f;have s:U (cR b k=⟨3,c,a,a+c.length,v,0⟩):=by show _=_;rw[o.j,g]
    clear g o;go_wp2_with fail;refine(f.j _).mono ?_;rintro e i ⟨rfl,r,rfl,q⟩;obtain rfl:=q v rfl;clear f q;have M:∀N:Int,(some N).isSome=true:=λ_=>rfl;go_wp2;refine bodyPost_ret (v:=.agg (du ⟨3,c,a,a+c.length,r,0⟩)) (by simp[results,results80,go_sem,I.j]) rfl ?_;exact⟨by rw[s.j],(ah [] l).G _⟩
def OX(a:UInt8):Mar.gF a=(((a.toNat:Int)==123)||((a.toNat:Int)==125)||((a.toNat:Int)==40)||((a.toNat:Int)==41)||((a.toNat:Int)==91)||((a.toNat:Int)==93)||((a.toNat:Int)==60)||((a.toNat:Int)==62)||((a.toNat:Int)==42)||((a.toNat:Int)==44)||((a.toNat:Int)==59)||((a.toNat:Int)==58)||((a.toNat:Int)==61)):=by
 have b:((a.toNat:Int)==123)=(a==123):=km a 123 (by omega);have g:((a.toNat:Int)==125)=(a==125):=km a 125 (by omega);have h:((a.toNat:Int)==40)=(a==40):=km a 40 (by omega);have i:((a.toNat:Int)==41)=(a==41):=km a 41 (by omega);have j:((a.toNat:Int)==91)=(a==91):=km a 91 (by omega);have k:((a.toNat:Int)==93)=(a==93):=km a 93 (by omega);have l:((a.toNat:Int)==60)=(a==60):=km a 60 (by omega);have m:((a.toNat:Int)==62)=(a==62):=km a 62 (by omega);have n:((a.toNat:Int)==42)=(a==42):=km a 42 (by omega);have c:((a.toNat:Int)==44)=(a==44):=km a 44 (by omega);have d:((a.toNat:Int)==59)=(a==59):=km a 59 (by omega);have e:((a.toNat:Int)==58)=(a==58):=km a 58 (by omega);have f:((a.toNat:Int)==61)=(a==61):=km a 61 (by omega);rw[b,g,h,i,j,k,l,m,n,c,d,e,f];simp only[Mar.gF,List.contains_cons,List.contains_nil,Bool.or_false,Bool.or_assoc]
def Fa(a:List UInt8)(b:Nat)(h:b<=a.length)(k:a.length<=2000)(f:dV a b=a.length)(d:World) :
  Calls prog 80 #[.string ⟨a.toArray⟩,.int .i64 b] d λe j=>e=.returned (.agg (du (cR a b)))/\ai [] d j:=by
 have c:=λi=>tc a b h (by omega) i;rw[f]at c;have c:=Z c;have g:U (cR a b=⟨0,[],a.length,a.length,0,0⟩):=by
  show _=_;unfold cR;rw[f,List.drop_length];rfl
 go_in;go_wp2_with fail;refine(c.j _).mono ?_;rintro e l ⟨rfl,rfl⟩;go_wp2;refine bodyPost_ret (v:=.agg (du ⟨0,[],a.length,a.length,0,0⟩)) (by simp[results,results80,go_sem]) rfl ?_;exact⟨by rw[g.j],(ah [] d).G _⟩
def Fe(b:List UInt8)(d a:Nat)(u:d<=b.length)(G:b.length<=2000)(s:dV b d=a)(l:a<b.length)(r:Mar.d0 b[a]=false)(q:Mar.dk b[a]=false)(p:b[a]≠45)(h:World) :
  Calls prog 80 #[.string ⟨b.toArray⟩,.int .i64 d] h λe x=>e=.returned (.agg (du (cR b d)))/\ai [] h x:=by
 have g:=λw=>tc b d u (by omega) w;rw[s]at g;have g:=Z g;have o:=Z (pR b[a]);have n:=Z (mf b[a]);rw[r]at o;rw[q]at n;have y:((b[a].toNat:Int)==45)=false:=by
  have:b[a].toNat≠45:=λe=>p (UInt8.toNat_inj.1 (by simpa using e));rw[Yi];omega
 have m:U (cR b d=if Mar.gF b[a]then ⟨4,[b[a]],a,a+1,0,0⟩else ⟨5,[],a,0,0,2⟩):=by
  show _=_;unfold cR;rw[s,Yk l];unfold Mar.ds;simp only[r,q,Ye,if_false,Bool.false_or]
  rw[Y2 (by simpa using p)];cases Mar.gF b[a]<;>rfl
 have B:(0:Int)<=(a:Int):=by omega
 have C:(a:Int)<(b.length:Int):=by omega
 have D:((a:Int)==(b.length:Int))=false:=by rw[Yi];omega
 have E:(a:Int)<=(a:Int)+1:=by omega
 have F:(a:Int)+1<=(b.length:Int):=by omega
 have A:(⟨b.toArray⟩:ByteArray)[a]'(by simp[ByteArray.size];exact l)=b[a]:=rfl;have hcut:(⟨b.toArray⟩:ByteArray).extract a (a+1)=⟨[b[a]].toArray⟩:=by
  rw[pD,Yk l];rfl
 have j:=Z (OX b[a]);generalize z:b[a]=k at *
 go_in;go_wp2_with fail;refine(g.j _).mono ?_;rintro e t ⟨rfl,rfl⟩;go_wp2_with fail;refine(o.j _).mono ?_;rintro e t ⟨rfl,rfl⟩;go_wp2_with fail;refine(n.j _).mono ?_;rintro e t ⟨rfl,rfl⟩;cases f:Mar.gF k with
 |true=>
  have i:U (cR b d=⟨4,[k],a,a+1,0,0⟩):=by show _=_;rw[m.j,f];rfl
  go_wp2;all_goals
   first
    |(exfalso;have c:=j.j;rw[f]at c;simp only[*, Bool.or_self]at c;done)
    |(exfalso;have c:=j.j;rw[f]at c;simp only[*, Bool.or_self, Bool.true_eq_false, reduceCtorEq]at c;done)
    |(refine bodyPost_ret (v:=.agg (du ⟨4,[k],a,a+1,0,0⟩)) (by simp[results,results80,go_sem]) rfl ?_;exact⟨by rw[i.j], (ah [] h).G _⟩)
 |false=>
  have i:U (cR b d=⟨5,[],a,0,0,2⟩):=by show _=_;rw[m.j,f];rfl
  have c:=j.j;rw[f]at c;simp only[Bool.false_eq,Bool.or_eq_false_iff]at c;obtain⟨⟨⟨⟨⟨⟨⟨⟨⟨⟨⟨⟨H,M⟩,N⟩,O⟩,P⟩,R⟩,S⟩,a0⟩,a1⟩,I⟩,J⟩,K⟩,L⟩:=c;go_wp2;refine bodyPost_ret (v:=.agg (du ⟨5,[],a,0,0,2⟩)) (by simp[results,results80,go_sem]) rfl ?_;exact⟨by rw[i.j],(ah [] h).G _⟩
def AU{a:List UInt8}{b:Nat}(c:b<=a.length):dV a b<=a.length:=by
 unfold dV Mar.fx;have:=Mar.n2 ((a.drop b).length+1) (a.drop b);rw[YI]at this ⊢;omega
def Fd(a:List UInt8)(b:Nat)(d:b<=a.length)(e:a.length<=2000)(c:World) :
  Calls prog 80 #[.string ⟨a.toArray⟩,.int .i64 b] c λj k=>j=.returned (.agg (du (cR a b)))/\ai [] c k:=by
 have l:=AU d;rcases Yj (dV a b) a.length with f|m
 .cases g:Mar.d0 a[dV a b]with
  |true=>exact Fb a b _ d e rfl f g c
  |false=>
   cases h:Mar.dk a[dV a b]with
   |true=>exact EZ a b _ d e rfl f h c
   |false=>
    by_cases i:a[dV a b]=45
    .exact Fc a b _ d e rfl f i c
    .exact Fe a b _ d e rfl f g h i c
 .exact Fa a b d e (by omega) c
end Go.Proofs.YtjdhaegijjednaaGreatDoor
namespace Go.Proofs.YtjdhaegijjednaaGreatDoor
open Go.RowKit
open Go.MapKept
open Go.Proofs.Tryz
section
variable {A:Ad}{e g:Nat}{f c:List Nat}{l:List (Int×Int)}{a:List (List UInt8×Nat×Int)}{b:List UInt8×Nat}{h:Value}{u w:World}{d i j:St}
def xO(w:World)(e:Nat):Nat:=match w.cell? ⟨e,2,none⟩with
 |some (.slice _ b _)=>b
 |_=>0
def Jd:(prog.info? 223).map (λa=>(a.zero,a.size,a.bytes))=some (some (.pointer none),1,8):=by kernel_rfl
def jJ.dG{m:ByteArray}(k:jJ A m w e g b a c f l h d u):∃ad i,h=.slice ad a.length i:=by
 rcases k.row.2 with⟨rfl,j⟩|⟨o,i,n,rfl,_⟩
 .exact⟨none,0,by rw[j]⟩
 .exact⟨_,_,rfl⟩
def Kt{a:Ad}(j:eH a A){c:ByteArray}(b:Nat)(i:Rd a c d w)(m:cU a g)(k:cO g l w) :
  Calls prog 193 #[.pointer (some ⟨A.R,0,none⟩),.int .i64 b,.map (some g)] w (wB [A.R,A.S,A.N,g] a c w g (ie c b l d)):=by
 obtain⟨e,f,h,n⟩:=j;rw[<-e,<-f,<-h];exact Ks b i m k
def Ku{f:ByteArray}{b:Nat}{g:List (Int×Int)}{h:List UInt8×Nat×Int}(a:ie f b l d=.ok (h,g,i)):b<12:=by
 rcases Yj b 12 with c|c
 .exact c
 .exfalso;unfold ie at a;cases e:fL f d with
  |error n=>rw[bm (cj e)]at a;cases a
  |ok j=>
   obtain⟨k,m⟩:=j;rw[aF (aX e),bm (cj (show ej b 12 k.w m=_ from Y9 c))]at a;cases a
def Bx{a f:Nat}{c d:Value}{ad:Option Addr}{b:TypeId}(g:u.heap[e]? = some (.cells #[c,d,.slice ad a f] b)):xO u e=a:=by
 obtain⟨_,_,h,_⟩:=dT g;unfold xO;rw[h]
def jJ.cm{n:ByteArray}{o:World}(s:Rd A n j w)(k:jJ A n w e g b a c f l h d u)(m:ai [A.S] u o)(p:Rd (A.aC f) n i o) :
  jJ A n w e g b a c f l h i o:=by
 obtain⟨v,x,y,z⟩:=s.lt;have B:=k.aQ _ k.aI.1;have C:=k.aQ _ k.aI.2.1;refine⟨k.kp.u (m.af (by simp)),p,k.aI,k.aQ,k.b2.O m (by simp;omega),(m.K _ (aj k.aD) (by simp;omega)).trans k.aD,aY k.row m ?_,k.ax,k.bc,k.ev.O m (by intro D q;simp only[Yc]at q;subst q;exact p.aI.2.1)⟩;intro r t;have:=k.aQ _ (k.ax r t).1;simp;omega
def jJ.fin{t:ByteArray}(s:Rd A t j w)(m:jJ A t w e g b a c f l h d u)(P:a.length<=12)
  {F:Except Mar.a5 (ao×St)} (D:F=.ok (.enum b.1 b.2 a,d)):fY [A.R,A.S,A.N] A t w F (.returned (.pointer (some ⟨e,0,none⟩))) u:=by
 have y:∀q,w.heap.size<=q->q ∉ A.X:=λq L J=>by have:=s.bh _ J;omega
 have E:bn A.X ((c.zip a).map λi=>(i.1,jV i.2)) u:=m.ev.cc (λa0 K=>Ym _ K);have z:u.heap[e]? = some (.cells #[.string ⟨b.1.toArray⟩,.int .i64 b.2,h] 253)/\e ∉ A.X:=⟨m.aD,y _ (m.aQ _ m.aI.1)⟩;have B:∀k (o:k<a.length) (p:k<c.length),(c[k],jV a[k])∈((c.zip a).map λi=>(i.1,jV i.2)):=by
  intro k o p;rw[YE];exact⟨(c[k],a[k]),by rw[List.mem_iff_getElem];exact⟨k,by simp;omega,by simp⟩,rfl⟩
 refine⟨m.kp,Y8 ⟨.enum b.1 b.2 a,d,e,?_⟩⟩;rcases m.row.2 with⟨rfl,o⟩|⟨r,v,x,rfl,G,H,I,M,O,C⟩
 .refine⟨(e,.cells #[.string ⟨b.1.toArray⟩,.int .i64 b.2,.slice none 0 0] 253)::((c.zip a).map λi=>(i.1,jV i.2)),D,rfl,jq s.aI m.rd,⟨.slice none 0 0,c,Yb,m.bc,Y8 ⟨rfl,o,?_⟩,λk o p=>Y5 _ (B k o p)⟩,?_⟩
  .have:c=[]:=Yv.1 (by rw[m.bc,o]);rw[this];rfl
  .intro i n;rcases Yg.1 n with rfl|n
   .exact z
   .exact E i n
 .refine⟨(e,.cells #[.string ⟨b.1.toArray⟩,.int .i64 b.2,.slice (some ⟨r,0,none⟩) a.length v] 253)::(r,.cells x 223)::((c.zip a).map λi=>(i.1,jV i.2)),D,rfl,jq s.aI m.rd,⟨_,c,Yb,m.bc,Ya ⟨r,v,x,rfl,⟨I,by omega⟩,by simp,?_⟩,λk o p=>Y5 _ (Y5 _ (B k o p))⟩,?_⟩
  .rw[Nat.mul_one]at C;rw[YU,m.bc];exact C
  .intro i n;rcases Yg.1 n with rfl|n
   .exact z
   .rcases Yg.1 n with rfl|n
    .exact⟨H,y _ G⟩
    .exact E i n
def HJ{j:ByteArray}(s:Nat)(m:Rd A j d w) :
  Calls prog 121 #[.pointer (some ⟨A.R,0,none⟩),.int .i64 s] w (fY [A.R,A.S,A.N] A j w (gp j s d)):=by
 have j8:=jw;have j9:=jx;obtain⟨h9,g3,h5,h6,h7⟩:=info_parts Jd;go_in;go_wp2_with fail;refine(vt s m).mono ?_;rintro y k9 ⟨b1,⟨u,l3,F,rfl,e0⟩|⟨q,F,k,n,rfl,o⟩⟩;rotate_left
 .exact aq (dy (b1.af (by simp)) (ah [] _) (bl F) n o)
 have a0:=b1.af (M':=[A.R,A.S,A.N]) (by simp);clear b1;go_wp2_with fail;refine(tz e0).mono ?_;rintro y C ⟨b2,⟨b,l4,M,rfl,b6⟩|⟨q,M,k,n,rfl,o⟩⟩;rotate_left
 .exact aq (dy (a0.u (b2.af (by simp))) a0 ((au F).trans (bl M)) n o)
 have a6:=a0.u (b2.af (M':=[A.R,A.S,A.N]) (by simp));clear b2 a0;dsimp only[fT];have c7:=b6.bh;have j7:=b6.lt.2.1;have e1:=b6.ax (.cells #[.string ⟨b.1.toArray⟩,.int .i64 b.2,.slice none 0 0] 253);have b7:=aK (w:=C) (o:=.cells #[.string ⟨b.1.toArray⟩,.int .i64 b.2,.slice none 0 0] 253) rfl;have a1:=a6.G (.cells #[.string ⟨b.1.toArray⟩,.int .i64 b.2,.slice none 0 0] 253);have h2:C.heap.size ∉ [A.S]:=by simp;omega
 go_wp2_with fail;refine(fh (eI A _) _ e1).mono ?_;rintro y r ⟨a2,⟨l0,c1,a3,rfl,e2⟩|⟨q,a3,k,n,rfl,o⟩⟩;rotate_left
 .exact aq (dy (a1.u (a2.af (by simp))) a1 ((au F).trans ((au M).trans (bl a3))) n o)
 have b8:=(a2.K _ (aj b7) h2).trans b7;have g9:=aj b8;have a7:=a1.u (a2.af (M':=[A.R,A.S,A.N]) (by simp));have c6:gp j s d=gr j b 13 [] [] c1:=(au F).trans ((au M).trans (au a3));have d6:jJ A j w C.heap.size r.heap.size b [] [] [r.heap.size,C.heap.size] [] (.slice none 0 0) c1 (r.alloc (.map #[] 0)):=by
  have g5:ai [] r (r.alloc (.map #[] 0)):=(ah [] r).G _;refine⟨a7.G _,e2.ax _,⟨by simp,by simp,by omega⟩,?_,aK (w:=r) rfl,(g5.K _ g9 (by simp)).trans b8,⟨rfl,Y8 ⟨rfl,rfl⟩⟩,(by intro z K;cases K),rfl,(by intro k6 h3;cases h3)⟩;intro O e5;have k7:=a6.a2;have k8:=a7.a2;simp at e5;rcases e5 with rfl|rfl<;>omega
 have c3:=Z d6;have c2:=Z c6;have j2:=Z c7;clear a2 b7 a1 e1 d6 c6 b8 a7 e2 F M a3 e0 a6 c7;go_wp2;go_loopw [7] (λk u=>∃(O:Bool) (a:List (List UInt8×Nat×Int)) (c f:List Nat) (l:List (Int×Int)) (h:Value) (i:St),k=.bool O/\a.length<=12/\U (jJ A j w C.heap.size r.heap.size b a c f l h i u)/\
   U (gp j s d=(if O then gr j b (13-a.length) a l else nh j b a) i)) (λ_ u=>13-xO u C.heap.size)
 case atStart=>exact⟨true,[],[],_,[],_,c1,rfl,by simp,c3,c2⟩
 case round=>
  obtain⟨O,a,c,f,l,h,i,rfl,h0,e,I⟩:=hrel;clear c3 c2;cases O with
  |false=>
   go_wp2_with fail;refine(fh (cD A f) _ e.j.rd).mono ?_;rintro y g ⟨p,⟨l1,j1,x,rfl,L⟩|⟨q,x,k,n,rfl,o⟩⟩;rotate_left
   .exact aq (dy (e.j.kp.u (p.af (by simp))) e.j.kp (I.j.trans (bl x)) n o)
   have P:=Z (e.j.cm m p L);clear p L;go_wp2_with fail;refine(fh (cD A f) _ P.j.rd).mono ?_;rintro y H ⟨b4,⟨l2,l5,b9,rfl,e3⟩|⟨q,b9,k,n,rfl,o⟩⟩;rotate_left
   .exact aq (dy (P.j.kp.u (b4.af (by simp))) P.j.kp (I.j.trans ((au x).trans (bl b9))) n o)
   have D:=Z (P.j.cm m b4 e3);clear b4 e3;go_wp2;go_ret;exact D.j.fin m h0 (I.j.trans ((au x).trans (au b9)))
  |true=>
   obtain⟨ad,E,rfl⟩:=e.j.dG;obtain⟨k3,k4,k5,j6⟩:=dT e.j.aD;have d0:Below wr.heap.size wr wr.drew:=(Below.refl _ _).drew;have f2:=Z (Kt (cD A f) a.length (e.j.rd.aA d0) (e.j.b1 m) ((d0.block _ (aj e.j.b2)).trans e.j.b2));have f4:U (13-a.length=(12-a.length)+1):=by show _=_;omega
   have a5:U (gp j s d=gr j b ((12-a.length)+1) a l i):=by
    have J:=I.j;rw[f4.j]at J;exact J
   clear I;have d2:∀(q:Mar.a5) (k:Nat) (a4:World),ie j a.length l i=.error q->wr.heap.size<=k->ai [A.R,A.S,A.N,r.heap.size] wr.drew a4->a4.heap[k]? = some (.cells #[.int .i64 q.no,.int .i64 q.w] 179)->
     fY [A.R,A.S,A.N] A j w (gp j s d) (.panicked [{ v:=.iface 143 (.pointer (some ⟨k,0,none⟩)),recovered:=false }]) a4:=by
    intro q k a4 g0 f8 g4 f9;have k2:=e.j.aQ _ e.j.aI.2.1;refine dy (e.j.kp.ce (((ah _ wr).a9).u g4) ?_) e.j.kp (a5.j.trans (tq g0)) f8 f9;intro G d5;simp at d5 ⊢;rcases d5 with m|m|m|m
    .exact Y8 (Y8 m)
    .exact Y8 (Ya (Y8 m))
    .exact Y8 (Ya (Ya m))
    .exact Ya (by omega)
   have f3:=Z d2;have h4:∀z,(Value.slice ad a.length E).ownBlock=some z->z ∉ [A.R,A.S,A.N,r.heap.size]:=by
    intro z K;have J:=e.j.ax z K;have f7:=e.j.aQ _ J.1;obtain⟨i0,i1,i2,i3⟩:=m.lt;simp;omega
   have a8:∀g,ai [A.R,A.S,A.N,r.heap.size] wr.drew g->(∀B,(g.alloc B).ownsRow w.heap.size 223 1 (.slice ad a.length E) a.length (c.map λk=>Value.pointer (some ⟨k,0,none⟩)))/\
     g.heap[C.heap.size]? = some (.cells #[.string ⟨b.1.toArray⟩,.int .i64 b.2,.slice ad a.length E] 253)/\w.heap.size<=g.heap.size:=by
    intro g p;have b3:=((ah _ wr).a9).u p;have J:=e.j.aQ _ e.j.aI.1;obtain⟨i0,i1,i2,i3⟩:=m.lt;have f7:=e.j.aI.2.2;refine⟨λB=>aY (aY e.j.row b3 h4) ((ah [] g).G B) (by simp),(b3.K _ (aj e.j.aD) (by simp;omega)).trans e.j.aD,Yz e.j.kp.a2 b3.a2⟩
   have f0:=Z a8;have c9:∀g B H,ai [A.R,A.S,A.N,r.heap.size] wr.drew g->(g.alloc B).grownBy H (Value.slice ad a.length E).ownBlock->H.heap[C.heap.size]? = some (.cells #[.string ⟨b.1.toArray⟩,.int .i64 b.2,.slice ad a.length E] 253):=by
    intro g B H p K;obtain⟨_,c5,_⟩:=a8 g p;have g6:=aj c5;exact(K.block _ (by simp;omega) (λy=>(e.j.ax _ y.symm).2.1 rfl)).trans ((((ah [] g).G B).K _ g6 (by simp)).trans c5)
   have f1:=Z c9;have h8:(Value.pointer none).cells.size=1:=rfl;have g7:a.length+1<=maxLen:=by unfold maxLen;omega
   have g8:(a.length+1)*8<=140737488355328:=by omega
   clear d2 a8 c9;go_wp2_with fail;go_region_law (first
    |(go_simp;go_at_call 193;refine f2.j.mono ?_;rintro y g ⟨p,⟨G,e6,j1,k,x,rfl,L,d7,d3⟩|⟨q,x,k,n,rfl,o⟩⟩;rotate_left;exact(show bodyPost prog Tryz.f121 (fY [A.R,A.S,A.N] A j w (gp j s d)) (Exit.panic _) _ g from aq (f3.j q k g x n p o));dsimp only;obtain⟨d8,a9,k1⟩:=f0.j g p;obtain⟨i5,i6,i7,g1⟩:=dT a9;have h1:=aj a9;have k0:=Nat.ne_of_lt h1)
    |(refine step_append_lies _ (by rfl) _ _ _ (by rfl) w.heap.size 223 h9 _ 1 8 underlying251 g3 h5 h6 h7 h8 (by omega) (.slice ad a.length E) a.length (c.map λk=>Value.pointer (some ⟨k,0,none⟩)) (by rfl) (d8 _) ⟨g.heap.size,0,none⟩ 1 1 [.pointer (some ⟨k,0,none⟩)] (by rfl) (by rfl) (World.news_of_block (cs:=#[.pointer (some ⟨k,0,none⟩)]) (t:=223) (fr:=(0,0)) (heap_alloc_new g _)) (by simp[Value.oneCell']) (by omega) g7 g8 (by simp;omega) (g.heap.size+1) (by simp) ?_;intro z j4 H d9 b0 c8 d4;have d1:=f1.j g _ H p b0;obtain⟨i8,i9,j0,g2⟩:=dT d1))
   all_goals
    have j5:=Ku x
    have D:=Z (EE m e.j (((ah _ wr).a9).u p) L d7 d3 ((Below.refl g.heap.size g).alloc (Y4 _) _) d9 b0 (by simpa using c8) d4)
    clear p L d7 d3 d9 b0 c8 d4 d1 i8 i9 j0 g2 a9 i5 i6 i7 g1 d8
    go_wp2_with fail
    refine(mT (cD A (z::f)) _ D.j.rd).mono ?_
    rintro y i4 ⟨b5,⟨e7,e8,c0,rfl,e4⟩|⟨q,c0,j3,n,rfl,o⟩⟩
    rotate_left
    .exact(show bodyPost prog Tryz.f121 (fY [A.R,A.S,A.N] A j w (gp j s d)) (Exit.panic _) _ i4 from aq (dy (D.j.kp.u (b5.af (by simp))) D.j.kp (a5.j.trans ((rI x).trans (bl c0))) n o))
    have c4:=Z (D.j.cm m b5 e4)
    have e9:U (gp j s d=(if e7=true then gr j b (13-(a++[G]).length) (a++[G]) e6 else nh j b (a++[G])) e8):=by
     refine a5.j.trans ((rI x).trans ((au c0).trans ?_));have:13-(a++[G]).length=12-a.length:=by simp
     rw[this]
    have f5:=Bx e.j.aD
    have f6:=Bx c4.j.aD
    clear b5 e4
    go_wp2
    refine⟨⟨e7,a++[G],c++[k],z::f,e6,_,e8,rfl,by simp;omega,c4,e9⟩,?_⟩
    rw[f5,f6]
    omega
end
section
variable {b:Ad}{c:World}{a:St}{d:Type}
def jK(b:Ad)(c:World)(j:List Nat->d->St->World->Prop)(g:Except Mar.a5 (Unit×d×St))(f:Ending)(e:World):Prop:=
 (∃k h i,g=.ok ((),h,i)/\f=.returned (.tuple #[])/\j k h i e)\/(∃a,g=.error a/\ai [b.R,b.S,b.N] c e/\fg c a.no a.w f e)
def lN{M':List Nat}{w1 e:World}{h:List Nat->d->St->World->Prop}{g:Except Mar.a5 (Unit×d×St)}{f:Mar.a5}{a:Nat}
  (k:ai [b.R,b.S,b.N] c e) (l:ai M' c w1) (m:g=.error f) (i:w1.heap.size<=a) (j:e.heap[a]? = some (.cells #[.int .i64 f.no,.int .i64 f.w] 179)) :
  jK b c h g (.panicked [{ v:=.iface 143 (.pointer (some ⟨a,0,none⟩)),recovered:=false }]) e:=
 Ya ⟨f,m,k,a,Yz l.a2 i,rfl,j⟩
structure uo(d:Type)(b:Ad)(text:ByteArray)(c:World)(nt:Nat) where
 f:Nat
 kw:Array Value
 ba:PX d Unit
 J:Nat->List Nat->d->St->World->Prop
 gD:∀(args:Array Value) (u:World),(callFunc f args).run prog u=.ok (.enter f args) u
 rd:∀{n Y t a u},J n Y t a u->Rd (b.aC Y) text a u
 kp:∀{n Y t a u},J n Y t a u->ai [b.R,b.S,b.N] c u
 cm:∀{n Y t a σ' u u'},J n Y t a u->ai [b.S] u u'->Rd (b.aC Y) text σ' u'->J n Y t σ' u'
 call:∀{n Y t a u},n<nt->J n Y t a u->Calls prog f kw u (jK b c (J (n+1)) (ba t a))
def hl(b:ByteArray)(nt:Nat)(c:PX d Unit):Nat->Nat->PX d Unit
 |0,_=>lift (fl 0 0)
 |k+1,a=>aw (if a=0 then cH false else lift (da b [125])) λf=>if f then cH ()else
   aw (lift (fL b)) λe=>aw (lift (ej a nt e.w)) λ_=>aw c λ_=>hl b nt c k (a+1)
def ew(a:ByteArray)(nt:Nat)(b:PX d Unit):PX d Unit:=aw (lift (bV a [123])) λ_=>hl a nt b (nt+2) 0
def yw{d:Ad}(h:eH d b){e:ByteArray}(g:Rd d e a c) :
  Calls prog 72 #[.pointer (some ⟨b.S,0,none⟩)] c (dD [b.S] d e c (fL e a) cr):=by
 obtain⟨i,f,j,k⟩:=h;rw[<-f];exact yx g
def ma(c:ByteArray)(nt:Nat)(b:PX d Unit)(e a:Nat):PX d Unit:=
 aw (lift (fL c)) λf=>aw (lift (ej a nt f.w)) λ_=>aw b λ_=>hl c nt b e (a+1)
def wW{h:ByteArray}(nt:Nat)(e:uo d b h c nt){i:List Nat}{g:d}{j:World}(c5:nt<=1000)(J:e.J 0 i g a j) :
  Calls prog 195 #[.pointer (some ⟨b.R,0,none⟩),.int .i64 nt,.func (.func e.f) #[] e.kw] j (jK b c (λi g a j=>∃f≤nt,e.J f i g a j) (ew h nt e.ba g a)):=by
 have c3:=e.gD;have c4:=AR;go_in;go_wp2_with fail;refine(fh (cD b i) _ (e.rd J)).mono ?_;rintro o c6 ⟨a8,⟨c7,c2,a2,rfl,b9⟩|⟨p,a2,n,k,rfl,l⟩⟩;rotate_left
 .exact aq (lN ((e.kp J).u (a8.af (by simp))) (e.kp J) (bm (cj a2)) k l)
 have b5:=Z (e.cm J a8 b9);have b4:U (ew h nt e.ba g a=hl h nt e.ba (nt+2) 0 g c2):=aF (aX a2);dsimp only[cr];go_wp2;go_loopw [6] (λa4 c1=>∃(f:Nat) (z:List Nat) (s:d) (F:St),a4=.int .i64 f/\f<=nt/\U (e.J f z s F c1)/\U (ew h nt e.ba g a=hl h nt e.ba (nt+2-f) f s F)) (λa4 _=>nt+1-(intOf a4).toNat)
 case atStart=>exact⟨0,_,_,_,rfl,by omega,b5,b4⟩
 case round=>
  obtain⟨f,z,s,F,rfl,b8,v,b3⟩:=hrel;have K:U (ew h nt e.ba g a=hl h nt e.ba ((nt+1-f)+1) f s F):=by
   have a7:=b3.j;rw[show nt+2-f=(nt+1-f)+1 by omega]at a7;exact a7
  by_cases x:f=0
  .have b6:wr.cell? ⟨b.R,0,none⟩=some (.pointer (some ⟨b.S,0,none⟩)):=(e.rd v.j).am.1;have H:U (ew h nt e.ba g a=ma h nt e.ba (nt+1-f) f s F):=by
    refine K.j.trans ?_;simp only[hl,Y9 x];rfl
   have I:=v;have b7:((f:Int)==0)=true:=by simp[x]
   go_wp2_with fail;refine(yw (cD b z) (e.rd I.j)).mono ?_;rintro o a5 ⟨B,⟨t,u,m,rfl,a1⟩|⟨p,m,n,k,rfl,l⟩⟩;rotate_left
   .exact(show bodyPost prog Tryz.f195 (jK b c (λi g a j=>∃f≤nt,e.J f i g a j) (ew h nt e.ba g a)) (Exit.panic _) _ a5 from aq (lN ((e.kp I.j).u (B.af (by simp))) (e.kp I.j) (H.j.trans (bm (cj m))) k l))
   have q:=Z (e.cm I.j B a1);dsimp only[cr];go_wp2_with fail;by_cases A:nt<=f
   .refine(qm _ _ _ _ (by omega)).mono ?_;rintro o E ⟨⟨n,k,rfl,l⟩,P⟩;exact(show bodyPost prog Tryz.f195 (jK b c (λi g a j=>∃f≤nt,e.J f i g a j) (ew h nt e.ba g a)) (Exit.panic _) _ E from aq (lN (f:=⟨5,t.w⟩) ((e.kp q.j).u (bt _ P)) (e.kp q.j) (H.j.trans ((aF (aX m)).trans (bm (cj (show ej f nt t.w u=_ from Y9 A))))) k l))
   have C:ej f nt t.w u=.ok ((),u):=Y2 A;refine(qn _ _ _ _ (by omega)).mono ?_;rintro o E ⟨rfl,rfl⟩;go_wp2_with fail;refine(e.call (by omega) q.j).mono ?_;rintro o a6 (⟨N,D,G,r,rfl,O⟩|⟨p,r,a0,n,k,rfl,l⟩);rotate_left
   .exact(show bodyPost prog Tryz.f195 (jK b c (λi g a j=>∃f≤nt,e.J f i g a j) (ew h nt e.ba g a)) (Exit.panic _) _ a6 from aq (Ya ⟨p,H.j.trans ((aF (aX m)).trans ((aF (aX C)).trans (bm r))),a0,n,k,rfl,l⟩))
   have M:=Z O;have L:U (ew h nt e.ba g a=hl h nt e.ba (nt+2-(f+1)) (f+1) D G):=by
    refine H.j.trans ((aF (aX m)).trans ((aF (aX C)).trans ((aF r).trans ?_)));rw[show nt+2-(f+1)=nt+1-f by omega]
   go_wp2;exact⟨⟨f+1,N,D,G,by simp[x],by omega,M,L⟩,by simp[intOf,x];try omega⟩
  .have b7:((f:Int)==0)=false:=by simp;omega
   go_wp2_with fail;refine(mT (cD b z) _ (e.rd v.j)).mono ?_;rintro o b0 ⟨a9,⟨b1,b2,a3,rfl,c0⟩|⟨p,a3,n,k,rfl,l⟩⟩;rotate_left
   .refine(show bodyPost prog Tryz.f195 (jK b c (λi g a j=>∃f≤nt,e.J f i g a j) (ew h nt e.ba g a)) (Exit.panic _) _ b0 from aq (lN ((e.kp v.j).u (a9.af (by simp))) (e.kp v.j) (K.j.trans ?_) k l));simp only[hl,Y2 x];exact bm (cj a3)
   have w:=Z (e.cm v.j a9 c0);have y:U (ew h nt e.ba g a=(if b1=true then cH ()else ma h nt e.ba (nt+1-f) f) s b2):=by
    refine K.j.trans ?_;simp only[hl,Y2 x];exact aF (aX a3)
   have b6:b0.cell? ⟨b.R,0,none⟩=some (.pointer (some ⟨b.S,0,none⟩)):=(e.rd w.j).am.1;cases b1 with
   |true=>
    go_wp2;go_end0;exact Y8 ⟨_,s,b2,y.j,rfl,f,b8,w.j⟩
   |false=>
    go_wp2_with fail;refine(yw (cD b z) (e.rd w.j)).mono ?_;rintro o a5 ⟨B,⟨t,u,m,rfl,a1⟩|⟨p,m,n,k,rfl,l⟩⟩;rotate_left
    .exact(show bodyPost prog Tryz.f195 (jK b c (λi g a j=>∃f≤nt,e.J f i g a j) (ew h nt e.ba g a)) (Exit.panic _) _ a5 from aq (lN ((e.kp w.j).u (B.af (by simp))) (e.kp w.j) (y.j.trans (bm (cj m))) k l))
    have q:=Z (e.cm w.j B a1);dsimp only[cr];go_wp2_with fail;by_cases A:nt<=f
    .refine(qm _ _ _ _ (by omega)).mono ?_;rintro o E ⟨⟨n,k,rfl,l⟩,P⟩;exact(show bodyPost prog Tryz.f195 (jK b c (λi g a j=>∃f≤nt,e.J f i g a j) (ew h nt e.ba g a)) (Exit.panic _) _ E from aq (lN (f:=⟨5,t.w⟩) ((e.kp q.j).u (bt _ P)) (e.kp q.j) (y.j.trans ((aF (aX m)).trans (bm (cj (show ej f nt t.w u=_ from Y9 A))))) k l))
    have C:ej f nt t.w u=.ok ((),u):=Y2 A;refine(qn _ _ _ _ (by omega)).mono ?_;rintro o E ⟨rfl,rfl⟩;go_wp2_with fail;refine(e.call (by omega) q.j).mono ?_;rintro o a6 (⟨N,D,G,r,rfl,O⟩|⟨p,r,a0,n,k,rfl,l⟩);rotate_left
    .exact(show bodyPost prog Tryz.f195 (jK b c (λi g a j=>∃f≤nt,e.J f i g a j) (ew h nt e.ba g a)) (Exit.panic _) _ a6 from aq (Ya ⟨p,y.j.trans ((aF (aX m)).trans ((aF (aX C)).trans (bm r))),a0,n,k,rfl,l⟩))
    have M:=Z O;have L:U (ew h nt e.ba g a=hl h nt e.ba (nt+2-(f+1)) (f+1) D G):=by
     refine y.j.trans ((aF (aX m)).trans ((aF (aX C)).trans ((aF r).trans ?_)));rw[show nt+2-(f+1)=nt+1-f by omega]
    go_wp2;exact⟨⟨f+1,N,D,G,by go_num,by omega,M,L⟩,by simp[intOf];omega⟩
end
def ux(w:World):Calls prog 194 #[] w λd c=>∃b a,d=.returned (aT b a).v/\w.heap.size<=b/\w.heap.size<=a/\b≠a/\(aT b a).I [] c/\Below w.heap.size w c/\c.heap[a]? = some (.cells #[.map (some b)] 103):=by
 have h:=jx;have g:=jw;go_in;go_wp2;go_ret;have e:(w.alloc (.map #[] 0)).heap.size=w.heap.size+1:=by simp
 refine⟨w.heap.size,w.heap.size+1,rfl,by omega,by omega,by omega,?_,((Below.refl w.heap.size w).alloc (Y4 _) _).alloc (by omega) _,?_⟩
 .have f:((w.alloc (.map #[] 0)).alloc (.cells #[.map (some w.heap.size)] 103)).heap[w.heap.size]? = some (.map #[] 0):=
   (((ah [] (w.alloc (.map #[] 0))).G _).K _ (by omega) (by simp)).trans (aK (w:=w) rfl)
  exact⟨by simp,[],rfl,f⟩
 .rw[<-e];exact aK (w:=w.alloc (.map #[] 0)) rfl
section
variable {c:Ad}{f:List Nat}{h:List aG}{n:List UInt8×Nat}{k:Value}{l:List (List UInt8)}{e j:World}{m o p:St}
structure dF where
 D:Nat
 rb:Nat
 db:Nat
 cb:Nat
 q:Nat
 bx:Nat
def dF.ct(a:dF):List Nat:=[a.D,a.rb,a.db,a.cb,a.q]
structure jN(c:Ad)(text:ByteArray)(j:World)(a:dF)(n:List UInt8×Nat)(h:List aG)(f:List Nat)(l:List (List UInt8))(k:Value)(m:St)(e:World):Prop where
 kp:ai [c.R,c.S,c.N] j e
 rd:Rd (c.aC f) text m e
 aI:∀b∈a.ct,b∈f
 nd:a.ct.Nodup
 aQ:∀y∈f,j.heap.size<=y
 ax:∀g,k.ownBlock=some g->g∈f/\g ∉ a.ct
 bQ:dq a.q l e
 cl:bn (c.aC f).X (aT a.q a.bx).bs e
 aD:e.heap[a.D]? = some (.cells #[.string ⟨n.1.toArray⟩,.int .i64 n.2,k] 353)
 vr:e.heap[a.rb]? = some (.cells #[.pointer (some ⟨c.R,0,none⟩)] 145)
 vd:e.heap[a.db]? = some (.cells #[.pointer (some ⟨a.D,0,none⟩)] 229)
 vc:e.heap[a.cb]? = some (.cells #[(aT a.q a.bx).v] 341)
 row:e.ownsRow j.heap.size 242 3 k h.length (h.flatMap ho)
def jN.cm{g:ByteArray}{r:World}{i:dF}(v:Rd c g p j)(a:jN c g j i n h f l k m e)(b:ai [c.S] e r)(s:Rd (c.aC f) g o r) :
  jN c g j i n h f l k o r:=by
 obtain⟨y,z,A,B⟩:=v.lt;have d:∀q∈i.ct,q ∉ [c.S]:=λq w=>by have:=a.aQ _ (a.aI q w);simp;omega
 refine⟨a.kp.u (b.af (by simp)),s,a.aI,a.nd,a.aQ,a.ax,a.bQ.O b (d _ (by simp[dF.ct])),a.cl.O b (by intro C t;simp only[Yc]at t;subst t;exact s.aI.2.1),(b.K _ (aj a.aD) (d _ (by simp[dF.ct]))).trans a.aD,
  (b.K _ (aj a.vr) (d _ (by simp[dF.ct]))).trans a.vr,(b.K _ (aj a.vd) (d _ (by simp[dF.ct]))).trans a.vd,(b.K _ (aj a.vc) (d _ (by simp[dF.ct]))).trans a.vc,aY a.row b ?_⟩
 intro u x;have:=a.aQ _ (a.ax u x).1;simp;omega
def Fv{H:ByteArray}{y I u:World}{b:dF}{g z:Nat}{a7:List (List UInt8)}{d:aG}(K:Rd c H p j)
  (s:jN c H j b n h f l k m e) (F:ai [c.S,b.q] e y) (a5:Rd (c.aC f) H o y) (b4:dq b.q a7 y) (r:Below y.heap.size y I)
  (a3:u.ownsRow j.heap.size 242 3 (.slice (some ⟨g,0,none⟩) (h.length+1) z) (h.length+1) (h.flatMap ho++ho d))
  (E:I.grownBy u k.ownBlock) (L:k.ownBlock=some g\/g=I.heap.size) (b3:g<u.heap.size) :
  jN c H j b n (h++[d]) (g::f) a7 (.slice (some ⟨g,0,none⟩) (h.length+1) z) o (u.setCell ⟨b.D,2,none⟩ (.slice (some ⟨g,0,none⟩) (h.length+1) z)):=by
 obtain⟨b6,_⟩:=gK a3 (g:=g) rfl;have x:b.D∈b.ct:=by simp[dF.ct]
 have b9:b.rb∈b.ct:=by simp[dF.ct]
 have b8:b.db∈b.ct:=by simp[dF.ct]
 have b7:b.cb∈b.ct:=by simp[dF.ct]
 have R:b.q∈b.ct:=by simp[dF.ct]
 have b5:=s.nd;simp only[dF.ct,List.nodup_cons,Yg,List.not_mem_nil,or_false,not_or]at b5;have J:∀a∈b.ct,j.heap.size<=a:=λa r=>s.aQ _ (s.aI a r);have N:∀a∈b.ct,a<e.heap.size:=λa r=>by
  have:=s.rd.bh a (Yf _ (s.aI a r));exact this
 have c2:=F.a2;have c3:=r.size;have c4:=E.size;have a1:g ∉ b.ct:=by
  rcases L with A|A
  .exact(s.ax g A).2
  .intro t;have:=N g t;omega
 have O:∀a,k.ownBlock=some a->j.heap.size<=a/\a∈(c.aC f).X:=λa r=>⟨s.aQ _ (s.ax a r).1,Yf _ (s.ax a r).1⟩;have M:=eL E;have w:ai [b.D] u (u.setCell ⟨b.D,2,none⟩ (.slice (some ⟨g,0,none⟩) (h.length+1) z)):=(ah [b.D] u).a6 (by simp) _;have G:ai [] y I:=bt _ r;obtain⟨c5,c6,c7,c8⟩:=K.lt;have a6:∀a∈b.ct,a ∉ k.ownBlock.toList:=by
  intro a r t;exact(s.ax a (by simpa using t)).2 r
 have a8:∀a∈b.ct,a≠b.q->u.heap[a]? = e.heap[a]?:=by
  intro a r a4;have a2:=N a r;have c1:=J a r;exact(M.K _ (by omega) (a6 a r)).trans ((G.K _ (by omega) (by simp)).trans (F.K _ a2 (by simp;omega)))
 have a0:∀a∈b.ct,a≠b.q->a≠b.D->(u.setCell ⟨b.D,2,none⟩ (.slice (some ⟨g,0,none⟩) (h.length+1) z)).heap[a]? = e.heap[a]?:=by
  intro a r a4 b1;have a2:=N a r;exact(w.K _ (by omega) (by simpa using b1)).trans (a8 a r a4)
 have b2:∀C∈[c.S,b.q],C∈(c.aC f).X:=by
  intro a9 v;simp at v;rcases v with rfl|rfl
  .exact a5.aI.2.1
  .exact Yf _ (s.aI _ R)
 refine⟨?_,?_,λa r=>Y5 _ (s.aI a r),s.nd,?_,?_,?_,?_,?_,?_,?_,?_,?_⟩
 .refine(((s.kp.ce F ?_).ce G (by simp)).ce M ?_).ce w ?_
  .intro C t;simp at t ⊢;rcases t with A|A
   .exact Y8 (Ya (Y8 A))
   .exact Ya (by have:=J _ R;omega)
  .intro C t;exact Ya (O C (by simpa using t)).1
  .intro C t;simp only[Yc]at t;subst t;exact Ya (J _ x)
 .exact K.ce (cD c (g::f)) (qS K (cD c f) (a5.aA r) E O L b3) w (by
   intro a9 v;simp only[Yc]at v;subst v;exact⟨J _ x,Yf _ (Y5 _ (s.aI _ x))⟩)
 .intro c0 P;rcases Yg.1 P with rfl|P
  .exact b6
  .exact s.aQ c0 P
 .intro b0 B;simp only[Value.ownBlock,Yu]at B;subst B;exact⟨Yb,a1⟩
 .exact((b4.O G (by simp)).O M (a6 _ R)).O w (by simp;omega)
 .exact(((s.cl.O F b2).O G (by simp)).bZ E (λa r=>(O a r).2) L).O w (by
   intro a9 v;simp only[Yc]at v;subst v;exact Y5 _ (Yf _ (s.aI _ x)))
 .exact bv (i:=2) ((a8 _ x (by omega)).trans s.aD) _
 .exact(a0 _ b9 (by omega) (by omega)).trans s.vr
 .exact(a0 _ b8 (by omega) (by omega)).trans s.vd
 .exact(a0 _ b7 (by omega) (by omega)).trans s.vc
 .have:=aY a3 w (by
   intro b0 B;simp only[Value.ownBlock,Yu]at B;subst B;intro t;simp only[Yc]at t;exact a1 (t▸x))
  simpa using this
end
end Go.Proofs.YtjdhaegijjednaaGreatDoor
