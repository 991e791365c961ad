import Derived.Shelf.Strings.Builder1
import Derived.Shelf.Small.Strs
import Derived.Shelf.Small.Wraps
import Derived.Shelf.Strings.BuilderF
import Derived.Shelf.Strings.BuilderK
import Derived.Shelf.Strconv.Itoa0
import Derived.Shelf.Strconv.Itoa1
import Derived.Shelf.LaysM
import Derived.Shelf.Strconv.Itoa2
import Derived.Shelf.Strconv.Itoa3
import Derived.Shelf.Strconv.Itoa4
import Derived.Shelf.Strconv.ParseIntEmpty
import Derived.Shelf.Strconv.Clone
import Derived.Shelf.Strconv.SyntaxError
import Derived.Shelf.LaysC
import Derived.Shelf.Strconv.ToError
import Derived.Shelf.Strconv.Lower
import Derived.Shelf.Strconv.ParseUint10
import Derived.Shelf.Strconv.ParseUint10Empty
import Derived.Shelf.Strconv.ParseUint10Any
import Derived.Shelf.Strconv.ParseInt10
import Derived.Shelf.Strconv.RangeError
import Derived.Shelf.Strconv.ToErrorRange
import Derived.Shelf.Strconv.ParseUintEmpty
import Derived.Shelf.Strconv.ParseUint10b64
import Derived.Shelf.Strconv.ParseUint10b32
import Derived.Shelf.Strconv.ParseUint10b16
import Derived.Shelf.Strconv.ParseUint10b8
import Derived.Shelf.Strconv.ParseUint10At
import Derived.Shelf.Strconv.ParseInt10At64
import Derived.Shelf.Strconv.ParseInt10At32
import Derived.Shelf.Strconv.ParseInt10At16
import Derived.Shelf.Strconv.ParseInt10At8
import Derived.Shelf.Strconv.ParseInt10All
import Derived.Shelf.Strconv.ParseIntPublic10
import Derived.Shelf.Strconv.ErrVarParseInt
import Derived.Shelf.Strings.Search1
import Derived.Shelf.Strings.Search2
import Derived.Shelf.Strings.Cut
import Derived.Shelf.Strings.Shaped
import Derived.Shelf.Strings.Prefix
import Derived.Test.YtjdhaegijjednaaGreatDoorProg
import Derived.WalkKit
import GoSem.Claim
import Derived.Lib.IndexMore
import Derived.Lib.Strings
import Derived.Lib.ParseIntBCases
import Derived.WalkSpells
import Derived.WalkSmall
import Derived.Deep.CutBlock
import Derived.Deep.DeepCutAuto
import Derived.Lib.AtoiErrMem
import Derived.Lib.ConvBytes
import Derived.Lib.Hide
import Derived.Lib.AtoiAllMem
import Derived.BigCall
import Derived.BigGuard
import Derived.Deep.RegionHeld3
import Derived.Deep.RegionHeld2
import Derived.Deep.QuietTactic
import Derived.BigQuiet
import Derived.MapKept
import Derived.Deep.AppendLies
import Derived.Deep.RegionLaw
import Derived.Laws.EntriesVeiled
set_option linter.all false
set_option maxRecDepth 100000
set_option maxHeartbeats 4000000
namespace Go.Proofs
open Go.Shelf
def Tryz.lays169_ren:Go.Shelf.Ren:=⟨fun | 169=>100 | n=>n,fun | 70=>185 | 9=>9 | 0=>0 | 72=>187 | 37=>97 | 127=>319 | 3=>3 | 5=>5 | n=>n,fun | n=>n⟩
theorem Tryz.lays169:Go.Proofs.Lays.n169 Tryz.prog Tryz.lays169_ren:={
 mixed:=by kernel_rfl
 f169:=Tryz.func100.trans (congrArg some (by kernel_rfl))
 t0:=Tryz.underlying0
 a0:=Tryz.isAgg0
 z0:=Tryz.sizeOf0
 v0:=Tryz.zeroValue0
 t3:=Tryz.underlying3
 a3:=Tryz.isAgg3
 z3:=Tryz.sizeOf3
 v3:=Tryz.zeroValue3
 t9:=Tryz.underlying9
 a9:=Tryz.isAgg9
 z9:=Tryz.sizeOf9
 v9:=Tryz.zeroValue9
 t37:=Tryz.underlying97
 a37:=Tryz.isAgg97
 z37:=Tryz.sizeOf97
 v37:=Tryz.zeroValue97
 t70:=Tryz.underlying185
 a70:=Tryz.isAgg185
 z70:=Tryz.sizeOf185
 v70:=Tryz.zeroValue185
 t72:=Tryz.underlying187
 a72:=Tryz.isAgg187
 z72:=Tryz.sizeOf187
 v72:=Tryz.zeroValue187
 t127:=Tryz.underlying319
 a127:=Tryz.isAgg319
 z127:=Tryz.sizeOf319
 v127:=Tryz.zeroValue319 }
theorem Tryz.Builder_Extra_169:Builder.Extra Tryz.prog Tryz.lays169_ren:={
 sizeBuilder:=by kernel_rfl
 liesBuilder:=by kernel_rfl
 t5:=Tryz.underlying5
 a5:=Tryz.isAgg5
 z5:=Tryz.sizeOf5
 v5:=Tryz.zeroValue5
 infoByte:=by kernel_rfl
 cellsByte:=by kernel_rfl
 sizeByte:=by kernel_rfl
 neB5:=by decide }
open Go.RowKit in
theorem Tryz.Builder_String_any (B b:Nat) (l:List UInt8) (w:World) (h:Lib.IsBuilder 187 5 B b (Lib.byteCells l) w) (hBw:B≤w.heap.size) :
  Calls Tryz.prog 100 #[.pointer (some ⟨b,0,none⟩)] w fun e w'=>e = .returned (.string ⟨l.toArray⟩)∧Below B w w':=Any.Builder_String_any Tryz.lays169 Tryz.Builder_Extra_169 B b l w h hBw
def Tryz.lays137_ren:Go.Shelf.Ren:=⟨fun | 137=>236 | 217=>262 | 266=>272 | n=>n,fun | 9=>9 | 5=>5 | 3=>3 | n=>n,fun | n=>n⟩
theorem Tryz.lays137:Go.Proofs.Lays.n137 Tryz.prog Tryz.lays137_ren:={
 mixed:=by kernel_rfl
 f137:=Tryz.func236.trans (congrArg some (by kernel_rfl))
 f217:=Tryz.func262.trans (congrArg some (by kernel_rfl))
 f266:=Tryz.func272.trans (congrArg some (by kernel_rfl))
 t3:=Tryz.underlying3
 a3:=Tryz.isAgg3
 z3:=Tryz.sizeOf3
 v3:=Tryz.zeroValue3
 t5:=Tryz.underlying5
 a5:=Tryz.isAgg5
 z5:=Tryz.sizeOf5
 v5:=Tryz.zeroValue5
 t9:=Tryz.underlying9
 a9:=Tryz.isAgg9
 z9:=Tryz.sizeOf9
 v9:=Tryz.zeroValue9 }
open Go.RowKit in
theorem Tryz.strings_IndexByte (s:ByteArray) (c:Int) (w:World) :
  Calls Tryz.prog 236 #[.string s,.int .u8 c] w fun e w'=>e = .returned (.int .i64 (Lib.indexByte s.data.toList c.toNat.toUInt8))∧w'=w:=Any.strings_IndexByte Tryz.lays137 s c w
def Tryz.lays210_ren:Go.Shelf.Ren:=⟨fun | 210=>270 | 206=>276 | n=>n,fun | 9=>9 | 4=>4 | 3=>3 | n=>n,fun | n=>n⟩
def Tryz.lays103_ren:Go.Shelf.Ren:=⟨fun | 103=>260 | 210=>270 | 206=>276 | n=>n,fun | 9=>9 | 4=>4 | 24=>42 | 3=>3 | n=>n,fun | n=>n⟩
theorem Tryz.lays103:Go.Proofs.Lays.n103 Tryz.prog Tryz.lays103_ren:={
 mixed:=by kernel_rfl
 f103:=Tryz.func260.trans (congrArg some (by kernel_rfl))
 f206:=Tryz.func276.trans (congrArg some (by kernel_rfl))
 f210:=Tryz.func270.trans (congrArg some (by kernel_rfl))
 t3:=Tryz.underlying3
 a3:=Tryz.isAgg3
 z3:=Tryz.sizeOf3
 v3:=Tryz.zeroValue3
 t4:=Tryz.underlying4
 a4:=Tryz.isAgg4
 z4:=Tryz.sizeOf4
 v4:=Tryz.zeroValue4
 t9:=Tryz.underlying9
 a9:=Tryz.isAgg9
 z9:=Tryz.sizeOf9
 v9:=Tryz.zeroValue9
 t24:=Tryz.underlying42
 a24:=Tryz.isAgg42
 z24:=Tryz.sizeOf42
 v24:=Tryz.zeroValue42 }
open Go.RowKit in
theorem Tryz.strings_CutPrefix (s p:ByteArray) (w:World) :
  Calls Tryz.prog 260 #[.string s,.string p] w fun e w'=>e = .returned (.tuple #[.string ⟨(Lib.trimPrefix s.data.toList p.data.toList).toArray⟩,.bool (Lib.hasPrefix s.data.toList p.data.toList)])∧w'=w:=Any.strings_CutPrefix Tryz.lays103 s p w
def Tryz.laysM246_ren:Go.Shelf.Ren:=⟨fun | 246=>295 | 283=>296 | 284=>297 | 285=>298 | 286=>299 | 129=>301 | 317=>300 | 318=>302 | 319=>303 | 320=>304 | 337=>305 | 338=>306 | n=>n,fun | 2=>2 | 3=>3 | 9=>9 | 4=>4 | 171=>481 | 0=>0 | 53=>421 | 37=>97 | 5=>5 | 173=>484 | 212=>486 | 51=>218 | 20=>20 | 213=>487 | 46=>332 | 232=>490 | 233=>491 | n=>n,fun | 17=>5 | 18=>6 | 19=>7 | n=>n⟩
def Tryz.laysM173_ren:Go.Shelf.Ren:=⟨fun | 173=>335 | 246=>295 | 283=>296 | 284=>297 | 285=>298 | 286=>299 | 129=>301 | 317=>300 | 318=>302 | 319=>303 | 320=>304 | 337=>305 | 338=>306 | n=>n,fun | 2=>2 | 3=>3 | 9=>9 | 4=>4 | 171=>481 | 0=>0 | 53=>421 | 37=>97 | 5=>5 | 173=>484 | 212=>486 | 51=>218 | 20=>20 | 213=>487 | 46=>332 | 232=>490 | 233=>491 | n=>n,fun | 17=>5 | 18=>6 | 19=>7 | n=>n⟩
theorem Tryz.laysM173:Go.Proofs.LaysM.n173 Tryz.prog Tryz.laysM173_ren:={
 mixed:=by kernel_rfl
 f129:=Tryz.func301.trans (congrArg some (by kernel_rfl))
 f173:=Tryz.func335.trans (congrArg some (by kernel_rfl))
 f246:=Tryz.func295.trans (congrArg some (by kernel_rfl))
 f283:=Tryz.func296.trans (congrArg some (by kernel_rfl))
 f284:=Tryz.func297.trans (congrArg some (by kernel_rfl))
 f285:=Tryz.func298.trans (congrArg some (by kernel_rfl))
 f286:=Tryz.func299.trans (congrArg some (by kernel_rfl))
 f317:=Tryz.func300.trans (congrArg some (by kernel_rfl))
 f318:=Tryz.func302.trans (congrArg some (by kernel_rfl))
 f319:=Tryz.func303.trans (congrArg some (by kernel_rfl))
 f320:=Tryz.func304.trans (congrArg some (by kernel_rfl))
 f337:=Tryz.func305.trans (congrArg some (by kernel_rfl))
 f338:=Tryz.func306.trans (congrArg some (by kernel_rfl))
 t0:=Tryz.underlying0
 a0:=Tryz.isAgg0
 z0:=Tryz.sizeOf0
 v0:=Tryz.zeroValue0
 t2:=Tryz.underlying2
 a2:=Tryz.isAgg2
 z2:=Tryz.sizeOf2
 v2:=Tryz.zeroValue2
 t3:=Tryz.underlying3
 a3:=Tryz.isAgg3
 z3:=Tryz.sizeOf3
 v3:=Tryz.zeroValue3
 t4:=Tryz.underlying4
 a4:=Tryz.isAgg4
 z4:=Tryz.sizeOf4
 v4:=Tryz.zeroValue4
 t5:=Tryz.underlying5
 a5:=Tryz.isAgg5
 z5:=Tryz.sizeOf5
 v5:=Tryz.zeroValue5
 t9:=Tryz.underlying9
 a9:=Tryz.isAgg9
 z9:=Tryz.sizeOf9
 v9:=Tryz.zeroValue9
 t20:=Tryz.underlying20
 a20:=Tryz.isAgg20
 z20:=Tryz.sizeOf20
 v20:=Tryz.zeroValue20
 t37:=Tryz.underlying97
 a37:=Tryz.isAgg97
 z37:=Tryz.sizeOf97
 v37:=Tryz.zeroValue97
 t46:=Tryz.underlying332
 a46:=Tryz.isAgg332
 z46:=Tryz.sizeOf332
 v46:=Tryz.zeroValue332
 t51:=Tryz.underlying218
 a51:=Tryz.isAgg218
 z51:=Tryz.sizeOf218
 v51:=Tryz.zeroValue218
 t53:=Tryz.underlying421
 a53:=Tryz.isAgg421
 z53:=Tryz.sizeOf421
 v53:=Tryz.zeroValue421
 t171:=Tryz.underlying481
 a171:=Tryz.isAgg481
 z171:=Tryz.sizeOf481
 v171:=Tryz.zeroValue481
 t173:=Tryz.underlying484
 a173:=Tryz.isAgg484
 z173:=Tryz.sizeOf484
 v173:=Tryz.zeroValue484
 t212:=Tryz.underlying486
 a212:=Tryz.isAgg486
 z212:=Tryz.sizeOf486
 v212:=Tryz.zeroValue486
 t213:=Tryz.underlying487
 a213:=Tryz.isAgg487
 z213:=Tryz.sizeOf487
 t232:=Tryz.underlying490
 a232:=Tryz.isAgg490
 z232:=Tryz.sizeOf490
 v232:=Tryz.zeroValue490
 t233:=Tryz.underlying491
 a233:=Tryz.isAgg491
 z233:=Tryz.sizeOf491
 v233:=Tryz.zeroValue491
 g17:=by kernel_rfl
 g18:=by kernel_rfl
 g19:=by kernel_rfl
 i0:=by kernel_rfl
 i2:=by kernel_rfl
 i3:=by kernel_rfl
 i4:=by kernel_rfl
 i5:=by kernel_rfl
 i9:=by kernel_rfl
 i20:=by kernel_rfl
 i37:=by kernel_rfl
 i46:=by kernel_rfl
 i51:=by kernel_rfl
 i53:=by kernel_rfl
 i171:=by kernel_rfl
 i173:=by kernel_rfl
 i212:=by kernel_rfl
 i232:=by kernel_rfl
 i233:=by kernel_rfl
 m17:=by kernel_rfl
 m18:=by kernel_rfl
 m19:=by kernel_rfl }
open Go.RowKit Go.Sort Go.Lib in
theorem Tryz.strconv_FormatInt_10 (n : Int) (h0 : -9223372036854775808 ≤ n) (h1 : n ≤ 9223372036854775807) (w : World) (htab : Lib.TabIs Tryz.prog w "internal/strconv.uint64pow10" .u64 Lib.pow10Tab) :
  Calls Tryz.prog 335 #[.int .i64 n,.int .i64 10] w fun e w'=>e = .returned (.string ⟨(Lib.itoa n).toArray⟩)∧∃ k os,w'=grow (w.drewN k) os:=Any.strconv_FormatInt_10 Tryz.laysM173 n h0 h1 w htab
def Tryz.laysM316_ren:Go.Shelf.Ren:=⟨fun | 316=>266 | n=>n,fun | 9=>9 | 3=>3 | 4=>4 | 37=>97 | 0=>0 | 127=>319 | 5=>5 | n=>n,fun | n=>n⟩
theorem Tryz.laysM316:Go.Proofs.LaysM.n316 Tryz.prog Tryz.laysM316_ren:={
 mixed:=by kernel_rfl
 f316:=Tryz.func266.trans (congrArg some (by kernel_rfl))
 t0:=Tryz.underlying0
 a0:=Tryz.isAgg0
 z0:=Tryz.sizeOf0
 v0:=Tryz.zeroValue0
 t3:=Tryz.underlying3
 a3:=Tryz.isAgg3
 z3:=Tryz.sizeOf3
 v3:=Tryz.zeroValue3
 t4:=Tryz.underlying4
 a4:=Tryz.isAgg4
 z4:=Tryz.sizeOf4
 v4:=Tryz.zeroValue4
 t9:=Tryz.underlying9
 a9:=Tryz.isAgg9
 z9:=Tryz.sizeOf9
 v9:=Tryz.zeroValue9
 t37:=Tryz.underlying97
 a37:=Tryz.isAgg97
 z37:=Tryz.sizeOf97
 v37:=Tryz.zeroValue97
 t127:=Tryz.underlying319
 a127:=Tryz.isAgg319
 z127:=Tryz.sizeOf319
 v127:=Tryz.zeroValue319
 t5:=Tryz.underlying5
 a5:=Tryz.isAgg5
 z5:=Tryz.sizeOf5
 v5:=Tryz.zeroValue5
 i0:=by kernel_rfl
 i3:=by kernel_rfl
 i4:=by kernel_rfl
 i5:=by kernel_rfl
 i9:=by kernel_rfl
 i37:=by kernel_rfl
 i127:=by kernel_rfl }
open Go.RowKit in
theorem Tryz.stringslite_Clone (s:ByteArray) (w:World) (hlim:s.size≤281474976710656) :
  Calls Tryz.prog 266 #[.string s] w fun e w'=>e = .returned (.string s)∧Below w.heap.size w w':=Any.stringslite_Clone Tryz.laysM316 s w hlim
def Tryz.laysC245_ren:Go.Shelf.Ren:=⟨fun | 245=>279 | 279=>287 | 280=>288 | 281=>289 | 282=>290 | 316=>266 | 171=>293 | 205=>292 | 243=>294 | 246=>295 | 283=>296 | 284=>297 | 285=>298 | 286=>299 | 129=>301 | 317=>300 | 318=>302 | 319=>303 | 320=>304 | 337=>305 | 338=>306 | n=>n,fun | 9=>9 | 3=>3 | 75=>55 | 167=>467 | 4=>4 | 168=>469 | 210=>475 | 37=>97 | 0=>0 | 127=>319 | 145=>479 | 143=>477 | 2=>2 | 171=>481 | 53=>421 | 5=>5 | 173=>484 | 212=>486 | 51=>218 | 20=>20 | 213=>487 | 46=>332 | 232=>490 | 233=>491 | 80=>70 | n=>n,fun | 15=>3 | 16=>4 | 17=>5 | 18=>6 | 19=>7 | n=>n⟩
theorem Tryz.laysC245:Go.Proofs.LaysC.n245 Tryz.prog Tryz.laysC245_ren:={
 mixed:=by kernel_rfl
 f129:=Tryz.func301.trans (congrArg some (by kernel_rfl))
 f171:=Tryz.func293.trans (congrArg some (by kernel_rfl))
 f205:=Tryz.func292.trans (congrArg some (by kernel_rfl))
 f243:=Tryz.func294.trans (congrArg some (by kernel_rfl))
 f245:=Tryz.func279.trans (congrArg some (by kernel_rfl))
 f246:=Tryz.func295.trans (congrArg some (by kernel_rfl))
 f279:=Tryz.func287.trans (congrArg some (by kernel_rfl))
 f280:=Tryz.func288.trans (congrArg some (by kernel_rfl))
 f281:=Tryz.func289.trans (congrArg some (by kernel_rfl))
 f282:=Tryz.func290.trans (congrArg some (by kernel_rfl))
 f283:=Tryz.func296.trans (congrArg some (by kernel_rfl))
 f284:=Tryz.func297.trans (congrArg some (by kernel_rfl))
 f285:=Tryz.func298.trans (congrArg some (by kernel_rfl))
 f286:=Tryz.func299.trans (congrArg some (by kernel_rfl))
 f316:=Tryz.func266.trans (congrArg some (by kernel_rfl))
 f317:=Tryz.func300.trans (congrArg some (by kernel_rfl))
 f318:=Tryz.func302.trans (congrArg some (by kernel_rfl))
 f319:=Tryz.func303.trans (congrArg some (by kernel_rfl))
 f320:=Tryz.func304.trans (congrArg some (by kernel_rfl))
 f337:=Tryz.func305.trans (congrArg some (by kernel_rfl))
 f338:=Tryz.func306.trans (congrArg some (by kernel_rfl))
 t0:=Tryz.underlying0
 a0:=Tryz.isAgg0
 z0:=Tryz.sizeOf0
 v0:=Tryz.zeroValue0
 t2:=Tryz.underlying2
 a2:=Tryz.isAgg2
 z2:=Tryz.sizeOf2
 v2:=Tryz.zeroValue2
 t3:=Tryz.underlying3
 a3:=Tryz.isAgg3
 z3:=Tryz.sizeOf3
 v3:=Tryz.zeroValue3
 t4:=Tryz.underlying4
 a4:=Tryz.isAgg4
 z4:=Tryz.sizeOf4
 v4:=Tryz.zeroValue4
 t5:=Tryz.underlying5
 a5:=Tryz.isAgg5
 z5:=Tryz.sizeOf5
 v5:=Tryz.zeroValue5
 t9:=Tryz.underlying9
 a9:=Tryz.isAgg9
 z9:=Tryz.sizeOf9
 v9:=Tryz.zeroValue9
 t20:=Tryz.underlying20
 a20:=Tryz.isAgg20
 z20:=Tryz.sizeOf20
 v20:=Tryz.zeroValue20
 t37:=Tryz.underlying97
 a37:=Tryz.isAgg97
 z37:=Tryz.sizeOf97
 v37:=Tryz.zeroValue97
 t46:=Tryz.underlying332
 a46:=Tryz.isAgg332
 z46:=Tryz.sizeOf332
 v46:=Tryz.zeroValue332
 t51:=Tryz.underlying218
 a51:=Tryz.isAgg218
 z51:=Tryz.sizeOf218
 v51:=Tryz.zeroValue218
 t53:=Tryz.underlying421
 a53:=Tryz.isAgg421
 z53:=Tryz.sizeOf421
 v53:=Tryz.zeroValue421
 t75:=Tryz.underlying55
 a75:=Tryz.isAgg55
 z75:=Tryz.sizeOf55
 v75:=Tryz.zeroValue55
 t127:=Tryz.underlying319
 a127:=Tryz.isAgg319
 z127:=Tryz.sizeOf319
 v127:=Tryz.zeroValue319
 t143:=Tryz.underlying477
 a143:=Tryz.isAgg477
 z143:=Tryz.sizeOf477
 v143:=Tryz.zeroValue477
 t145:=Tryz.underlying479
 a145:=Tryz.isAgg479
 z145:=Tryz.sizeOf479
 v145:=Tryz.zeroValue479
 t167:=Tryz.underlying467
 a167:=Tryz.isAgg467
 z167:=Tryz.sizeOf467
 v167:=Tryz.zeroValue467
 t168:=Tryz.underlying469
 a168:=Tryz.isAgg469
 z168:=Tryz.sizeOf469
 v168:=Tryz.zeroValue469
 t171:=Tryz.underlying481
 a171:=Tryz.isAgg481
 z171:=Tryz.sizeOf481
 v171:=Tryz.zeroValue481
 t173:=Tryz.underlying484
 a173:=Tryz.isAgg484
 z173:=Tryz.sizeOf484
 v173:=Tryz.zeroValue484
 t210:=Tryz.underlying475
 a210:=Tryz.isAgg475
 z210:=Tryz.sizeOf475
 v210:=Tryz.zeroValue475
 t212:=Tryz.underlying486
 a212:=Tryz.isAgg486
 z212:=Tryz.sizeOf486
 v212:=Tryz.zeroValue486
 t213:=Tryz.underlying487
 a213:=Tryz.isAgg487
 z213:=Tryz.sizeOf487
 t232:=Tryz.underlying490
 a232:=Tryz.isAgg490
 z232:=Tryz.sizeOf490
 v232:=Tryz.zeroValue490
 t233:=Tryz.underlying491
 a233:=Tryz.isAgg491
 z233:=Tryz.sizeOf491
 v233:=Tryz.zeroValue491
 g15:=by kernel_rfl
 g16:=by kernel_rfl
 g17:=by kernel_rfl
 g18:=by kernel_rfl
 g19:=by kernel_rfl
 t80:=Tryz.underlying70
 a80:=Tryz.isAgg70
 z80:=Tryz.sizeOf70
 v80:=Tryz.zeroValue70
 i0:=by kernel_rfl
 i2:=by kernel_rfl
 i3:=by kernel_rfl
 i4:=by kernel_rfl
 i5:=by kernel_rfl
 i9:=by kernel_rfl
 i20:=by kernel_rfl
 i37:=by kernel_rfl
 i46:=by kernel_rfl
 i51:=by kernel_rfl
 i53:=by kernel_rfl
 i75:=by kernel_rfl
 i80:=by kernel_rfl
 i127:=by kernel_rfl
 i143:=by kernel_rfl
 i145:=by kernel_rfl
 i167:=by kernel_rfl
 i168:=by kernel_rfl
 i171:=by kernel_rfl
 i173:=by kernel_rfl
 i210:=by kernel_rfl
 i212:=by kernel_rfl
 i232:=by kernel_rfl
 i233:=by kernel_rfl
 m15:=by kernel_rfl
 m16:=by kernel_rfl
 m17:=by kernel_rfl
 m18:=by kernel_rfl
 m19:=by kernel_rfl
 c0:=by kernel_rfl
 c2:=by kernel_rfl
 c3:=by kernel_rfl
 c4:=by kernel_rfl
 c5:=by kernel_rfl
 c9:=by kernel_rfl
 c20:=by kernel_rfl
 c37:=by kernel_rfl
 c46:=by kernel_rfl
 c51:=by kernel_rfl
 c53:=by kernel_rfl
 c75:=by kernel_rfl
 c80:=by kernel_rfl
 c127:=by kernel_rfl
 c143:=by kernel_rfl
 c145:=by kernel_rfl
 c167:=by kernel_rfl
 c168:=by kernel_rfl
 c171:=by kernel_rfl
 c173:=by kernel_rfl
 c210:=by kernel_rfl
 c212:=by kernel_rfl
 c213:=by kernel_rfl
 c232:=by kernel_rfl
 c233:=by kernel_rfl }
open Go.RowKit in
theorem Tryz.strconv_toError_syntax (fn s:ByteArray) (base bits:Int) (ev:Value) (w:World) (hlim:s.size≤281474976710656) (hv:w.cell? ⟨3,0,none⟩=some ev) (hev:ev = .nilIface∨∃ te pe,ev = .iface te pe) :
  Calls Tryz.prog 279 #[.string fn,.string s,.int .i64 base,.int .i64 bits,.iface 467 (.int .i64 2)] w fun e w'=>∃ N,e = .returned (.iface 469 (.pointer (some ⟨N,0,none⟩)))∧w.heap.size≤N∧w'.heap[N]? = some (.cells #[.string fn,.string s,ev] 475 (0,0))∧Below w.heap.size w w':=Any.strconv_toError_syntax Tryz.laysC245 fn s base bits ev w hlim hv hev
def Tryz.lays321_ren:Go.Shelf.Ren:=⟨fun | 321=>285 | n=>n,fun | 5=>5 | n=>n,fun | n=>n⟩
theorem Tryz.lays321:Go.Proofs.Lays.n321 Tryz.prog Tryz.lays321_ren:={
 mixed:=by kernel_rfl
 f321:=Tryz.func285.trans (congrArg some (by kernel_rfl))
 t5:=Tryz.underlying5
 a5:=Tryz.isAgg5
 z5:=Tryz.sizeOf5
 v5:=Tryz.zeroValue5 }
open Go.RowKit in
theorem Tryz.internal_strconv_lower (c:Int) (w:World) :
  Calls Tryz.prog 285 #[.int .u8 c] w fun e w'=>e = .returned (.int .u8 (bits .or .u8 c 32))∧w'=w:=Any.internal_strconv_lower Tryz.lays321 c w
def Tryz.lays287_ren:Go.Shelf.Ren:=⟨fun | 287=>278 | 321=>285 | 322=>286 | n=>n,fun | 9=>9 | 3=>3 | 53=>421 | 75=>55 | 4=>4 | 167=>467 | 5=>5 | 46=>332 | 37=>97 | 0=>0 | 21=>21 | 80=>70 | n=>n,fun | n=>n⟩
theorem Tryz.lays287:Go.Proofs.Lays.n287 Tryz.prog Tryz.lays287_ren:={
 mixed:=by kernel_rfl
 f287:=Tryz.func278.trans (congrArg some (by kernel_rfl))
 f321:=Tryz.func285.trans (congrArg some (by kernel_rfl))
 f322:=Tryz.func286.trans (congrArg some (by kernel_rfl))
 t0:=Tryz.underlying0
 a0:=Tryz.isAgg0
 z0:=Tryz.sizeOf0
 v0:=Tryz.zeroValue0
 t3:=Tryz.underlying3
 a3:=Tryz.isAgg3
 z3:=Tryz.sizeOf3
 v3:=Tryz.zeroValue3
 t4:=Tryz.underlying4
 a4:=Tryz.isAgg4
 z4:=Tryz.sizeOf4
 v4:=Tryz.zeroValue4
 t5:=Tryz.underlying5
 a5:=Tryz.isAgg5
 z5:=Tryz.sizeOf5
 v5:=Tryz.zeroValue5
 t9:=Tryz.underlying9
 a9:=Tryz.isAgg9
 z9:=Tryz.sizeOf9
 v9:=Tryz.zeroValue9
 t21:=Tryz.underlying21
 a21:=Tryz.isAgg21
 z21:=Tryz.sizeOf21
 v21:=Tryz.zeroValue21
 t37:=Tryz.underlying97
 a37:=Tryz.isAgg97
 z37:=Tryz.sizeOf97
 v37:=Tryz.zeroValue97
 t46:=Tryz.underlying332
 a46:=Tryz.isAgg332
 z46:=Tryz.sizeOf332
 v46:=Tryz.zeroValue332
 t53:=Tryz.underlying421
 a53:=Tryz.isAgg421
 z53:=Tryz.sizeOf421
 v53:=Tryz.zeroValue421
 t75:=Tryz.underlying55
 a75:=Tryz.isAgg55
 z75:=Tryz.sizeOf55
 v75:=Tryz.zeroValue55
 t167:=Tryz.underlying467
 a167:=Tryz.isAgg467
 z167:=Tryz.sizeOf467
 v167:=Tryz.zeroValue467 }
open Go.RowKit in
theorem Tryz.internal_strconv_ParseUint_empty (base bits:Int) (w:World) :
  Calls Tryz.prog 278 #[.string ⟨#[]⟩,.int .i64 base,.int .i64 bits] w fun e w'=>e = .returned (.tuple #[.int .u64 0,.iface 467 (.int .i64 2)])∧w'=w:=Any.internal_strconv_ParseUint_empty Tryz.lays287 base bits w
def Tryz.laysC174_ren:Go.Shelf.Ren:=⟨fun | 174=>275 | 247=>281 | 245=>279 | 287=>278 | 279=>287 | 280=>288 | 281=>289 | 282=>290 | 321=>285 | 322=>286 | 316=>266 | 171=>293 | 205=>292 | 243=>294 | 246=>295 | 283=>296 | 284=>297 | 285=>298 | 286=>299 | 129=>301 | 317=>300 | 318=>302 | 319=>303 | 320=>304 | 337=>305 | 338=>306 | n=>n,fun | 9=>9 | 3=>3 | 2=>2 | 75=>55 | 85=>463 | 4=>4 | 167=>467 | 5=>5 | 53=>421 | 175=>460 | 46=>332 | 168=>469 | 37=>97 | 0=>0 | 210=>475 | 21=>21 | 127=>319 | 145=>479 | 143=>477 | 171=>481 | 173=>484 | 212=>486 | 51=>218 | 20=>20 | 213=>487 | 232=>490 | 233=>491 | 80=>70 | n=>n,fun | 15=>3 | 16=>4 | 17=>5 | 18=>6 | 19=>7 | n=>n⟩
theorem Tryz.laysC174:Go.Proofs.LaysC.n174 Tryz.prog Tryz.laysC174_ren:={
 mixed:=by kernel_rfl
 f129:=Tryz.func301.trans (congrArg some (by kernel_rfl))
 f171:=Tryz.func293.trans (congrArg some (by kernel_rfl))
 f174:=Tryz.func275.trans (congrArg some (by kernel_rfl))
 f205:=Tryz.func292.trans (congrArg some (by kernel_rfl))
 f243:=Tryz.func294.trans (congrArg some (by kernel_rfl))
 f245:=Tryz.func279.trans (congrArg some (by kernel_rfl))
 f246:=Tryz.func295.trans (congrArg some (by kernel_rfl))
 f247:=Tryz.func281.trans (congrArg some (by kernel_rfl))
 f279:=Tryz.func287.trans (congrArg some (by kernel_rfl))
 f280:=Tryz.func288.trans (congrArg some (by kernel_rfl))
 f281:=Tryz.func289.trans (congrArg some (by kernel_rfl))
 f282:=Tryz.func290.trans (congrArg some (by kernel_rfl))
 f283:=Tryz.func296.trans (congrArg some (by kernel_rfl))
 f284:=Tryz.func297.trans (congrArg some (by kernel_rfl))
 f285:=Tryz.func298.trans (congrArg some (by kernel_rfl))
 f286:=Tryz.func299.trans (congrArg some (by kernel_rfl))
 f287:=Tryz.func278.trans (congrArg some (by kernel_rfl))
 f316:=Tryz.func266.trans (congrArg some (by kernel_rfl))
 f317:=Tryz.func300.trans (congrArg some (by kernel_rfl))
 f318:=Tryz.func302.trans (congrArg some (by kernel_rfl))
 f319:=Tryz.func303.trans (congrArg some (by kernel_rfl))
 f320:=Tryz.func304.trans (congrArg some (by kernel_rfl))
 f321:=Tryz.func285.trans (congrArg some (by kernel_rfl))
 f322:=Tryz.func286.trans (congrArg some (by kernel_rfl))
 f337:=Tryz.func305.trans (congrArg some (by kernel_rfl))
 f338:=Tryz.func306.trans (congrArg some (by kernel_rfl))
 t0:=Tryz.underlying0
 a0:=Tryz.isAgg0
 z0:=Tryz.sizeOf0
 v0:=Tryz.zeroValue0
 t2:=Tryz.underlying2
 a2:=Tryz.isAgg2
 z2:=Tryz.sizeOf2
 v2:=Tryz.zeroValue2
 t3:=Tryz.underlying3
 a3:=Tryz.isAgg3
 z3:=Tryz.sizeOf3
 v3:=Tryz.zeroValue3
 t4:=Tryz.underlying4
 a4:=Tryz.isAgg4
 z4:=Tryz.sizeOf4
 v4:=Tryz.zeroValue4
 t5:=Tryz.underlying5
 a5:=Tryz.isAgg5
 z5:=Tryz.sizeOf5
 v5:=Tryz.zeroValue5
 t9:=Tryz.underlying9
 a9:=Tryz.isAgg9
 z9:=Tryz.sizeOf9
 v9:=Tryz.zeroValue9
 t20:=Tryz.underlying20
 a20:=Tryz.isAgg20
 z20:=Tryz.sizeOf20
 v20:=Tryz.zeroValue20
 t21:=Tryz.underlying21
 a21:=Tryz.isAgg21
 z21:=Tryz.sizeOf21
 v21:=Tryz.zeroValue21
 t37:=Tryz.underlying97
 a37:=Tryz.isAgg97
 z37:=Tryz.sizeOf97
 v37:=Tryz.zeroValue97
 t46:=Tryz.underlying332
 a46:=Tryz.isAgg332
 z46:=Tryz.sizeOf332
 v46:=Tryz.zeroValue332
 t51:=Tryz.underlying218
 a51:=Tryz.isAgg218
 z51:=Tryz.sizeOf218
 v51:=Tryz.zeroValue218
 t53:=Tryz.underlying421
 a53:=Tryz.isAgg421
 z53:=Tryz.sizeOf421
 v53:=Tryz.zeroValue421
 t75:=Tryz.underlying55
 a75:=Tryz.isAgg55
 z75:=Tryz.sizeOf55
 v75:=Tryz.zeroValue55
 t85:=Tryz.underlying463
 a85:=Tryz.isAgg463
 z85:=Tryz.sizeOf463
 v85:=Tryz.zeroValue463
 t127:=Tryz.underlying319
 a127:=Tryz.isAgg319
 z127:=Tryz.sizeOf319
 v127:=Tryz.zeroValue319
 t143:=Tryz.underlying477
 a143:=Tryz.isAgg477
 z143:=Tryz.sizeOf477
 v143:=Tryz.zeroValue477
 t145:=Tryz.underlying479
 a145:=Tryz.isAgg479
 z145:=Tryz.sizeOf479
 v145:=Tryz.zeroValue479
 t167:=Tryz.underlying467
 a167:=Tryz.isAgg467
 z167:=Tryz.sizeOf467
 v167:=Tryz.zeroValue467
 t168:=Tryz.underlying469
 a168:=Tryz.isAgg469
 z168:=Tryz.sizeOf469
 v168:=Tryz.zeroValue469
 t171:=Tryz.underlying481
 a171:=Tryz.isAgg481
 z171:=Tryz.sizeOf481
 v171:=Tryz.zeroValue481
 t173:=Tryz.underlying484
 a173:=Tryz.isAgg484
 z173:=Tryz.sizeOf484
 v173:=Tryz.zeroValue484
 t175:=Tryz.underlying460
 a175:=Tryz.isAgg460
 z175:=Tryz.sizeOf460
 v175:=Tryz.zeroValue460
 t210:=Tryz.underlying475
 a210:=Tryz.isAgg475
 z210:=Tryz.sizeOf475
 v210:=Tryz.zeroValue475
 t212:=Tryz.underlying486
 a212:=Tryz.isAgg486
 z212:=Tryz.sizeOf486
 v212:=Tryz.zeroValue486
 t213:=Tryz.underlying487
 a213:=Tryz.isAgg487
 z213:=Tryz.sizeOf487
 t232:=Tryz.underlying490
 a232:=Tryz.isAgg490
 z232:=Tryz.sizeOf490
 v232:=Tryz.zeroValue490
 t233:=Tryz.underlying491
 a233:=Tryz.isAgg491
 z233:=Tryz.sizeOf491
 v233:=Tryz.zeroValue491
 g15:=by kernel_rfl
 g16:=by kernel_rfl
 g17:=by kernel_rfl
 g18:=by kernel_rfl
 g19:=by kernel_rfl
 t80:=Tryz.underlying70
 a80:=Tryz.isAgg70
 z80:=Tryz.sizeOf70
 v80:=Tryz.zeroValue70
 i0:=by kernel_rfl
 i2:=by kernel_rfl
 i3:=by kernel_rfl
 i4:=by kernel_rfl
 i5:=by kernel_rfl
 i9:=by kernel_rfl
 i20:=by kernel_rfl
 i21:=by kernel_rfl
 i37:=by kernel_rfl
 i46:=by kernel_rfl
 i51:=by kernel_rfl
 i53:=by kernel_rfl
 i75:=by kernel_rfl
 i80:=by kernel_rfl
 i85:=by kernel_rfl
 i127:=by kernel_rfl
 i143:=by kernel_rfl
 i145:=by kernel_rfl
 i167:=by kernel_rfl
 i168:=by kernel_rfl
 i171:=by kernel_rfl
 i173:=by kernel_rfl
 i175:=by kernel_rfl
 i210:=by kernel_rfl
 i212:=by kernel_rfl
 i232:=by kernel_rfl
 i233:=by kernel_rfl
 m15:=by kernel_rfl
 m16:=by kernel_rfl
 m17:=by kernel_rfl
 m18:=by kernel_rfl
 m19:=by kernel_rfl
 c0:=by kernel_rfl
 c2:=by kernel_rfl
 c3:=by kernel_rfl
 c4:=by kernel_rfl
 c5:=by kernel_rfl
 c9:=by kernel_rfl
 c20:=by kernel_rfl
 c21:=by kernel_rfl
 c37:=by kernel_rfl
 c46:=by kernel_rfl
 c51:=by kernel_rfl
 c53:=by kernel_rfl
 c75:=by kernel_rfl
 c80:=by kernel_rfl
 c85:=by kernel_rfl
 c127:=by kernel_rfl
 c143:=by kernel_rfl
 c145:=by kernel_rfl
 c167:=by kernel_rfl
 c168:=by kernel_rfl
 c171:=by kernel_rfl
 c173:=by kernel_rfl
 c175:=by kernel_rfl
 c210:=by kernel_rfl
 c212:=by kernel_rfl
 c213:=by kernel_rfl
 c232:=by kernel_rfl
 c233:=by kernel_rfl }
open Go.RowKit in
theorem Tryz.strconv_ParseInt_10_at64_ok (s:ByteArray) (hmax:s.size≤9223372036854775806) (v:Int) (h:Lib.parseIntB 64 s.data.toList = .ok v) (w:World) :
  Calls Tryz.prog 275 #[.string s,.int .i64 10,.int .i64 64] w fun e w'=>e = .returned (.tuple #[.int .i64 v,.nilIface])∧(w'=w∨∃ t,w'=Lib.bytesWorld w 5 t):=Any.strconv_ParseInt_10_at64_ok Tryz.laysC174 s hmax v h w
open Go.RowKit in
theorem Tryz.strconv_ParseInt_10_at64_syntax (s:ByteArray) (hlim:s.size≤281474976710656) (h:Lib.parseIntB 64 s.data.toList = .«syntax») (ev:Value) (w:World) (hv:w.cell? ⟨3,0,none⟩=some ev) (hev:ev = .nilIface∨∃ te pe,ev = .iface te pe) :
  Calls Tryz.prog 275 #[.string s,.int .i64 10,.int .i64 64] w fun e w'=>∃ N,e = .returned (.tuple #[.int .i64 (0),.iface 469 (.pointer (some ⟨N,0,none⟩))])∧w.heap.size≤N∧w'.heap[N]? = some (.cells #[.string ⟨#[80,97,114,115,101,73,110,116]⟩,.string s,ev] 475 (0,0))∧Below w.heap.size w w':=Any.strconv_ParseInt_10_at64_syntax Tryz.laysC174 s hlim h ev w hv hev
open Go.RowKit in
theorem Tryz.strconv_ParseInt_10_at64_range (s:ByteArray) (hlim:s.size≤281474976710656) (h:Lib.parseIntB 64 s.data.toList = .range) (ev:Value) (w:World) (hv:w.cell? ⟨4,0,none⟩=some ev) (hev:ev = .nilIface∨∃ te pe,ev = .iface te pe) :
  Calls Tryz.prog 275 #[.string s,.int .i64 10,.int .i64 64] w fun e w'=>∃ N,e = .returned (.tuple #[.int .i64 (Lib.intSat 64 s.data.toList),.iface 469 (.pointer (some ⟨N,0,none⟩))])∧w.heap.size≤N∧w'.heap[N]? = some (.cells #[.string ⟨#[80,97,114,115,101,73,110,116]⟩,.string s,ev] 475 (0,0))∧Below w.heap.size w w':=Any.strconv_ParseInt_10_at64_range Tryz.laysC174 s hlim h ev w hv hev
def Tryz.lays219_ren:Go.Shelf.Ren:=⟨fun | 219=>277 | 217=>262 | 225=>282 | 224=>283 | 267=>284 | 266=>272 | 314=>291 | n=>n,fun | 9=>9 | 3=>3 | 4=>4 | 5=>5 | 46=>332 | 146=>472 | 51=>218 | n=>n,fun | 1=>2 | n=>n⟩
def Tryz.lays145_ren:Go.Shelf.Ren:=⟨fun | 145=>261 | 220=>271 | 219=>277 | 217=>262 | 225=>282 | 224=>283 | 267=>284 | 266=>272 | 314=>291 | n=>n,fun | 9=>9 | 4=>4 | 59=>454 | 3=>3 | 5=>5 | 46=>332 | 146=>472 | 51=>218 | n=>n,fun | 1=>2 | n=>n⟩
theorem Tryz.lays145:Go.Proofs.Lays.n145 Tryz.prog Tryz.lays145_ren:={
 mixed:=by kernel_rfl
 f145:=Tryz.func261.trans (congrArg some (by kernel_rfl))
 f217:=Tryz.func262.trans (congrArg some (by kernel_rfl))
 f219:=Tryz.func277.trans (congrArg some (by kernel_rfl))
 f220:=Tryz.func271.trans (congrArg some (by kernel_rfl))
 f224:=Tryz.func283.trans (congrArg some (by kernel_rfl))
 f225:=Tryz.func282.trans (congrArg some (by kernel_rfl))
 f266:=Tryz.func272.trans (congrArg some (by kernel_rfl))
 f267:=Tryz.func284.trans (congrArg some (by kernel_rfl))
 f314:=Tryz.func291.trans (congrArg some (by kernel_rfl))
 t3:=Tryz.underlying3
 a3:=Tryz.isAgg3
 z3:=Tryz.sizeOf3
 v3:=Tryz.zeroValue3
 t4:=Tryz.underlying4
 a4:=Tryz.isAgg4
 z4:=Tryz.sizeOf4
 v4:=Tryz.zeroValue4
 t5:=Tryz.underlying5
 a5:=Tryz.isAgg5
 z5:=Tryz.sizeOf5
 v5:=Tryz.zeroValue5
 t9:=Tryz.underlying9
 a9:=Tryz.isAgg9
 z9:=Tryz.sizeOf9
 v9:=Tryz.zeroValue9
 t46:=Tryz.underlying332
 a46:=Tryz.isAgg332
 z46:=Tryz.sizeOf332
 v46:=Tryz.zeroValue332
 t51:=Tryz.underlying218
 a51:=Tryz.isAgg218
 z51:=Tryz.sizeOf218
 v51:=Tryz.zeroValue218
 t59:=Tryz.underlying454
 a59:=Tryz.isAgg454
 z59:=Tryz.sizeOf454
 v59:=Tryz.zeroValue454
 t146:=Tryz.underlying472
 a146:=Tryz.isAgg472
 z146:=Tryz.sizeOf472
 v146:=Tryz.zeroValue472
 g1:=by kernel_rfl }
open Go.RowKit Go.Lib in
theorem Tryz.strings_Cut (s sep:ByteArray) (m:Int) (w:World) (hs:s.size < 4294967281) (hm:w.cell? ⟨2,0,none⟩=some (.int .i64 m)) :
  Calls Tryz.prog 261 #[.string s,.string sep] w fun e w'=>e = .returned (.tuple #[.string ⟨(Lib.cut s.data.toList sep.data.toList).1.toArray⟩,.string ⟨(Lib.cut s.data.toList sep.data.toList).2.1.toArray⟩,.bool (Lib.cut s.data.toList sep.data.toList).2.2])∧∃ n,w'=w.drewN n:=Any.strings_Cut Tryz.lays145 s sep m w hs hm
def Tryz.lays101_ren:Go.Shelf.Ren:=⟨fun | 101=>274 | 208=>280 | 206=>276 | n=>n,fun | 9=>9 | 4=>4 | 3=>3 | n=>n,fun | n=>n⟩
theorem Tryz.lays101:Go.Proofs.Lays.n101 Tryz.prog Tryz.lays101_ren:={
 mixed:=by kernel_rfl
 f101:=Tryz.func274.trans (congrArg some (by kernel_rfl))
 f206:=Tryz.func276.trans (congrArg some (by kernel_rfl))
 f208:=Tryz.func280.trans (congrArg some (by kernel_rfl))
 t3:=Tryz.underlying3
 a3:=Tryz.isAgg3
 z3:=Tryz.sizeOf3
 v3:=Tryz.zeroValue3
 t4:=Tryz.underlying4
 a4:=Tryz.isAgg4
 z4:=Tryz.sizeOf4
 v4:=Tryz.zeroValue4
 t9:=Tryz.underlying9
 a9:=Tryz.isAgg9
 z9:=Tryz.sizeOf9
 v9:=Tryz.zeroValue9 }
open Go.RowKit Go.Lib in
theorem Tryz.strings_TrimPrefix (s p:ByteArray) (w:World) :
  Calls Tryz.prog 274 #[.string s,.string p] w fun e w'=>e = .returned (.string ⟨(Lib.trimPrefix s.data.toList p.data.toList).toArray⟩)∧w'=w:=Any.strings_TrimPrefix Tryz.lays101 s p w
end Go.Proofs
namespace Go.Proofs.YtjdhaegijjednaaGreatDoor
open Go.Proofs.Tryz
def ac(p:Prop):Prop:=p
theorem ac.j{p:Prop}(h:ac p):p:=h
abbrev Y2:=@if_neg
abbrev Y4:=@Nat.le_refl
abbrev Y5:=@List.mem_cons_of_mem
abbrev Y8:=@Or.inl
abbrev Y9:=@if_pos
abbrev Ya:=@Or.inr
abbrev Yb:=@List.mem_cons_self
abbrev Yc:=@List.mem_singleton
abbrev Yd:=@List.getElem?_eq_getElem
abbrev Ye:=@Bool.false_eq_true
abbrev Yf:=@List.mem_append_left
abbrev Yg:=@List.mem_cons
abbrev Yh:=@List.mem_of_getElem?
abbrev Yi:=@beq_eq_false_iff_ne
abbrev Yj:=@Nat.lt_or_ge
abbrev Yk:=@List.drop_eq_getElem_cons
abbrev Ym:=@List.mem_append_right
abbrev Yn:=@List.mem_append
abbrev Yo:=@congrArg
abbrev Yp:=@And.intro
abbrev Yq:=@List.length_append
abbrev Yr:=@Nat.lt_of_lt_of_le
abbrev Ys:=@List.getElem?_append_left
abbrev Yt:=@List.take_succ_eq_append_getElem
abbrev Yu:=@Option.some.injEq
abbrev Yv:=@List.length_eq_zero_iff
abbrev Yw:=@List.getElem?_append_right
abbrev Yy:=@List.getElem_mem
abbrev Yz:=@Nat.le_trans
abbrev YA:=@List.getElem?_eq_none
abbrev YB:=@List.getElem?_eq_some_iff
abbrev YC:=@List.length_cons
abbrev YD:=@List.flatMap_cons
abbrev YE:=@List.mem_map
abbrev YF:=@List.length_set
abbrev YG:=@List.take_length
abbrev YH:=@List.append_nil
abbrev YI:=@List.length_drop
abbrev YJ:=@List.nodup_append
abbrev YK:=@List.flatMap_append
abbrev YM:=@List.length_pos_iff
abbrev YN:=@List.append_assoc
abbrev YO:=@Array.getElem?_eq_none
abbrev YP:=@List.getElem?_set
abbrev YQ:=@Option.some.inj
abbrev YR:=@List.drop_eq_nil_of_le
abbrev YS:=@List.foldl_append
abbrev YT:=@List.nil_append
abbrev YU:=@List.length_map
abbrev YV:=@Nat.zero_le
abbrev YW:=@List.length_take
abbrev YX:=@List.cons_append
abbrev YY:=@List.foldl_cons
abbrev Zb:=List UInt8
abbrev Zw:=World
abbrev Zv:=Value
abbrev Za:=ByteArray
abbrev Zc:=List Zb
abbrev Zo:=List (Nat×Obj)
abbrev Zl:=List Value
abbrev U(a:Int):Value:=.int .i64 a
abbrev Zp(a:Nat):Value:=.pointer (some ⟨a,0,none⟩)
abbrev Zs(a:List UInt8):Value:=.string ⟨a.toArray⟩
abbrev Zd(a b:Nat):Addr:=⟨a,b,none⟩
end Go.Proofs.YtjdhaegijjednaaGreatDoor
namespace Go.Proofs.YtjdhaegijjednaaGreatDoor
open Go.RowKit
open Go.Proofs.Tryz
def iT:∀(b:Fn) (first a:Array Value) (c:World),(Instr.makeFunc b first a).run Tryz.prog c=.ok (.func b first a) c:=λ_ _ _ _=>rfl
def jr:∀(b:TypeId) (a:World),(Instr.makeMap b none).run Tryz.prog a=.ok (.map (some a.heap.size)) (a.alloc (.map #[] 0)):=λ_ _=>rfl
def vH(b c:TypeId)(d:∀a,(Instr.typeAssert .nilIface b c true).run Tryz.prog a=.ok (.tuple #[.pointer none,.bool false]) a):∀a,(Instr.typeAssert .nilIface b c true).run Tryz.prog a=.ok (.tuple #[.pointer none,.bool false]) a:=d
def dZ(d:TypeId)(b:Nat)(c e:TypeId)(f:∀a,(Instr.typeAssert (.iface d (.pointer (some ⟨b,0,none⟩))) c e true).run Tryz.prog a=.ok (.tuple #[.pointer none,.bool false]) a):∀a,(Instr.typeAssert (.iface d (.pointer (some ⟨b,0,none⟩))) c e true).run Tryz.prog a=.ok (.tuple #[.pointer none,.bool false]) a:=f
def mz(d:TypeId)(b:Nat)(c e:TypeId)(f:∀a,(Instr.typeAssert (.iface d (.pointer (some ⟨b,0,none⟩))) c e true).run Tryz.prog a=.ok (.tuple #[.pointer (some ⟨b,0,none⟩),.bool true]) a):∀a,(Instr.typeAssert (.iface d (.pointer (some ⟨b,0,none⟩))) c e true).run Tryz.prog a=.ok (.tuple #[.pointer (some ⟨b,0,none⟩),.bool true]) a:=f
def qK(d:TypeId)(e:∀(b c:Value) (a:World),(Instr.field d (.agg #[b,c]) 0).run Tryz.prog a=.ok b a):∀(b c:Value) (a:World),(Instr.field d (.agg #[b,c]) 0).run Tryz.prog a=.ok b a:=e
end Go.Proofs.YtjdhaegijjednaaGreatDoor
namespace Go.Proofs.YtjdhaegijjednaaGreatDoor
open Go.Proofs.Tryz
namespace Mar
def eh(a:UInt8):Bool:=(decide (97<=a.toNat)&&decide (a.toNat<=122))||(decide (65<=a.toNat)&&decide (a.toNat<=90))
def dn(a:UInt8):Bool:=decide (48<=a.toNat)&&decide (a.toNat<=57)
def cW(a:UInt8):Bool:=eh a||dn a||a.toNat==95
def a4:Zb->Zb
 |[]=>[]
 |c::a=>c::a.takeWhile cW
def h6:Zc:=
 [[99,111,110,115,116],[116,121,112,101,100,101,102],[101,110,117,109],[115,116,114,117,99,116],[117,110,105,111,110],
  [115,119,105,116,99,104],[99,97,115,101],[100,101,102,97,117,108,116],[118,111,105,100],[105,110,116],
  [117,110,115,105,103,110,101,100],[104,121,112,101,114],[98,111,111,108],[111,112,97,113,117,101],[115,116,114,105,110,103],
  [112,114,111,103,114,97,109],[118,101,114,115,105,111,110],[84,82,85,69],[70,65,76,83,69]]
def d2(a:Zb):Bool:=h6.contains a
def e0(a:Zb):Nat:=
 if Lib.hasPrefix a [47,42]then (if 0<=Lib.index (a.drop 2) [42,47]then (Lib.index (a.drop 2) [42,47]).toNat+4 else 0)else 0
def fB(a:UInt8):Bool:=a==32||a==9||a==10
def d8:Zb->Nat
 |[]=>0
 |a::b=>if fB a then 1 else e0 (a::b)
def ey:Nat->Zb->Nat
 |0,_=>0
 |f+1,a=>if d8 a=0 then 0 else d8 a+ey f (a.drop (d8 a))
def eT(a:Zb):Nat:=ey (a.length+1) a
def kq(a b:Zb)(e:b≠[])(c:0<=Lib.index a b):(Lib.index a b).toNat+b.length<=a.length:=by
 induction a with
 |nil=>
  simp_all[Lib.index]
 |cons d a f=>
  unfold Lib.index at c ⊢;grind
theorem j5(a:Zb):e0 a<=a.length:=by
 unfold e0;split
 .rename_i c;have d:=(List.isPrefixOf_iff_prefix.1 c).length_le;simp at d;split
  .rename_i b;have:=kq (a.drop 2) [42,47] (by simp) b;grind
  omega
 omega
theorem jk(a:Zb):d8 a<=a.length:=by
 cases a<;>grind [d8,j5]
theorem k7(a:Nat)(b:Zb):ey a b<=b.length:=by
 induction a generalizing b with
 |zero=>simp[ey]
 |succ a c=>
  grind [ey,jk]
structure aT where
 C:Nat
 text:Zb
 n:Int
 m:Nat
structure aw where
 no:Nat
 m:Nat
def et(a:Zb)(b:Nat):Except aw aT:=
 if 16<a.length then .error ⟨7,b⟩else if d2 a then .ok ⟨2,a,0,b⟩else .ok ⟨1,a,0,b⟩
def fI(a:Zb):Bool:=decide (1<a.length)&&a.getD 0 0==48
def e1(a:Zb):Option Int:=
 if fI (Lib.trimPrefix a [45])then none else
 match Lib.parseIntB 64 a with
 |.ok v=>if -2147483648<=v/\v<=4294967295 then some v else none
 |_=>none
def dA(a:UInt8):Option Nat:=
 if 48<=a.toNat/\a.toNat<=57 then some (a.toNat-48)
 else if 97<=a.toNat/\a.toNat<=102 then some (a.toNat-87)
 else if 65<=a.toNat/\a.toNat<=70 then some (a.toNat-55)
 else none
def cf:Nat->Zb->Option Nat
 |acc,[]=>some acc
 |acc,a::c=>match dA a with
  |some b=>cf (acc*16+b) c
  |none=>none
def f3(a:Zb):Option Int:=
 if 8<a.length then none else if a=[]then none else (cf 0 a).map Int.ofNat
def fd(a:Zb):Option Int:=if Lib.hasPrefix a [48,120]then f3 (a.drop 2)else e1 a
def f1(b:Zb)(a:Nat):Except aw aT:=
 match fd b with
 |some c=>.ok ⟨3,b,c,a⟩
 |none=>.error ⟨4,a⟩
def f0(a:UInt8):Bool:=[123,125,40,41,91,93,60,62,42,44,59,58,61].contains a
def c5(d:Zb)(b:Nat):Except aw aT:=
 match d with
 |[]=>.ok ⟨0,[],0,b⟩
 |a::c=>
  if eh a then et (a4 (a::c)) b
  else if dn a||a==45 then f1 (a4 (a::c)) b
  else if f0 a then .ok ⟨4,[a],0,b⟩
  else .error ⟨2,b⟩
def jK{b:UInt8}{a:Nat}(c:dA b=some a):a<16:=by
 grind [dA]
end Mar
namespace Mar
theorem k6{b:UInt8}(a:f0 b=true):eh b=false/\dn b=false/\(b==45)=false/\cW b=false/\fB b=false/\b≠47:=by
 simp only[f0,List.contains_eq_mem,Yg,List.not_mem_nil,or_false,decide_eq_true_eq]at a;rcases a with a|a|a|a|a|a|a|a|a|a|a|a|a<;>subst a<;>decide
def bG(b:Zb->Zb->Bool):Zb->Zc->Zb
 |_,[]=>[]
 |last,a::c=>(if b last a then [32]else [])++(a++bG b a c)
end Mar
end Go.Proofs.YtjdhaegijjednaaGreatDoor
namespace Go.Proofs.YtjdhaegijjednaaGreatDoor
open Go.RowKit
open Go.Proofs.Tryz
def kU{a b:Bool}(c:a=b):Ending.returned (.bool a)=.returned (.bool b):=by rw[c]
def sT{c:IntKind}{a b:Int}(d:a=b):Ending.returned (.int c a)=.returned (.int c b):=by rw[d]
def Cg{a b:Za}(c:a=b):Ending.returned (.string a)=.returned (.string b):=by rw[c]
def AG(a:UInt8)(b:Zw) :
  Calls prog 237 #[.int .u8 a.toNat] b λc d=>c=.returned (.bool (Mar.eh a))/\d=b:=by
 go_in;go_wp2;all_goals
  go_ret
  refine⟨kU ?_,rfl⟩
  unfold Mar.eh
  rw[Bool.eq_iff_iff]
  simp
  try omega
def AF(a:UInt8)(b:Zw) :
  Calls prog 240 #[.int .u8 a.toNat] b λc d=>c=.returned (.bool (Mar.dn a))/\d=b:=by
 go_in;go_wp2;all_goals
  go_ret
  refine⟨kU ?_,rfl⟩
  unfold Mar.dn
  rw[Bool.eq_iff_iff]
  simp
  try omega
def Jf(a:Za)(b:Zw) :
  Calls prog 263 #[.string a] b λc d=>c=.returned (.bool (Mar.d2 a.data.toList))/\d=b:=by
 rw[<-ByteArray.toList_eq];go_in;go_wp2;all_goals
  first
   |(exfalso;simp_all;done)
   |(go_ret;refine⟨kU ?_, rfl⟩;simp only[Mar.d2, Mar.h6, List.contains_cons, *, Bool.true_or, Bool.false_or, Bool.or_true, List.contains_nil])
section
variable {a:UInt8}
theorem Z{a:Prop}(b:a):ac a:=b
def vZ(a:Za)(b:Zw)(e:a.size<=281474976710656) :
  Calls prog 242 #[.string a] b λc d=>c=.returned (.string a)/\Below b.heap.size b d:=by
 go_in;go_wp2_with (go_at_call 266;refine(Tryz.stringslite_Clone _ _ e).mono ?_;rintro c d ⟨rfl,f⟩);go_ret;simp_all
def ye(e:Za)(b:Nat)(p:1<=b)(g:b<=e.size)(h:∀c (j:c<e.size),1<=c->c<b->Mar.cW e[c]=true)
  (i:∀k:b<e.size,Mar.cW e[b]=false):Mar.a4 e.data.toList=e.data.toList.take b:=by
 obtain⟨⟨d⟩⟩:=e;replace g:b<=d.length:=g;replace h:∀c (j:c<d.length),1<=c->c<b->Mar.cW d[c]=true:=h;replace i:∀k:b<d.length,Mar.cW d[b]=false:=i;show Mar.a4 d=d.take b;cases d with
 |nil=>simp_all
 |cons a f=>
  obtain⟨b,rfl⟩:∃o,b=o+1:=⟨b-1,by omega⟩;simp only[Mar.a4,List.take_succ_cons,List.cons.injEq,true_and];simp only[YC]at g;have m:∀l∈f.take b,Mar.cW l=true:=by
   intro l n;obtain⟨c,j,rfl⟩:=List.getElem_of_mem n;grind
  conv=>lhs;rw[<-List.take_append_drop b f]
  rw[List.takeWhile_append_of_pos m];have:(f.drop b).takeWhile Mar.cW=[]:=by
   by_cases k:b<f.length
   .grind [List.drop_eq_getElem_cons,List.takeWhile_cons_of_neg]
   simp_all[List.drop_of_length_le]
  simp_all
def IP(b:Mar.eh a=true):Mar.cW a=true:=by simp[Mar.cW,b]
def IN(b:Mar.dn a=true):Mar.cW a=true:=by simp[Mar.cW,b]
def IQ(b:((a.toNat:Int)==95)=true):Mar.cW a=true:=by
 grind [Mar.cW]
def IR(b:¬Mar.eh a=true)(c:¬Mar.dn a=true)(d:((a.toNat:Int)==95)=false):Mar.cW a=false:=by
 grind [Mar.cW]
def wU(b:Za)(a:Nat):b.extract 0 a=⟨(b.data.toList.take a).toArray⟩:=by
 apply ByteArray.ext;simp only[ByteArray.data_extract];grind
def OD(b:Za)(i:Zw)(v:b.size<=281474976710656)(t:0<b.size) :
  Calls prog 239 #[.string b] i λd j=>d=.returned (.string ⟨(Mar.a4 b.data.toList).toArray⟩)/\Below i.heap.size i j:=by
 go_in;go_wp2;go_loop [3] (λh=>∃c:Nat,1<=c/\c<=b.size/\h=U c/\∀a (e:a<b.size),1<=a->a<c->Mar.cW b[a]=true) (λh=>b.size-(intOf h).toNat);case atStart=>grind
 case round=>
  obtain⟨c,k,l,rfl,p⟩:=hrel;have f:ac (∀a (e:a<b.size),1<=a->a<c->Mar.cW b[a]=true):=p;have m:(b.extract 0 c).size<=281474976710656:=by simp;omega
  by_cases q:c<b.size
  .have r:Mar.cW b[c]=true->ac (∀a (e:a<b.size),1<=a->a<c+1->Mar.cW b[a]=true):=by
    intro w a e o u;by_cases d:a=c
    .simp_all
    .exact f.j a e o (by omega)
   have iL:=Z r;go_wp2_with (first
     |(go_at_call 237;refine(AG _ _).mono ?_;rintro d j ⟨rfl,rfl⟩)
     |(go_at_call 240;refine(AF _ _).mono ?_;rintro d j ⟨rfl,rfl⟩)
     |(go_at_call 242;refine(vZ _ _ m).mono ?_;rintro d s ⟨rfl,g⟩))
   .exact⟨⟨c+1,by omega,by omega,by rfl,(iL.j (IP ‹_›)).j⟩,by simp[intOf];omega⟩
   .exact⟨⟨c+1,by omega,by omega,by rfl,(iL.j (IN ‹_›)).j⟩,by simp[intOf];omega⟩
   .exact⟨⟨c+1,by omega,by omega,by rfl,(iL.j (IQ ‹_›)).j⟩,by simp[intOf];omega⟩
   .go_ret;refine⟨Cg ?_,g⟩;rw[wU,ye b c k l f.j (λ_=>IR ‹_› ‹_› ‹_›)]
  .go_wp2_with (go_at_call 242;refine(vZ _ _ m).mono ?_;rintro d s ⟨rfl,g⟩);go_ret;refine⟨Cg ?_,g⟩;rw[wU,ye b c k l f.j (λn=>absurd n q)]
end
section
variable {f:Nat}{l:Zb}
def Gr(a:(!Lib.hasPrefix l [47,42])=true):Mar.e0 l=0:=by
 grind [Mar.e0]
theorem Dt{a:Zb}(b:(!Lib.hasPrefix l a)=false):Lib.trimPrefix l a=l.drop a.length:=by
 grind [Lib.trimPrefix]
theorem Gt(a:(!Lib.hasPrefix l [47,42])=false)(b:(!(Lib.cut (Lib.trimPrefix l [47,42]) [42,47]).snd.snd)=true):Mar.e0 l=0:=by
 grind [Dt,Lib.cut,Mar.e0]
def Gu(a:(!Lib.hasPrefix l [47,42])=false)(b:(!(Lib.cut (Lib.trimPrefix l [47,42]) [42,47]).snd.snd)=false) :
  2+((Lib.cut (Lib.trimPrefix l [47,42]) [42,47]).fst.length:Int)+2=(Mar.e0 l:Int):=by
 rw[Dt a]at b ⊢;simp at a;unfold Lib.cut at b ⊢;by_cases c:0<=Lib.index (l.drop 2) [42,47]
 .have:=Mar.kq (l.drop 2) [42,47] (by simp) c;grind [Mar.e0]
 simp_all
def GC(l a:Zb):(Lib.cut l a).fst.length<=l.length:=by
 grind [Lib.cut]
def yB(l a:Zb):(Lib.trimPrefix l a).length<=l.length:=by
 grind [Lib.trimPrefix]
def Gv(a:Za)(f:Int)(d:Zw)(j:a.size<4294967281)(h:d.cell? (Zd 2 0)=some (U f)) :
  Calls prog 235 #[.string a] d λc e=>c=.returned (U (Mar.e0 a.data.toList))/\∃b,e=d.drewN b:=by
 have k:a.size=a.data.toList.length:=by simp
 have g:(⟨(Lib.trimPrefix a.data.toList [47,42]).toArray⟩:Za).size<4294967281:=by
  have:=yB a.data.toList [47,42];show (Lib.trimPrefix a.data.toList [47,42]).toArray.size<_;grind
 have i:((Lib.cut (Lib.trimPrefix a.data.toList [47,42]) [42,47]).fst.length:Int)<=4294967281:=by
  have:=yB a.data.toList [47,42];have:=GC (Lib.trimPrefix a.data.toList [47,42]) [42,47];omega
 go_in;go_wp2_with (first
  |(go_at_call 260;refine(Tryz.strings_CutPrefix _ _ _).mono ?_;rintro c e ⟨rfl,rfl⟩)
  |(go_at_call 261;refine(Tryz.strings_Cut _ _ f _ g h).mono ?_;rintro c e ⟨rfl,b,rfl⟩))
 .go_ret;exact⟨sT (by rw[Gr ‹_›];rfl),0,rfl⟩
 .go_ret;exact⟨sT (by grind [Gt]),b,rfl⟩
 .go_ret;exact⟨sT (Gu ‹_› ‹_›),b,rfl⟩
def FF(a:UInt8):(0<=Lib.indexByte [32,9,10] ((a.toNat:Int).toNat.toUInt8))↔Mar.fB a=true:=by
 have:((a.toNat:Int).toNat.toUInt8)=a:=by simp
 rw[this];unfold Mar.fB;simp only[Lib.indexByte];grind
theorem wq(a:UInt8):(0<=Lib.indexByte [32,9,10] a)↔Mar.fB a=true:=by
 have:=FF a;simp_all
def wT(a:Za)(b:Nat):(a.extract b a.size).data.toList=a.data.toList.drop b:=by
 have c:a.size=a.data.toList.length:=by simp
 simp_all[List.take_of_length_le]
def xb{a:Nat}(b:a<l.length)(c:Mar.fB l[a]=true):Mar.d8 (l.drop a)=1:=by
 grind [List.drop_eq_getElem_cons,Mar.d8]
theorem xc{a:Nat}(b:a<l.length)(c:¬Mar.fB l[a]=true):Mar.d8 (l.drop a)=Mar.e0 (l.drop a):=by
 grind [List.drop_eq_getElem_cons,Mar.d8]
theorem CN{a:Nat}(c:(l.drop a).length<f)(b:Mar.d8 (l.drop a)=0):Mar.ey f (l.drop a)=0:=by
 cases f<;>grind [Mar.ey]
def CM{k a:Nat}(e:(l.drop k).length<f)(c:Mar.d8 (l.drop k)=a)(g:a≠0) :
  ∃b,(l.drop (k+a)).length<b/\Mar.ey f (l.drop k)=a+Mar.ey b (l.drop (k+a)):=by
 cases f with
 |zero=>omega
 |succ f=>
  have d:=Mar.jk (l.drop k);rw[c]at d;refine⟨f,?_,?_⟩;all_goals grind [Mar.ey,List.drop_drop]
def PH(a:Za)(w:Int)(l:Zw)(I:a.size<4294967281)(H:l.cell? (Zd 2 0)=some (U w)) :
  Calls prog 182 #[.string a] l λp m=>p=.returned (U (Mar.eT a.data.toList))/\∃c,m=l.drewN c:=by
 have y:ac (a.size=a.data.toList.length):=by rfl
 go_in;go_wp2;go_loopw [3] (λs m=>∃b f c:Nat,b<=a.size/\s=U b/\m=l.drewN c/\(a.data.toList.drop b).length<f/\Mar.eT a.data.toList=b+Mar.ey f (a.data.toList.drop b)) (λs _=>a.size-(intOf s).toNat)
 case atStart=>exact⟨0,a.data.toList.length+1,0,by omega,rfl,rfl,by simp,by simp[Mar.eT]⟩
 case round=>
  obtain⟨b,f,c,F,rfl,rfl,A,D⟩:=hrel;have u:ac ((a.data.toList.drop b).length<f):=A;have o:ac (Mar.eT a.data.toList=b+Mar.ey f (a.data.toList.drop b)):=D;by_cases G:b<a.size
  .have C:b<a.data.toList.length:=by simp_all
   have q:=Gv (a.extract b a.size) w (l.drewN c) (by simp;omega) (by simp_all);rw[wT]at q;have r:=Mar.j5 (a.data.toList.drop b);simp only[YI]at r;rw[<-y.j]at r;obtain⟨e,v⟩:∃e,ac (Mar.e0 (a.data.toList.drop b)=e):=⟨_,rfl⟩;rw[v.j]at q r;have x:=Z q;have n:=Z C;have hW:∀g:Nat,Mar.d8 (a.data.toList.drop b)=g->g≠0->ac (∃d,(a.data.toList.drop (b+g)).length<d/\Mar.eT a.data.toList=(b+g:Nat)+Mar.ey d (a.data.toList.drop (b+g))):=by
    intro g B h;obtain⟨d,i,j⟩:=CM u.j B h;exact⟨d,i,by rw[o.j,j];omega⟩
   have Fin:=Z hW;have E:a[b]=a.data.toList[b]'(n.j):=by rfl
   have z:=Z E;go_wp2_with (first
    |(go_at_call 235;refine x.j.mono ?_;rintro p m ⟨rfl,t,rfl⟩)
    |(go_at_call 236;refine(Tryz.strings_IndexByte _ _ _).mono ?_;rintro p m ⟨rfl,rfl⟩))
   .obtain⟨d,i,j⟩:=(Fin.j 1 (xb n.j (by grind [ac.j,wq])) (by omega)).j;exact⟨⟨b+1,d,c+t,by omega,by rfl,rfl,i,j⟩,by simp[intOf];omega⟩
   .go_ret;have h:e=0:=by simp_all
    have k:¬Mar.fB a[b]=true:=λk=>by have:=(wq _).2 k;omega
    refine⟨sT ?_,c+t,rfl⟩;rw[o.j,CN u.j (by rw[xc n.j (by rw[<-z.j];omega),v.j,h])];rfl
   .have h:e≠0:=by simp_all
    have k:¬Mar.fB a[b]=true:=λk=>by have:=(wq _).2 k;omega
    obtain⟨d,i,j⟩:=(Fin.j e (by grind [xc,ac.j]) h).j;exact⟨⟨b+e,d,c+t,by omega,by rfl,rfl,i,j⟩,by simp[intOf];omega⟩
  .go_wp2;go_ret;refine⟨sT ?_,c,rfl⟩;have:a.data.toList.drop b=[]:=List.drop_of_length_le (by simp_all);rw[o.j,this];have:∀f,Mar.ey f []=0:=by intro f;cases f<;>simp[Mar.ey,Mar.d8]
   simp_all
end
end Go.Proofs.YtjdhaegijjednaaGreatDoor
namespace Go.Proofs.YtjdhaegijjednaaGreatDoor
open Go.RowKit
open Go.Lib (occAt)
open Go.Proofs.Tryz
section
variable {b a:Zb}{c:Nat}
def Me(a:c+1<b.length):occAt b [42,47] c=(b[c]==42&&b[c+1]==47):=by
 grind [occAt,List.drop_eq_getElem_cons]
def Gq(f:c+1<b.length)(e:∀a,a<c->occAt b [42,47] a=false)(d:occAt b [42,47] c=true):Lib.index b [42,47]=c:=Lib.index_first (by omega) d e
def Gs(i:∀a,a<c->occAt b [42,47] a=false)(h:b.length<=c+1):Lib.index b [42,47] = -1:=by
 refine Lib.index_none (λa g=>?_);rcases Yj a c with d|d
 .simp_all
 .cases f:occAt b [42,47] a with
  |false=>rfl
  |true=>
   rcases Lib.occAt_room f with e|e;all_goals grind
def Gp{b:Nat}(c:b+1<a.length)(d:a[b]=47)(e:a[b+1]=42):Mar.e0 (a.drop b)=if 0<=Lib.index (a.drop (b+2)) [42,47]then (Lib.index (a.drop (b+2)) [42,47]).toNat+4 else 0:=by
 have f:Lib.hasPrefix (a.drop b) [47,42]=true:=by
  grind [Lib.hasPrefix,List.drop_eq_getElem_cons]
 simp_all[Mar.e0]
def wH{b:Nat}(d:b<a.length)(e:∀(c:b+1<a.length),¬(a[b]=47/\a[b+1]=42)):Mar.e0 (a.drop b)=0:=by
 have f:Lib.hasPrefix (a.drop b) [47,42]=false:=by
  unfold Lib.hasPrefix;rw[Yk d];rcases Yj (b+1) a.length with c|c
  .rw[Yk c];grind
  grind
 grind [Mar.e0]
def eJ(a:Zb)(b:Nat):Nat:=b+Mar.eT (a.drop b)
theorem PG{b:Zb}:∀{a c:Nat},b.length<a->b.length<c->Mar.ey a b=Mar.ey c b:=by
 intro a;induction a generalizing b with
 |zero=>omega
 |succ a f=>
  intro c d e;cases c<;>grind [Mar.ey,Mar.jk]
def Ap{b:Nat}(c:Mar.d8 (a.drop b)=0):eJ a b=b:=by
 grind [eJ,Mar.eT,CN]
def Iq{k b:Nat}(c:Mar.d8 (a.drop k)=b)(d:b≠0):eJ a k=eJ a (k+b):=by
 unfold eJ Mar.eT;obtain⟨e,g,h⟩:=CM (l:=a) (k:=k) (f:=(a.drop k).length+1) (by omega) c d;grind [PG]
def Ip{b:Nat}(c:a.length<=b):eJ a b=b:=by
 refine Ap ?_;rw[List.drop_eq_nil_iff.2 c];rfl
end
end Go.Proofs.YtjdhaegijjednaaGreatDoor
namespace Go.Proofs.YtjdhaegijjednaaGreatDoor
open Go.Lib (parseUintM parseUintB parseIntB)
open Go.Proofs.Tryz
def iQ:Nat->Zb->Option Nat
 |acc,[]=>some acc
 |acc,a::b=>if Mar.dn a then iQ (acc*10+(a.toNat-48)) b else none
def fN(a:Zb)(c:Bool):Option Int:=
 if 2<a.length/\a.getD 0 0=48/\a.getD 1 0=120 then (if c=true\/10<a.length then none else (Mar.cf 0 (a.drop 2)).map Int.ofNat)
 else if a=[]\/10<a.length\/(1<a.length/\a.getD 0 0=48)then none
 else match iQ 0 a with
  |none=>none
  |some b=>if c then (if b<=2147483648 then some (-(b:Int))else none)else (if b<=4294967295 then some (b:Int)else none)
theorem ul(a:UInt8):Mar.dn a=true↔48<=a.toNat/\a.toNat<=57:=by simp[Mar.dn]
def MA:∀(d:Zb) (a:Nat),a*10 ^ d.length+10 ^ d.length<=10000000000000000000->parseUintM 18446744073709551615 a d=match iQ a d with|some u=>.ok u|none=>.syntax:=by
 intro d;induction d with
 |nil=>intro a _;rfl
 |cons c b m=>
  intro a g;have l:1<=10 ^ b.length:=Nat.one_le_pow _ _ (by omega);rw[YC,Nat.pow_succ]at g;by_cases e:48<=c.toNat/\c.toNat<=57
  .have k:a*10<=a*(10 ^ b.length*10):=Nat.mul_le_mul_left _ (by omega);have i:a<1000000000000000000:=by omega
   have j:(a*10+(c.toNat-48))*10 ^ b.length+10 ^ b.length<=10000000000000000000:=by
    have f:(a*10+(c.toNat-48))*10 ^ b.length+10 ^ b.length=(a*10+(c.toNat-48)+1)*10 ^ b.length:=by grind
    have h:a*(10 ^ b.length*10)+10 ^ b.length*10=(a*10+10)*10 ^ b.length:=by grind
    rw[f];refine Yz (Nat.mul_le_mul_right _ (by omega:a*10+(c.toNat-48)+1<=a*10+10)) ?_;omega
   simp only[parseUintM,iQ];rw[Y9 e,Y2 (by omega),Y2 (by omega),Y9 ((ul c).2 e)];simp_all
  simp_all[parseUintM,iQ,Y2,ul]
def Mz:∀(c:Zb) (b d:Nat),parseUintM 18446744073709551615 b c=.ok d->b*10 ^ c.length<=d:=by
 intro c;induction c with
 |nil=>intro b d a;cases a;simp
 |cons e g f=>
  intro b d a;simp only[parseUintM]at a;split at a
  .split at a
   .cases a
   .split at a
    .cases a
    grind [Nat.mul_comm,Nat.mul_assoc]
  grind
def BU{c:Zb}(h:10<c.length)(i:c.getD 0 0≠48){e:Nat}(a:parseUintB 64 c=.ok e):10000000000<=e:=by
 cases c with
 |nil=>grind
 |cons b d=>
  have f:b≠48:=by simp_all
  unfold Lib.parseUintB at a;rw[Y2 (by simp)]at a;have a:parseUintM 18446744073709551615 0 (b::d)=.ok e:=a;simp only[parseUintM]at a;split at a
  .rename_i l;have k:1<=b.toNat-48:=by
    have:b.toNat≠48:=λg=>f (UInt8.toNat_inj.1 (by simp_all));omega
   split at a
   .omega
   .split at a
    .omega
    .have:=Mz _ _ _ a;have j:10 ^ 10<=10 ^ d.length:=Nat.pow_le_pow_right (by omega) (by grind);have:1*10 ^ d.length<=(0*10+(b.toNat-48))*10 ^ d.length:=Nat.mul_le_mul_right _ (by omega);omega
  simp_all
def Dy{a:Zb}(b:a≠[])(c:¬10<a.length):parseUintB 64 a=match iQ 0 a with|some u=>.ok u|none=>.syntax:=by
 unfold Lib.parseUintB;rw[Y2 b];refine MA a 0 ?_;have:10 ^ a.length<=10 ^ 10:=Nat.pow_le_pow_right (by omega) (by omega);omega
theorem uT(a:Zb):Mar.fI a=true↔(1<a.length/\a.getD 0 0=48):=by simp[Mar.fI]
def LZ{a:UInt8}{b:Zb}(l:Mar.dn a=true):Mar.fd (a::b)=fN (a::b) false:=by
 have u:=(ul a).1 l;have h:¬(a.toNat=43\/a.toNat=45):=by omega
 have t:a≠45:=λc=>by simp_all
 by_cases d:Lib.hasPrefix (a::b) [48,120]=true
 .obtain⟨q,v⟩:=List.isPrefixOf_iff_prefix.1 d;have c:a::b=48::120::q:=by simp_all
  rw[c];unfold Mar.fd fN;rw[c]at d;rw[Y9 d];unfold Mar.f3;simp only[List.drop_succ_cons,List.drop_zero,YC];grind
 .have w:Lib.hasPrefix (a::b) [48,120]=false:=by simp_all
  have n:¬(2<(a::b).length/\(a::b).getD 0 0=48/\(a::b).getD 1 0=120):=by
   rintro⟨s,f,g⟩;cases b with
   |nil=>grind
   |cons r b=>
    simp at f g;subst f g;exact d rfl
  have o:Lib.trimPrefix (a::b) [45]=a::b:=by
   unfold Lib.trimPrefix Lib.hasPrefix;grind
  unfold Mar.fd fN Mar.e1;rw[Y2 (by omega),Y2 n,o];by_cases i:Mar.fI (a::b)=true
  .simp_all[uT]
  .rw[Y2 i];have m:¬(1<(a::b).length/\(a::b).getD 0 0=48):=λj=>i ((uT _).2 j);by_cases e:10<(a::b).length
   .rw[Y9 (Ya (Y8 e))];have k:(a::b).getD 0 0≠48:=λc=>m ⟨by omega,c⟩;unfold Lib.parseIntB;simp only[Y2 h];cases p:parseUintB 64 (a::b)with
    |«syntax»=>rfl
    |range=>rfl
    |ok x=>
     have:=BU e k p;grind
   .rw[Y2 (by simp_all)];unfold Lib.parseIntB;simp only[Y2 h];rw[Dy (by simp) e];grind
def LX(a:Zb):Mar.fd (45::a)=fN a true:=by
 have m:Lib.hasPrefix (45::a) [48,120]=false:=by rfl
 have k:Lib.trimPrefix (45::a) [45]=a:=by rfl
 unfold Mar.fd Mar.e1;rw[Y2 (by simp_all),k];by_cases d:Mar.fI a=true
 .simp_all[uT,fN]
 .rw[Y2 d];have e:¬(1<a.length/\a.getD 0 0=48):=λb=>d ((uT _).2 b);have j:¬(2<a.length/\a.getD 0 0=48/\a.getD 1 0=120):=λb=>e ⟨by omega,b.2.1⟩;unfold fN;rw[Y2 j];unfold Lib.parseIntB;have i:(45:UInt8).toNat=45:=rfl;simp only[i,or_true,if_true]
  by_cases f:a=[]
  .subst f;rfl
  .by_cases c:10<a.length
   .rw[Y9 (Ya (Y8 c))];have h:a.getD 0 0≠48:=λg=>e ⟨by omega,g⟩;cases l:parseUintB 64 a with
    |«syntax»=>rfl
    |range=>rfl
    |ok n=>
     have:=BU c h l;grind
   .rw[Y2 (by simp_all),Dy f c];grind
end Go.Proofs.YtjdhaegijjednaaGreatDoor
namespace Go.Proofs.YtjdhaegijjednaaGreatDoor
open Go.RowKit
open Go.Proofs.Tryz
def AS(a:UInt8)(b:Zw) :
  Calls prog 137 #[.int .u8 a.toNat] b λc d=>c=.returned (.bool (Mar.eh a))/\d=b:=by
 go_in;go_wp2;all_goals
  go_ret
  refine⟨kU ?_,rfl⟩
  unfold Mar.eh
  rw[Bool.eq_iff_iff]
  simp
  try omega
def wP(a:UInt8)(b:Zw) :
  Calls prog 138 #[.int .u8 a.toNat] b λc d=>c=.returned (.bool (Mar.dn a))/\d=b:=by
 go_in;go_wp2;all_goals
  go_ret
  refine⟨kU ?_,rfl⟩
  unfold Mar.dn
  rw[Bool.eq_iff_iff]
  simp
  try omega
def Jn(a:Za)(b:Zw) :
  Calls prog 139 #[.string a] b λc d=>c=.returned (.bool (Mar.d2 a.data.toList))/\d=b:=by
 rw[<-ByteArray.toList_eq];go_in;go_wp2;all_goals
  first
   |(exfalso;simp_all;done)
   |(go_ret;refine⟨kU ?_, rfl⟩;simp only[Mar.d2, Mar.h6, List.contains_cons, *, Bool.true_or, Bool.false_or, Bool.or_true, List.contains_nil])
def jx(b:UInt8)(a:Nat)(d:a<256):((b.toNat:Int)==(a:Int))=(b==UInt8.ofNat a):=by
 rw[Bool.eq_iff_iff];simp only[beq_iff_eq];constructor
 .intro c;apply UInt8.toNat_inj.1;simp;omega
 .intro c;subst c;simp;omega
def Ir(a:Zb)(j:Nat)(a0:j<=a.length)(c0:a.length<=1000000)(x:Zw) :
  Calls prog 136 #[Zs a,U j] x λk a3=>k=.returned (U (eJ a j))/\a3=x:=by
 go_in;go_wp2_with fail;go_loopw [1] (λe w=>∃b:Nat,e=U b/\b<=a.length/\ac (eJ a j=eJ a b)/\w=x) (λe _=>a.length-(intOf e).toNat)
 case atStart=>exact⟨j,rfl,a0,rfl,rfl⟩
 case round=>
  obtain⟨b,rfl,b7,q,rfl⟩:=hrel;rcases Yj b a.length with i|O
  .have b1:(0:Int)<=(b:Int):=by omega
   have b2:(b:Int)<(a.length:Int):=by omega
   have a7:(⟨a.toArray⟩:Za)[b]'(by grind [ByteArray.size])=a[b]:=rfl;have p:Mar.d8 (a.drop b)≠0->ac (eJ a j=eJ a (b+Mar.d8 (a.drop b))):=λd=>q.j.trans (Iq rfl d);have m:Mar.d8 (a.drop b)=0->ac (eJ a j=b):=λd=>q.j.trans (Ap d);by_cases f:Mar.fB a[b]=true
   .have o:=p (by rw[xb i f];omega);rw[xb i f]at o;have M:a[b].toNat=32\/a[b].toNat=9\/a[b].toNat=10:=by
     simp only[Mar.fB,Bool.or_eq_true,beq_iff_eq]at f;rcases f with(d|d)|d<;>(rw[d];simp)
    rcases M with d|d|d
    .have n:(a[b].toNat:Int)=32:=by omega
     go_wp2;exact⟨⟨b+1,by rfl,i,o,trivial⟩,by simp[intOf];omega⟩
    .have n:(a[b].toNat:Int)=9:=by omega
     go_wp2;exact⟨⟨b+1,by rfl,i,o,trivial⟩,by simp[intOf];omega⟩
    .have n:(a[b].toNat:Int)=10:=by omega
     go_wp2;exact⟨⟨b+1,by rfl,i,o,trivial⟩,by simp[intOf];omega⟩
   .have P:=xc i f;rw[P]at p m;have c3:((a[b].toNat:Int)==32)=false:=by
     simp only[Mar.fB,Bool.or_eq_true,beq_iff_eq,not_or]at f;have:a[b].toNat≠32:=λk=>f.1.1 (UInt8.toNat_inj.1 (by simp_all));grind
    have c4:((a[b].toNat:Int)==9)=false:=by
     simp only[Mar.fB,Bool.or_eq_true,beq_iff_eq,not_or]at f;have:a[b].toNat≠9:=λk=>f.1.2 (UInt8.toNat_inj.1 (by simp_all));grind
    have c2:((a[b].toNat:Int)==10)=false:=by
     simp only[Mar.fB,Bool.or_eq_true,beq_iff_eq,not_or]at f;have:a[b].toNat≠10:=λk=>f.2 (UInt8.toNat_inj.1 (by simp_all));grind
    by_cases v:a[b]=47
    .have G:((a[b].toNat:Int) != 47)=false:=by simp_all
     rcases Yj (b+1) a.length with n|n
     .have b8:(0:Int)<=(b:Int)+1:=by omega
      have b9:(b:Int)+1<(a.length:Int):=by omega
      have a1:¬((a.length:Int)<=(b:Int)+1):=by omega
      have a8:(⟨a.toArray⟩:Za)[b+1]'(by grind [ByteArray.size])=a[b+1]:=rfl;by_cases u:a[b+1]=42
      .have F:((a[b+1].toNat:Int) != 42)=false:=by simp_all
       have N:=Gp n v u;rw[N]at p m;have E:=Z p;have D:=Z m;have nc:(a.drop (b+2)).length=a.length-(b+2):=YI;go_wp2_with fail;go_loopw [6] (λt w=>∃e c:Nat,ac (c=b+2+e)/\t=U (c:Int)/\c<=a.length/\ac (∀g,g<e->Lib.occAt (a.drop (b+2)) [42,47] g=false)/\w=wr) (λt _=>a.length-(intOf t).toNat)
       case atStart=>exact⟨0,b+2,rfl,rfl,by omega,(λg d=>by omega),rfl⟩
       case round=>
        obtain⟨e,c,l,rfl,b0,r,rfl⟩:=hrel;rcases Yj (c+1) a.length with L|L
        .have b4:(0:Int)<=(c:Int):=by omega
         have b5:(c:Int)<(a.length:Int):=by omega
         have b6:(0:Int)<=(c:Int)+1:=by omega
         have R:(c:Int)+1<(a.length:Int):=by omega
         have S:¬((a.length:Int)<=(c:Int)+1):=by omega
         have a5:(⟨a.toArray⟩:Za)[c]'(by simp[ByteArray.size];omega)=a[c]:=rfl;have a6:(⟨a.toArray⟩:Za)[c+1]'(by simp[ByteArray.size];omega)=a[c+1]:=rfl;have c1:Lib.occAt (a.drop (b+2)) [42,47] e=(a[c]==42&&a[c+1]==47):=by
          have a2:=l.j;subst a2;rw[Me (by omega)];simp only[List.getElem_drop];rfl
         have y:Lib.occAt (a.drop (b+2)) [42,47] e=false->ac (∀g,g<e+1->Lib.occAt (a.drop (b+2)) [42,47] g=false):=by
          intro d g b3;rcases Yj g e with z|z
          .exact r.j g z
          .have:g=e:=by omega
           simp_all
         by_cases J:a[c]=42
         .have H:((a[c].toNat:Int) != 42)=false:=by simp_all
          by_cases K:a[c+1]=47
          .have I:((a[c+1].toNat:Int) != 47)=false:=by simp_all
           have A:Lib.index (a.drop (b+2)) [42,47]=e:=Gq (by have:=l.j;omega) r.j (by simp_all);have B:=E.j (by simp_all);rw[A,Y9 (by omega)]at B;have C:ac (eJ a j=eJ a (c+2)):=by
            show _=_;rw[B.j];have:=l.j;congr 1;omega
           go_wp2;refine⟨⟨c+2,by rfl,by omega,C,trivial⟩,by have:=l.j;simp[intOf];omega⟩
          .have I:((a[c+1].toNat:Int) != 47)=true:=by
            have:a[c+1].toNat≠47:=λk=>K (UInt8.toNat_inj.1 (by simp_all));simp;omega
           have s:=y (by simp_all);go_wp2;exact⟨⟨e+1,c+1,(by have:=l.j;show _=_;omega),by rfl,by omega,s,trivial⟩,by simp[intOf];omega⟩
         .have H:((a[c].toNat:Int) != 42)=true:=by
           have:a[c].toNat≠42:=λk=>J (UInt8.toNat_inj.1 (by simp_all));simp;omega
          have s:=y (by simp_all);go_wp2;exact⟨⟨e+1,c+1,(by have:=l.j;show _=_;omega),by rfl,by omega,s,trivial⟩,by simp[intOf];omega⟩
        .have R:¬((c:Int)+1<(a.length:Int)):=by omega
         have S:(a.length:Int)<=(c:Int)+1:=by omega
         have A:Lib.index (a.drop (b+2)) [42,47] = -1:=Gs r.j (by have:=l.j;omega);have h:=D.j (by simp_all);go_wp2;go_ret;exact⟨by rw[h.j];rfl,rfl⟩
      .have F:((a[b+1].toNat:Int) != 42)=true:=by
        have:a[b+1].toNat≠42:=λk=>u (UInt8.toNat_inj.1 (by simp_all));grind
       have h:=m (wH i (λ_ d=>u d.2));go_wp2;go_ret;exact⟨by rw[h.j];rfl,rfl⟩
     .have a1:(a.length:Int)<=(b:Int)+1:=by omega
      have h:=m (wH i (λa4=>by omega));go_wp2;go_ret;exact⟨by rw[h.j];rfl,rfl⟩
    .have G:((a[b].toNat:Int) != 47)=true:=by
      have:a[b].toNat≠47:=λk=>v (UInt8.toNat_inj.1 (by simp_all));grind
     have h:=m (wH i (λ_ d=>v d.1));go_wp2;go_ret;exact⟨by rw[h.j];rfl,rfl⟩
  .have h:ac (eJ a j=b):=q.j.trans (Ip O);have a9:¬((b:Int)<(a.length:Int)):=by omega
   go_wp2;go_ret;exact⟨by rw[h.j];rfl,rfl⟩
def pp(b:Option Nat):Int:=match b with
 |some a=>(a:Int)
 |none=>-1
def IM(a:UInt8)(i:Zw) :
  Calls prog 213 #[.int .u8 a.toNat] i λj k=>j=.returned (U (pp (Mar.dA a)))/\k=i:=by
 have l:=a.toNat_lt;go_in;by_cases c:48<=a.toNat/\a.toNat<=57
 .have b:ac (pp (Mar.dA a)=(a.toNat:Int)-48):=by
   show _=_;unfold Mar.dA;rw[Y9 c];show ((a.toNat-48:Nat):Int)=_;omega
  have e:(48:Int)<=a.toNat:=by omega
  have f:(a.toNat:Int)<=57:=by omega
  have g:IntKind.u8.wrap ((a.toNat:Int)-48)=(a.toNat:Int)-48:=by rw[IntKind.wrap_u8];omega
  go_wp2;go_ret;exact⟨by rw[b.j];rfl,rfl⟩
 .by_cases d:97<=a.toNat/\a.toNat<=102
  .have b:ac (pp (Mar.dA a)=(a.toNat:Int)-97+10):=by
    show _=_;unfold Mar.dA;rw[Y2 c,Y9 d];show ((a.toNat-87:Nat):Int)=_;omega
   have e:(97:Int)<=a.toNat:=by omega
   have f:(a.toNat:Int)<=102:=by omega
   have g:IntKind.u8.wrap ((a.toNat:Int)-97)=(a.toNat:Int)-97:=by rw[IntKind.wrap_u8];omega
   go_wp2;all_goals (first|(exfalso;omega)|(go_ret;exact⟨by rw[b.j];rfl,rfl⟩))
  .by_cases h:65<=a.toNat/\a.toNat<=70
   .have b:ac (pp (Mar.dA a)=(a.toNat:Int)-65+10):=by
     show _=_;unfold Mar.dA;rw[Y2 c,Y2 d,Y9 h];show ((a.toNat-55:Nat):Int)=_;omega
    have e:(65:Int)<=a.toNat:=by omega
    have f:(a.toNat:Int)<=70:=by omega
    have g:IntKind.u8.wrap ((a.toNat:Int)-65)=(a.toNat:Int)-65:=by rw[IntKind.wrap_u8];omega
    go_wp2;all_goals (first|(exfalso;omega)|(go_ret;exact⟨by rw[b.j];rfl,rfl⟩))
   .have b:ac (pp (Mar.dA a) = -1):=by
     show _=_;unfold Mar.dA;rw[Y2 c,Y2 d,Y2 h];rfl
    go_wp2;all_goals (first|(exfalso;omega)|(go_ret;exact⟨by rw[b.j];rfl,rfl⟩))
def Eq(d:Zw)(b:Option Int)(c:Ending)(e:Zw):Prop:=e=d/\∃a,c=.returned (.tuple #[U a,.bool b.isSome])/\∀v,b=some v->a=v
def II{b:Zb}{a acc:Nat}(c:a<b.length):Mar.cf acc (b.drop a)=match Mar.dA b[a]with|some d=>Mar.cf (acc*16+d) (b.drop (a+1))|none=>none:=by
 rw[Yk c];rfl
def GI{b:Zb}{a acc:Nat}(c:a<b.length):iQ acc (b.drop a)=if Mar.dn b[a]then iQ (acc*10+(b[a].toNat-48)) (b.drop (a+1))else none:=by
 rw[Yk c];rfl
def Dx(b:UInt8)(a:Nat)(c:a<256):((b.toNat:Int)==(a:Int))=decide (b=UInt8.ofNat a):=by
 rw[Bool.eq_iff_iff,beq_iff_eq,decide_eq_true_iff,<-UInt8.toNat_inj,UInt8.toNat_ofNat',Nat.mod_eq_of_lt c];omega
def Ma(a:Zb)(g:Bool)(c5:a.length<=2000)(r:Zw) :
  Calls prog 140 #[Zs a,.bool g] r (Eq r (fN a g)):=by
 have H:∀f (d:f<a.length),a.getD f 0=a[f]:=λf d=>by simp[d]
 have A:=λB=>Dx B 48 (by decide);have O:=λB=>Dx B 120 (by decide);simp only[Int.cast_ofNat_Int]at A O;go_in;go_upto_region 2 with fail;go_cut [23] (λz wc=>z=.bool (decide (2<a.length/\a.getD 0 0=48/\a.getD 1 0=120))/\r=wc);case first=>
  by_cases E:2<a.length
  .have b5:(2:Int)<(a.length:Int):=by omega
   have a0:(0:Int)<(a.length:Int):=by omega
   have a1:(1:Int)<(a.length:Int):=by omega
   have a8:(⟨a.toArray⟩:Za)[0]'(by simp[ByteArray.size];omega)=a[0]:=rfl;have c1:(⟨a.toArray⟩:Za)[1]'(by simp[ByteArray.size];omega)=a[1]:=rfl;have C:=A a[0];have a6:=O a[1];generalize s:decide (a[0]=48)=w at C;generalize R:decide (a[1]=120)=a2 at a6;cases w<;>cases a2<;>(go_wp2;go_meet;case rel=>exact⟨by rw[H 0 (by omega),H 1 (by omega)];simp at s R;simp[E,s,R],rfl⟩)
  .have b5:¬((2:Int)<(a.length:Int)):=by omega
   go_wp2;go_meet;case rel=>exact⟨by simp[E],rfl⟩
 case rest=>
 obtain⟨rfl,rfl⟩:=hcut;by_cases q:2<a.length/\a.getD 0 0=48/\a.getD 1 0=120
 .rw[decide_eq_true q];have E:=q.1;have x:ac (fN a g=if g=true\/10<a.length then none else (Mar.cf 0 (a.drop 2)).map Int.ofNat):=by show _=_;unfold fN;rw[Y9 q]
  cases g with
  |true=>
   have e:ac (fN a true=none):=by show _=_;rw[x.j,Y9 (Y8 rfl)]
   go_wp2;go_ret2;exact⟨rfl,0,by rw[e.j];rfl,λv d=>by rw[e.j]at d;cases d⟩
  |false=>
   by_cases p:10<a.length
   .have e:ac (fN a false=none):=by show _=_;rw[x.j,Y9 (Ya p)]
    have J:(10:Int)<(a.length:Int):=by omega
    go_wp2;go_ret2;exact⟨rfl,0,by rw[e.j];rfl,λv d=>by rw[e.j]at d;cases d⟩
   .have M:ac (fN a false=(Mar.cf 0 (a.drop 2)).map Int.ofNat):=by show _=_;rw[x.j,Y2 (by rintro(d|d);cases d;exact p d)]
    have J:¬((10:Int)<(a.length:Int)):=by omega
    go_wp2_with fail;go_loopw [6,7] (λb8 f K=>∃b c:Nat,f=U b/\b8=U c/\2<=b/\b<=a.length/\c<16 ^ (b-2)/\ac (Mar.cf 0 (a.drop 2)=Mar.cf c (a.drop b))/\K=r) (λ_ f _=>a.length-(intOf f).toNat)
    case atStart=>exact⟨2,0,rfl,rfl,by omega,by omega,by simp,rfl,rfl⟩
    case round=>
     obtain⟨b,c,rfl,rfl,c4,b1,a7,l,rfl⟩:=hrel;have b2:16 ^ (b-2)<=16 ^ 8:=Nat.pow_le_pow_right (by omega) (by omega);rcases Yj b a.length with o|b0
     .have c7:(0:Int)<=(b:Int):=by omega
      have b7:(b:Int)<(a.length:Int):=by omega
      have a9:(⟨a.toArray⟩:Za)[b]'(by simp[ByteArray.size];exact o)=a[b]:=rfl;have h:=Z (IM a[b]);have j:=II (acc:=c) o;cases n:Mar.dA a[b]with
      |none=>
       rw[n]at j h;have e:ac (fN a false=none):=by show _=_;rw[M.j,l.j,j];rfl
       go_wp2_with fail;refine(h.j _).mono ?_;rintro m L ⟨rfl,rfl⟩;have b3:pp none = -1:=rfl;go_wp2;go_ret2;exact⟨rfl,0,by rw[e.j];rfl,λv d=>by rw[e.j]at d;cases d⟩
      |some k=>
       rw[n]at j h;have c2:=Mar.jK n;have y:ac (Mar.cf 0 (a.drop 2)=Mar.cf (c*16+k) (a.drop (b+1))):=by show _=_;rw[l.j,j]
       have a4:IntKind.i64.wrap (16*(c:Int))=16*(c:Int):=by rw[IntKind.wrap_i64];omega
       have a5:IntKind.i64.wrap (16*(c:Int)+(k:Int))=((c*16+k:Nat):Int):=by rw[IntKind.wrap_i64];omega
       have F:c*16+k<16 ^ (b+1-2):=by
        have m:b+1-2=(b-2)+1:=by omega
        rw[m,Nat.pow_succ];omega
       have c0:¬((k:Int)<0):=by omega
       go_wp2_with fail;refine(h.j _).mono ?_;rintro m L ⟨rfl,rfl⟩;have b3:pp (some k)=(k:Int):=rfl;go_wp2;exact⟨⟨b+1,c*16+k,by go_num,by congr 1<;>omega,by omega,o,F,y,trivial⟩,by simp[intOf];omega⟩
     .have I:b=a.length:=by omega
      subst I;have e:ac (fN a false=some (c:Int)):=by show _=_;rw[M.j,l.j,List.drop_length];rfl
      have b7:¬((a.length:Int)<(a.length:Int)):=by omega
      go_wp2;go_ret2;exact⟨rfl,(c:Int),by rw[e.j];rfl,λv d=>by rw[e.j]at d;injection d⟩
 rw[decide_eq_false q];go_upto_region 13 with fail;go_cut [64] (λz wc=>z=.bool (decide (a=[]\/10<a.length\/(1<a.length/\a.getD 0 0=48)))/\r=wc);case first=>
  by_cases D:a.length=0
  .have b6:((a.length:Int)==0)=true:=by rw[D];rfl
   go_wp2;go_meet;case rel=>exact⟨by simp[Yv.1 D],rfl⟩
  have b6:((a.length:Int)==0)=false:=by rw[Yi];omega
  have S:a≠[]:=λm=>D (by rw[m];rfl);have a8:(⟨a.toArray⟩:Za)[0]'(by simp[ByteArray.size];omega)=a[0]:=rfl;have a0:(0:Int)<(a.length:Int):=by omega
  have C:=A a[0];generalize s:decide (a[0]=48)=w at C;by_cases p:10<a.length
  .have J:(10:Int)<(a.length:Int):=by omega
   go_wp2;go_meet;case rel=>exact⟨by simp[p],rfl⟩
  have J:¬((10:Int)<(a.length:Int)):=by omega
  by_cases P:1<a.length
  .have b4:(1:Int)<(a.length:Int):=by omega
   cases w<;>(go_wp2;go_meet;case rel=>exact⟨by rw[H 0 (by omega)];simp at s;simp[S,p,P,s],rfl⟩)
  .have b4:¬((1:Int)<(a.length:Int)):=by omega
   go_wp2;go_meet;case rel=>exact⟨by simp[S,p,P],rfl⟩
 case rest=>
 obtain⟨rfl,rfl⟩:=hcut;by_cases t:a=[]\/10<a.length\/(1<a.length/\a.getD 0 0=48)
 .rw[decide_eq_true t];have e:ac (fN a g=none):=by show _=_;unfold fN;rw[Y2 q,Y9 t]
  go_wp2;go_ret2;exact⟨rfl,0,by rw[e.j];rfl,λv d=>by rw[e.j]at d;cases d⟩
 rw[decide_eq_false t];have G:ac (fN a g=match iQ 0 a with|none=>none|some u=>if g then (if u<=2147483648 then some (-(u:Int))else none)else (if u<=4294967295 then some (u:Int)else none)):=by
  show _=_;unfold fN;rw[Y2 q,Y2 t];all_goals (cases iQ 0 a<;>rfl)
 have c6:a.length<=10:=by omega
 go_wp2_with fail;go_loopw [6,9] (λa3 f K=>∃b c:Nat,f=U b/\a3=U c/\b<=a.length/\c<10 ^ b/\ac (iQ 0 a=iQ c (a.drop b))/\K=r) (λ_ f _=>a.length-(intOf f).toNat)
 case atStart=>exact⟨0,0,rfl,rfl,by omega,by simp,rfl,rfl⟩
 case round=>
  obtain⟨b,c,rfl,rfl,b1,a7,l,rfl⟩:=hrel;have b2:10 ^ b<=10 ^ 10:=Nat.pow_le_pow_right (by omega) (by omega);rcases Yj b a.length with o|b0
  .have a0:(0:Int)<=(b:Int):=by omega
   have a1:(b:Int)<(a.length:Int):=by omega
   have a9:(⟨a.toArray⟩:Za)[b]'(by simp[ByteArray.size];exact o)=a[b]:=rfl;have h:=Z (wP a[b]);have j:=GI (acc:=c) o;cases n:Mar.dn a[b]with
   |false=>
    rw[n]at j h;have e:ac (fN a g=none):=by show _=_;rw[G.j,l.j,j];rfl
    go_wp2_with fail;refine(h.j _).mono ?_;rintro m L ⟨rfl,rfl⟩;go_wp2;go_ret2;exact⟨rfl,0,by rw[e.j];rfl,λv d=>by rw[e.j]at d;cases d⟩
   |true=>
    rw[n]at j h;have c3:=(ul a[b]).1 n;have y:ac (iQ 0 a=iQ (c*10+(a[b].toNat-48)) (a.drop (b+1))):=by show _=_;rw[l.j,j];rfl
    have b9:IntKind.u8.wrap ((a[b].toNat:Int)-48)=(a[b].toNat:Int)-48:=by rw[IntKind.wrap_u8];omega
    have a4:IntKind.i64.wrap (10*(c:Int))=10*(c:Int):=by rw[IntKind.wrap_i64];omega
    have a5:IntKind.i64.wrap (10*(c:Int)+((a[b].toNat:Int)-48))=((c*10+(a[b].toNat-48):Nat):Int):=by rw[IntKind.wrap_i64];omega
    have F:c*10+(a[b].toNat-48)<10 ^ (b+1):=by rw[Nat.pow_succ];omega
    go_wp2_with fail;refine(h.j _).mono ?_;rintro m L ⟨rfl,rfl⟩;go_wp2;exact⟨⟨b+1,c*10+(a[b].toNat-48),by go_num,by congr 1<;>omega,o,F,y,trivial⟩,by simp[intOf];omega⟩
  .have I:b=a.length:=by omega
   subst I;have N:ac (iQ 0 a=some c):=by show _=_;rw[l.j,List.drop_length];rfl
   have a1:¬((a.length:Int)<(a.length:Int)):=by omega
   cases g with
   |true=>
    have e:ac (fN a true=if c<=2147483648 then some (-(c:Int))else none):=by show _=_;rw[G.j,N.j];rfl
    go_wp2;go_ret2;by_cases i:c<=2147483648
    .refine⟨rfl,-(c:Int),?_,λv d=>?_⟩
     .rw[e.j,Y9 i];simp;omega
     .rw[e.j,Y9 i]at d;injection d
    .refine⟨rfl,-(c:Int),?_,λv d=>?_⟩
     .rw[e.j,Y2 i];simp;omega
     .rw[e.j,Y2 i]at d;cases d
   |false=>
    have e:ac (fN a false=if c<=4294967295 then some (c:Int)else none):=by show _=_;rw[G.j,N.j];rfl
    go_wp2;go_ret2;by_cases i:c<=4294967295
    .refine⟨rfl,(c:Int),?_,λv d=>?_⟩
     .rw[e.j,Y9 i];simp;omega
     .rw[e.j,Y9 i]at d;injection d
    .refine⟨rfl,(c:Int),?_,λv d=>?_⟩
     .rw[e.j,Y2 i];simp;omega
     .rw[e.j,Y2 i]at d;cases d
def fa(e:Zw)(d b:Int)(c:Ending)(f:Zw):Prop:=
 ∃a,e.heap.size<=a/\c=.panicked [{ v:=.iface 143 (Zp a),recovered:=false }]/\
  f.heap[a]? = some (.cells #[U d,U b] 179)
def ES(a:Zw)(c b:Int):fa a c b (.panicked [{ v:=.iface 143 (Zp a.heap.size),recovered:=false }]) (a.alloc (.cells #[U c,U b] 179)):=
 ⟨_,Y4 _,rfl,by show (a.heap.push _)[a.heap.size]? = _;simp⟩
def aS{w:Zw}{o:Obj}{a:Nat}(b:a=w.heap.size):(w.alloc o).heap[a]? = some o:=by
 subst b;show (w.heap.push _)[w.heap.size]? = _;simp
def aC{d:Program}{e:Func}{a:Ending->Zw->Prop}{g:Array Zv}{c:Zw}{b:List PanicEntry}
  (f:a (.panicked b) c):bodyPost d e a (.panic b) { tmps:=g,defers:=[] } c:=⟨rfl,f⟩
def gR(c b:Int)(a:Zw) :
  Calls prog 70 #[U c,U b] a λd e=>
   d=.returned (Zp a.heap.size)/\e=a.alloc (.cells #[U c,U b] 179):=by
 go_in;go_wp2;go_ret;simp
def pJ(e lz c:Int)(a:Zw)(f:lz<=e) :
  Calls prog 201 #[U e,U lz,U c] a λd b=>fa a 5 c d b/\Below a.heap.size a b:=by
 go_in;go_wp2_with (go_at_call 70;refine(gR _ _ _).mono ?_;rintro d b ⟨rfl,rfl⟩);exact aC ⟨ES _ _ _,(Below.refl _ _).alloc (Y4 _) _⟩
def pK(a lz c:Int)(b:Zw)(f:¬lz<=a) :
  Calls prog 201 #[U a,U lz,U c] b λd e=>d=.returned (.tuple #[])/\e=b:=by
 go_in;go_wp2;go_end0;simp
abbrev cL(a:Mar.aT):Zv:=.agg #[U a.C,Zs a.text,U a.n,U a.m]
def ql(d:Zw)(c:Except Mar.aw Mar.aT)(a:Ending)(e:Zw):Prop:=
 match c with
 |.ok f=>a=.returned (cL f)
 |.error b=>fa d b.no b.m a e
theorem mI{c:Zw}{a:Mar.aT}{v:Zv}{d:Zw}(b:v=cL a):ql c (.ok a) (.returned v) d:=by
 show Ending.returned v=_;rw[b]
def Lw(a:Za)(b:Nat)(c:Zw)(j:a.size<=281474976710656) :
  Calls prog 238 #[.string a,U b] c λe d=>ql c (Mar.et a.data.toList b) e d/\Below c.heap.size c d:=by
 have h:ac (a.size=a.data.toList.length):=by rfl
 by_cases i:16<a.size
 .go_in;go_wp2_with (go_at_call 70;refine(gR _ _ _).mono ?_;rintro e d ⟨rfl,rfl⟩);refine aC ⟨?_,((Below.refl _ _).alloc (Y4 _) _).alloc (by simp) _⟩;have:Mar.et a.data.toList b=.error ⟨7,b⟩:=by simp_all[Mar.et]
  rw[this];exact⟨_,by omega,rfl,aS (by simp)⟩
 .go_in;go_wp2_with (go_at_call 263;refine(Jf _ _).mono ?_;rintro e d ⟨rfl,rfl⟩)
  .have g:Mar.d2 a.data.toList=true:=‹_›;have f:Mar.et a.data.toList b=.ok ⟨2,a.data.toList,0,b⟩:=by simp_all[Mar.et]
   refine bodyPost_ret (v:=.agg #[U 2,.string a,U 0,U b]) (by simp[results,results238,go_sem]) rfl ⟨?_,(Below.refl _ _).alloc (Y4 _) _⟩;simp_all[mI]
  .have g:Mar.d2 a.data.toList=false:=‹_›;have f:Mar.et a.data.toList b=.ok ⟨1,a.data.toList,0,b⟩:=by simp_all[Mar.et]
   refine bodyPost_ret (v:=.agg #[U 1,.string a,U 0,U b]) (by simp[results,results238,go_sem]) rfl ⟨?_,(Below.refl _ _).alloc (Y4 _) _⟩;simp_all[mI]
section
variable {b e:Nat}{a:Zb}{c d:Zw}
structure Gl(c:Zw):Prop where
 a2:∃m,c.cell? (Zd 2 0)=some (U m)
 n9:∃te pe,c.cell? (Zd 3 0)=some (.iface te pe)
 n7:∃te pe,c.cell? (Zd 4 0)=some (.iface te pe)
def lx{v:Zv}(a:c.cell? (Zd b e)=some v):b<c.heap.size:=by
 grind [World.cell?]
def qB{a:Nat}{v:Zv}(h:Below a c d)(g:a=c.heap.size)(f:c.cell? (Zd b e)=some v):d.cell? (Zd b e)=some v:=by
 rw[h.cell (p:=⟨b,e,none⟩) (by rw[g];exact lx f)];exact f
def Gl.au(h:Gl c)(a:Below c.heap.size c d):Gl d:=by
 obtain⟨⟨l,i⟩,⟨e,b,j⟩,⟨f,g,k⟩⟩:=h;exact⟨⟨l,qB a rfl i⟩,⟨e,b,qB a rfl j⟩,⟨f,g,qB a rfl k⟩⟩
def EA(a:Za)(c:Zw)(i:Gl c)(f:a.size<=281474976710656) :
  Calls prog 275 #[.string a,U 10,U 64] c λb d=>
   Below c.heap.size c d/\((∃v,Lib.parseIntB 64 a.data.toList=.ok v/\b=.returned (.tuple #[U v,.nilIface]))\/
    ((∀v,Lib.parseIntB 64 a.data.toList≠.ok v)/\∃(v:Int) (k:TypeId) (j:Zv),b=.returned (.tuple #[U v,.iface k j]))):=by
 obtain⟨_,⟨o,m,g⟩,⟨p,n,h⟩⟩:=i;cases e:Lib.parseIntB 64 a.data.toList with
 |ok v=>
  refine(Tryz.strconv_ParseInt_10_at64_ok a (by omega) v e c).mono ?_;rintro b d ⟨rfl,l⟩;refine⟨?_,Y8 ⟨v,rfl,rfl⟩⟩;grind [Below.refl,Lib.bytesWorld_below]
 |«syntax»=>
  refine(Tryz.strconv_ParseInt_10_at64_syntax a f e _ c g (Ya ⟨_,_,rfl⟩)).mono ?_;simp_all
 |range=>
  refine(Tryz.strconv_ParseInt_10_at64_range a f e _ c h (Ya ⟨_,_,rfl⟩)).mono ?_;simp_all
def Ax(a:Zb)(b:0<(⟨a.toArray⟩:Za).size):(⟨a.toArray⟩:Za)[0]'b=a.getD 0 0:=by
 cases a with
 |nil=>exact absurd b (by decide)
 |cons c d=>rfl
def LN(d:1<(a.length:Int))(c:0<(⟨a.toArray⟩:Za).size)(b:((((⟨a.toArray⟩:Za)[0]'c).toNat:Int)==48)=true):Mar.fI a=true:=by
 rw[Ax]at b;have:(a.getD 0 0)=48:=by
  have:=beq_iff_eq.1 b;apply UInt8.toNat_inj.1;grind
 grind [Mar.fI]
def xH(e:1<(a.length:Int))(c:0<(⟨a.toArray⟩:Za).size)(b:((((⟨a.toArray⟩:Za)[0]'c).toNat:Int)==48)=false):Mar.fI a=false:=by
 rw[Ax]at b;have:(a.getD 0 0==48)=false:=by
  rw[Yi]at b ⊢;intro d;simp_all
 grind [Mar.fI]
theorem xI(b:(a.length:Int)<=1):Mar.fI a=false:=by
 grind [Mar.fI]
def GH(b:Mar.fI (Lib.trimPrefix a [45])=true):Mar.e1 a=none:=by rw[Mar.e1,Y9 b]
def tY{v:Int}(b:Mar.fI (Lib.trimPrefix a [45])=false)(c:Lib.parseIntB 64 a=.ok v) :
  Mar.e1 a=if -2147483648<=v/\v<=4294967295 then some v else none:=by simp_all[Mar.e1]
theorem zM(b:Mar.fI (Lib.trimPrefix a [45])=false)(c:∀v,Lib.parseIntB 64 a≠.ok v):Mar.e1 a=none:=by
 rw[Mar.e1,Y2 (by grind)];simp
def tX{v:Int}{b:Bool}(f:Mar.e1 a=if -2147483648<=v/\v<=4294967295 then some v else none)
  (e:b=decide (-2147483648<=v/\v<=4294967295)) :
  ∃c:Int,Ending.returned (.tuple #[U v,.bool b])=.returned (.tuple #[U c,.bool (Mar.e1 a).isSome])/\∀d,Mar.e1 a=some d->c=d:=by
 subst e;by_cases g:-2147483648<=v/\v<=4294967295;all_goals simp_all
def GJ(e:Za)(c:Zw)(j:Gl c)(k:e.size<=281474976710656) :
  Calls prog 265 #[.string e] c λg d=>
   (∃h:Int,g=.returned (.tuple #[U h,.bool (Mar.e1 e.data.toList).isSome])/\∀v,Mar.e1 e.data.toList=some v->h=v)/\Below c.heap.size c d:=by
 have i:=Z (EA e c j k);go_in;go_wp2_with (first
  |(go_at_call 274;refine(Tryz.strings_TrimPrefix _ _ _).mono ?_;rintro g d ⟨rfl,rfl⟩)
  |(go_at_call 275;refine i.j.mono ?_;rintro g d ⟨f,⟨v,b,rfl⟩|⟨b,v,m,l,rfl⟩⟩))
 .go_ret2;have a:=GH (LN ‹_› _ ‹_›);simp_all[Below.refl]
 .go_ret2;have a:=tY (xH ‹_› _ ‹_›) b;exact⟨tX a (by simp_all),f⟩
 .go_ret2;have a:=tY (xH ‹_› _ ‹_›) b;exact⟨tX a (by grind),f⟩
 .go_ret2;have a:=zM (xH ‹_› _ ‹_›) b;simp_all
 .go_ret2;have a:=tY (xI ‹_›) b;exact⟨tX a (by simp_all),f⟩
 .go_ret2;have a:=tY (xI ‹_›) b;exact⟨tX a (by grind),f⟩
 .go_ret2;simp_all[zM,xI]
end
def xf:Option Nat->Zv
 |some v=>.tuple #[.int .u64 v,.nilIface]
 |none=>.tuple #[.int .u64 0,.iface 467 (.int .i64 2)]
def MG:∀a:Nat,a<8->16 ^ (a+1)<=4294967296
 |0,_|1,_|2,_|3,_|4,_|5,_|6,_|7,_=>by decide
 |a+8,b=>by omega
def Kb(b:UInt8) :
  (∀c,Mar.dA b=some c->¬(48<=b.toNat/\b.toNat<=57)->97<=bits .or .u8 (b.toNat:Int) 32/\bits .or .u8 (b.toNat:Int) 32<=102/\bits .or .u8 (b.toNat:Int) 32=(c:Int)+87)/\
  (Mar.dA b=none->¬(48<=b.toNat/\b.toNat<=57)->bits .or .u8 (b.toNat:Int) 32<97\/102<bits .or .u8 (b.toNat:Int) 32):=by
 have key:∀a:Fin 256,bits .or .u8 ((a.val:Nat):Int) 32=((a.val ||| 32:Nat):Int):=by decide +kernel
 have h:∀a:Fin 256,¬(48<=a.val/\a.val<=57)->(97<=a.val/\a.val<=102->(a.val ||| 32)=a.val)/\(65<=a.val/\a.val<=70->(a.val ||| 32)=a.val+32)/\
  (¬(97<=a.val/\a.val<=102)->¬(65<=a.val/\a.val<=70)->(a.val ||| 32)<97\/102<(a.val ||| 32)):=by decide +kernel
 have d:=b.toNat_lt;have g:=key ⟨b.toNat,d⟩;simp only at g;rw[g];refine⟨?_,?_⟩
 .intro c e f;obtain⟨i,j,_⟩:=h ⟨b.toNat,d⟩ f;simp only at i j;unfold Mar.dA at e;grind
 .intro e f;obtain⟨_,_,k⟩:=h ⟨b.toNat,d⟩ f;simp only at k;unfold Mar.dA at e;grind
def EB(d:Za)(b4:d.size≠0)(b3:d.size<=8)(i:Zw) :
  Calls prog 278 #[.string d,U 16,U 32] i λo z=>o=.returned (xf (Mar.cf 0 d.data.toList))/\z=Lib.bytesWorld i 5 d:=by
 have b1:d.toList.isEmpty=false:=by
  rw[<-decide_eq_emptyBytes];simp_all
 have I:=Lib.run_convert_string_bytes (P:=prog) i 9 97 5 d (u:=.string) (by kernel_rfl) (by kernel_rfl) (by kernel_rfl);have p:∀n,n<d.size->(Lib.bytesWorld i 5 d).cell? (Zd i.heap.size n)=some (.int .u8 (d.data.toList.getD n 0).toNat):=λn J=>Lib.bytesWorld_cell i 5 d n J;obtain⟨W1,B⟩:∃W1,W1=Lib.bytesWorld i 5 d:=⟨_,rfl⟩;rw[<-B]at I p ⊢;clear B;obtain⟨c,A⟩:∃c,c=d.data.toList:=⟨_,rfl⟩;have a6:c.length=d.size:=by simp_all
 rw[<-A]at p ⊢;clear A;go_in;go_wp2;go_loop [12,13,101] (λS R y=>∃(a e:Nat) (g:Int),S=.bool false/\R=.int .u64 g/\y=U a/\a<=d.size/\ac (g=(e:Int)/\e<16 ^ a/\Mar.cf 0 c=Mar.cf e (c.drop a)))
  (λ_ _ y=>d.size-(intOf y).toNat)
 case atStart=>exact⟨0,0,0,rfl,rfl,rfl,by omega,rfl,by omega,rfl⟩
 case round=>
  obtain⟨a,e,g,rfl,rfl,rfl,b2,F⟩:=hrel;obtain⟨q,r,f⟩:=F.j;clear F;by_cases L:a<d.size
  .have G:16 ^ (a+1)<=4294967296:=MG a (by omega);have H:16 ^ (a+1)=16 ^ a*16:=rfl;have a2:0<=g:=by omega
   have a3:g*16+15<4294967296:=by omega
   have a0:=Z (Yp G H);clear G H;have C:=p a L;have D:c.drop a=c[a]'(by omega)::c.drop (a+1):=Yk (by omega);have E:c.getD a 0=c[a]'(by omega):=by grind
   rw[D]at f;rw[E]at C;generalize c[a]'(by omega)=b at C f;have a7:b.toNat<256:=b.toNat_lt;clear p D E;by_cases l:48<=b.toNat/\b.toNat<=57
   .obtain⟨a9,b0⟩:=l;have hF:Mar.cf e (b::c.drop (a+1))=Mar.cf (e*16+(b.toNat-48)) (c.drop (a+1)):=by grind [Mar.cf,Mar.dA]
    have w:ac (g*16+((b.toNat:Int)-48)=((e*16+(b.toNat-48):Nat):Int)/\e*16+(b.toNat-48)<16 ^ (a+1)/\Mar.cf 0 c=Mar.cf (e*16+(b.toNat-48)) (c.drop (a+1))):=
     Lib.hid ⟨by omega,by omega,f.trans hF⟩
    clear hF f q r;go_wp2;exact⟨⟨a+1,_,g*16+((b.toNat:Int)-48),rfl,rfl,by rfl,by omega,w⟩,by simp[intOf];omega⟩
   .obtain⟨v,x⟩:∃v,bits .or .u8 (b.toNat:Int) 32=v:=⟨_,rfl⟩;have m:=Kb b;have j:(b.toNat:Int)<48\/57<(b.toNat:Int):=by omega
    rw[x]at m;have a1:=Z x;cases h:Mar.dA b with
    |some k=>
     have a8:=Mar.jK h;have a5:((b.toNat:Int)==95)=false:=by
      rw[Yi];intro o;have a4:b=95:=UInt8.toNat_inj.1 (by grind);simp_all[Mar.dA]
     obtain⟨s,b5,O⟩:=m.1 k h l;have hF:Mar.cf e (b::c.drop (a+1))=Mar.cf (e*16+k) (c.drop (a+1)):=by simp[Mar.cf,h]
     have w:ac (g*16+(v-97+10)=((e*16+k:Nat):Int)/\e*16+k<16 ^ (a+1)/\Mar.cf 0 c=Mar.cf (e*16+k) (c.drop (a+1))):=
      Lib.hid ⟨by omega,by omega,f.trans hF⟩
     clear hF f q r h m O l;rcases j with j|j;all_goals
      go_wp2_with (go_at_call 285;refine(Tryz.internal_strconv_lower _ _).mono ?_;rintro o z ⟨rfl,rfl⟩)
      exact⟨⟨a+1,_,g*16+(v-97+10),rfl,rfl,by go_num,by omega,w⟩,by simp[intOf];omega⟩
    |none=>
     have s:=m.2 h l;have hF:Mar.cf e (b::c.drop (a+1))=none:=by simp[Mar.cf,h]
     rw[hF]at f;have M:=bits_lo_u8 .or (b.toNat:Int) 32;have N:=bits_hi_u8 .or (b.toNat:Int) 32;rw[x]at M N;have t:=Z f;clear hF f q r h m l;rcases j with j|j;all_goals rcases s with s|s
     all_goals
      go_wp2_with (go_at_call 285;refine(Tryz.internal_strconv_lower _ _).mono ?_;rintro o z ⟨rfl,rfl⟩)
     all_goals go_ret2
     all_goals exact⟨by rw[t.j];rfl,rfl⟩
  .have K:a=d.size:=by omega
   subst K;have hF:Mar.cf e (c.drop d.size)=some e:=by rw[YR (by omega)];rfl
   rw[hF]at f;have t:=Z f;subst q;clear r hF f;go_wp2;go_ret2;exact⟨by rw[t.j];rfl,rfl⟩
section
variable {at':Nat}{a:Zb}{b:Option Int}
def Ay:∀(a:Zb) (b v:Nat),Mar.cf b a=some v->v<(b+1)*16 ^ a.length
 |[],b,v,d=>by grind [Mar.cf]
 |c::e,b,v,d=>by
  unfold Mar.cf at d;cases f:Mar.dA c with
  |none=>simp_all
  |some g=>
   rw[f]at d;have i:=Mar.jK f;have:=Ay e _ _ d;have h:(b*16+g+1)*16 ^ e.length<=(b+1)*16*16 ^ e.length:=Nat.mul_le_mul_right _ (by omega);grind
def Az{v:Nat}(b:Mar.cf 0 a=some v)(c:a.length<=8):v<4294967296:=by
 have d:=Ay a 0 v b;have e:16 ^ a.length<=16 ^ 8:=Nat.pow_le_pow_right (by omega) c;omega
def EC(b:Za)(e:Zw)(r:Gl e)(q:b.size<=8) :
  Calls prog 273 #[.string b,U 16,U 32] e λd f=>
   Below e.heap.size e f/\((∃v:Nat,b.size≠0/\Mar.cf 0 b.data.toList=some v/\v<4294967296/\d=.returned (.tuple #[.int .u64 v,.nilIface]))\/
    ((b.size=0\/Mar.cf 0 b.data.toList=none)/\∃(u:TypeId) (t:Zv),d=.returned (.tuple #[.int .u64 0,.iface u t]))):=by
 obtain⟨_,⟨x,w,n⟩,_⟩:=r;by_cases k:b.size=0
 .have:b=⟨#[]⟩:=by
   obtain⟨⟨a⟩⟩:=b;have:a=[]:=List.eq_nil_of_length_eq_zero k;simp_all
  subst this;go_in;go_wp2_with (first
   |(go_at_call 278;refine(Tryz.internal_strconv_ParseUint_empty _ _ _).mono ?_;rintro d f ⟨rfl,rfl⟩)
   |(go_at_call 279;refine(Tryz.strconv_toError_syntax _ _ _ _ _ _ (by decide) n (Ya ⟨_,_,rfl⟩)).mono ?_;rintro d f ⟨p,rfl,_,_,m⟩))
  go_ret2;simp_all
 .have c:=EB b k q e;have h:=Lib.bytesWorld_below e 5 b;have o:=qB h rfl n;obtain⟨W1,l⟩:∃W1,W1=Lib.bytesWorld e 5 b:=⟨_,rfl⟩;rw[<-l]at c h o;clear l;have i:=Z h;clear h;cases g:Mar.cf 0 b.data.toList with
  |some v=>
   rw[g]at c;simp only[xf]at c;have s:=Az g (by simp_all);have j:=Z c;clear c g;go_in;go_wp2_with (go_at_call 278;refine j.j.mono ?_;rintro d f ⟨rfl,rfl⟩);go_ret2;exact⟨i.j,Y8 ⟨v,k,rfl,s,rfl⟩⟩
  |none=>
   rw[g]at c;simp only[xf]at c;have j:=Z c;clear c g;go_in;go_wp2_with (first
    |(go_at_call 278;refine j.j.mono ?_;rintro d f ⟨rfl,rfl⟩)
    |(go_at_call 279;refine(Tryz.strconv_toError_syntax _ _ _ _ _ _ (by omega) o (Ya ⟨_,_,rfl⟩)).mono ?_;rintro d f ⟨p,rfl,_,_,m⟩))
   go_ret2;exact⟨i.j.trans (m.mono i.j.size),Ya ⟨by simp,_,_,rfl⟩⟩
def IJ(b:a.length=0\/Mar.cf 0 a=none):Mar.f3 a=none:=by
 grind [Mar.f3]
def IK{v:Nat}(d:a.length<=8)(c:a.length≠0)(b:Mar.cf 0 a=some v):Mar.f3 a=some (v:Int):=by
 simp_all[Mar.f3]
def IL(a:Za)(c:Zw)(l:Gl c)(q:a.size<=281474976710656) :
  Calls prog 264 #[.string a] c λf h=>
   (∃g:Int,f=.returned (.tuple #[U g,.bool (Mar.f3 a.data.toList).isSome])/\∀v,Mar.f3 a.data.toList=some v->g=v)/\Below c.heap.size c h:=by
 have j:ac (a.size=a.data.toList.length):=by rfl
 by_cases o:8<a.size
 .have e:Mar.f3 a.data.toList=none:=by simp_all[Mar.f3]
  rw[e];go_in;go_wp2;go_ret2;simp_all[Below.refl]
 .have i:=Z (EC a c l (by omega));go_in;go_wp2_with (go_at_call 273;refine i.j.mono ?_;rintro f h ⟨k,⟨v,n,b,p,rfl⟩|⟨b,s,r,rfl⟩⟩)
  .have d:=Z b;clear b;go_region;go_wp2;go_ret2;have e:=IK (by simp_all) (by simp_all) d.j;exact⟨⟨v,by simp_all,λt m=>by simp_all⟩,k.drew⟩
  .have d:=Z b;clear b;go_region;go_wp2;go_ret2;have e:=IJ (by rw[<-j.j];exact d.j);simp_all[Below.drew]
def LQ(b:Lib.hasPrefix a [48,120]=true):Mar.fd a=Mar.f3 (Lib.trimPrefix a [48,120]):=by
 simp[Mar.fd,b,Lib.trimPrefix]
def LP(b:Lib.hasPrefix a [48,120]=false):Mar.fd a=Mar.e1 a:=by
 simp[Mar.fd,b]
def qy{c e:Zw}(f:Below c.heap.size c e):(∀a b,a<c.heap.size->e.cell? (Zd a b)=c.cell? (Zd a b))/\(∀a b,a<c.heap.size->e.frozen? ⟨a,b,none⟩=c.frozen? ⟨a,b,none⟩):=
 ⟨λa b d=>f.cell (p:=⟨a,b,none⟩) d,λa b d=>f.frozen (p:=⟨a,b,none⟩) d⟩
def BE(c:Mar.fd a=b)(d:b.isNone=true):Mar.f1 a at'=.error ⟨4,at'⟩:=by
 grind [Mar.f1]
def BF{c:Int}(d:Mar.fd a=b)(e:b.isSome=true)(f:∀v,b=some v->c=v):Mar.f1 a at'=.ok ⟨3,a,c,at'⟩:=by
 cases b<;>simp_all[Mar.f1]
def LU(d:Za)(at':Nat)(g:Zw)(r:Gl g)(s:d.size<=281474976710656) :
  Calls prog 241 #[.string d,U at'] g λf e=>ql g (Mar.f1 d.data.toList at') f e/\Below g.heap.size g e:=by
 have o:∀b,Gl (g.alloc b):=λb=>r.au ((Below.refl _ _).alloc (Y4 _) _);have q:(⟨(Lib.trimPrefix d.data.toList [48,120]).toArray⟩:Za).size<=281474976710656:=by
  have:=yB d.data.toList [48,120];show (Lib.trimPrefix d.data.toList [48,120]).toArray.size<=_;grind [Lib.size_eq]
 cases p:Lib.hasPrefix d.data.toList [48,120]with
 |true=>
  have a:=LQ p;have h:=Z a;clear a;go_in;go_wp2_with (first
   |(go_at_call 260;refine(Tryz.strings_CutPrefix _ _ _).mono ?_;rintro f e ⟨rfl,rfl⟩)
   |(go_at_call 264;refine(IL _ _ (o _) q).mono ?_;rintro f e ⟨⟨n,rfl,a⟩,c⟩;obtain⟨l,m⟩:=qy c;have j:=c.size;simp at j;have k:=Z a;clear a)
   |(go_at_call 70;refine(gR _ _ _).mono ?_;rintro f e ⟨rfl,rfl⟩))
  .have i:=BE (at':=at') h.j ‹_›;refine aC ⟨?_,?_⟩
   .rw[i];exact⟨_,by omega,rfl,aS rfl⟩
   .exact(((Below.refl _ _).alloc (Y4 _) _).trans (c.mono (by simp))).alloc (by omega) _
  .have i:=BF (at':=at') h.j (by simp_all) k.j;refine bodyPost_ret (v:=.agg #[U 3,.string d,U n,U at']) (by simp[results,results241,go_sem,l,m,j]) rfl ⟨?_,?_⟩
   .simp_all[mI]
   .exact((((((Below.refl _ _).alloc (Y4 _) _).trans (c.mono (by simp))).setCell (Y4 _) _).setCell (Y4 _) _).setCell (Y4 _) _).setCell (Y4 _) _
 |false=>
  have a:=LP p;have h:=Z a;clear a;go_in;go_wp2_with (first
   |(go_at_call 260;refine(Tryz.strings_CutPrefix _ _ _).mono ?_;rintro f e ⟨rfl,rfl⟩)
   |(go_at_call 265;refine(GJ _ _ (o _) s).mono ?_;rintro f e ⟨⟨n,rfl,a⟩,c⟩;obtain⟨l,m⟩:=qy c;have j:=c.size;simp at j;have k:=Z a;clear a)
   |(go_at_call 70;refine(gR _ _ _).mono ?_;rintro f e ⟨rfl,rfl⟩))
  .have i:=BE (at':=at') h.j ‹_›;refine aC ⟨?_,?_⟩
   .rw[i];exact⟨_,by omega,rfl,aS rfl⟩
   .exact(((Below.refl _ _).alloc (Y4 _) _).trans (c.mono (by simp))).alloc (by omega) _
  .have i:=BF (at':=at') h.j (by simp_all) k.j;refine bodyPost_ret (v:=.agg #[U 3,.string d,U n,U at']) (by simp[results,results241,go_sem,l,m,j]) rfl ⟨?_,?_⟩
   .simp_all[mI]
   .exact((((((Below.refl _ _).alloc (Y4 _) _).trans (c.mono (by simp))).setCell (Y4 _) _).setCell (Y4 _) _).setCell (Y4 _) _).setCell (Y4 _) _
end
def ql.cases{f:Zw}{b:Except Mar.aw Mar.aT}{d:Ending}{g:Zw}(e:ql f b d g) :
  (∃c,b=.ok c/\d=.returned (cL c))\/(∃a,b=.error a/\fa f a.no a.m d g):=by
 cases b with
 |ok c=>exact Y8 ⟨c,rfl,e⟩
 |error a=>exact Ya ⟨a,rfl,e⟩
theorem CA(a:UInt8):(0<=Lib.indexByte [123,125,40,41,91,93,60,62,42,44,59,58,61] a)↔Mar.f0 a=true:=by
 have key:∀b:Fin 256,(0<=Lib.indexByte [123,125,40,41,91,93,60,62,42,44,59,58,61] (UInt8.ofNat b.val))↔Mar.f0 (UInt8.ofNat b.val)=true:=by decide +kernel
 have:=key ⟨a.toNat,a.toNat_lt⟩;simp_all
theorem Cn(a:Zb):(Mar.a4 a).length<=a.length:=by
 cases a<;>grind [Mar.a4,List.takeWhile_sublist]
theorem Af{a:UInt8}(b:((a.toNat:Int)==45)=true):(a==45)=true:=by
 have:=beq_iff_eq.1 b;have c:a=45:=UInt8.toNat_inj.1 (by grind);simp_all
theorem Bw{a:UInt8}(b:((a.toNat:Int)==45)=false):(a==45)=false:=by
 rw[Yi]at b ⊢;intro c;simp_all
def Mh(a:Za)(b:0<a.size):a.extract 0 1=⟨[a[0]].toArray⟩:=by
 rw[wU];obtain⟨⟨c⟩⟩:=a;cases c with
 |nil=>exact absurd b (by decide)
 |cons d e=>rfl
def HZ(a:Za)(b:Nat)(l:Zw)(C:Gl l)(F:a.size<=281474976710656) :
  Calls prog 183 #[.string a,U b] l λf m=>ql l (Mar.c5 a.data.toList b) f m/\Below l.heap.size l m:=by
 have D:∀x,Gl (l.alloc x):=λx=>C.au ((Below.refl _ _).alloc (Y4 _) _);by_cases z:a.size=0
 .have:a=⟨#[]⟩:=by
   obtain⟨⟨t⟩⟩:=a;have:t=[]:=List.eq_nil_of_length_eq_zero z;simp_all
  subst this;go_in;go_wp2;refine bodyPost_ret (v:=.agg #[U 0,.string ⟨#[]⟩,U 0,U b]) (by simp[results,results183,go_sem]) rfl ⟨mI rfl,(Below.refl _ _).alloc (Y4 _) _⟩
 .have u:0<a.size:=by omega
  have J:a.toList.isEmpty=false:=by
   rw[<-decide_eq_emptyBytes];simp_all
  have B:Mar.c5 a.data.toList b=(if Mar.eh a[0]then Mar.et (Mar.a4 a.data.toList) b
    else if Mar.dn a[0]||a[0]==45 then Mar.f1 (Mar.a4 a.data.toList) b else if Mar.f0 a[0]then .ok ⟨4,[a[0]],0,b⟩else .error ⟨2,b⟩):=by
   obtain⟨⟨t⟩⟩:=a;cases t with
   |nil=>simp_all
   |cons I K=>rfl
  have w:(⟨(Mar.a4 a.data.toList).toArray⟩:Za).size<=281474976710656:=by
   have:=Cn a.data.toList;show (Mar.a4 a.data.toList).toArray.size<=_;grind [Lib.size_eq]
  have h:=Z B;go_in;go_wp2_with (first
   |(go_at_call 237;refine(AG _ _).mono ?_;rintro f m ⟨rfl,rfl⟩)
   |(go_at_call 240;refine(AF _ _).mono ?_;rintro f m ⟨rfl,rfl⟩)
   |(go_at_call 239;refine(OD _ _ F u).mono ?_;rintro f G ⟨rfl,d⟩;have E:=Z ((D _).au d))
   |(go_at_call 238;refine(Lw _ _ _ w).mono ?_;rintro f H ⟨r,q⟩;have e:=d.trans (q.mono d.size);obtain⟨j,k⟩:=qy e;have g:=e.size;simp at g;rcases r.cases with⟨i,s,rfl⟩|⟨o,s,n,A,rfl,p⟩)
   |(go_at_call 241;refine(LU _ _ _ E.j w).mono ?_;rintro f H ⟨r,q⟩;have e:=d.trans (q.mono d.size);obtain⟨j,k⟩:=qy e;have g:=e.size;simp at g;rcases r.cases with⟨i,s,rfl⟩|⟨o,s,n,A,rfl,p⟩)
   |(go_at_call 236;refine(Tryz.strings_IndexByte _ _ _).mono ?_;rintro f m ⟨rfl,rfl⟩)
   |(go_at_call 242;refine(vZ _ _ (by simp;omega)).mono ?_;rintro f G ⟨rfl,d⟩;obtain⟨j,k⟩:=qy d;have g:=d.size;simp at g)
   |(go_at_call 70;refine(gR _ _ _).mono ?_;rintro f m ⟨rfl,rfl⟩))
  .have c:Mar.c5 a.data.toList b=.ok i:=by rw[h.j];simp_all
   refine bodyPost_ret (v:=cL i) (by simp[results,results183,go_sem,j,k,g]) rfl ⟨?_,?_⟩
   .simp_all[mI]
   .exact((((((Below.refl _ _).alloc (Y4 _) _).trans (e.mono (by simp))).setCell (Y4 _) _).setCell (Y4 _) _).setCell (Y4 _) _).setCell (Y4 _) _
  .have c:Mar.c5 a.data.toList b=.error o:=by rw[h.j];simp_all
   refine aC ⟨?_,((Below.refl _ _).alloc (Y4 _) _).trans (e.mono (by simp))⟩;rw[c];exact⟨n,by have:=d.size;simp at this;omega,rfl,p⟩
  .have c:Mar.c5 a.data.toList b=.ok i:=by rw[h.j];simp_all
   refine bodyPost_ret (v:=cL i) (by simp[results,results183,go_sem,j,k,g]) rfl ⟨?_,?_⟩
   .simp_all[mI]
   .exact((((((Below.refl _ _).alloc (Y4 _) _).trans (e.mono (by simp))).setCell (Y4 _) _).setCell (Y4 _) _).setCell (Y4 _) _).setCell (Y4 _) _
  .have c:Mar.c5 a.data.toList b=.error o:=by rw[h.j];simp_all
   refine aC ⟨?_,((Below.refl _ _).alloc (Y4 _) _).trans (e.mono (by simp))⟩;rw[c];exact⟨n,by have:=d.size;simp at this;omega,rfl,p⟩
  .have c:Mar.c5 a.data.toList b=.ok i:=by rw[h.j];simp_all[Af]
   refine bodyPost_ret (v:=cL i) (by simp[results,results183,go_sem,j,k,g]) rfl ⟨?_,?_⟩
   .simp_all[mI]
   .exact((((((Below.refl _ _).alloc (Y4 _) _).trans (e.mono (by simp))).setCell (Y4 _) _).setCell (Y4 _) _).setCell (Y4 _) _).setCell (Y4 _) _
  .have c:Mar.c5 a.data.toList b=.error o:=by rw[h.j];simp_all[Af]
   refine aC ⟨?_,((Below.refl _ _).alloc (Y4 _) _).trans (e.mono (by simp))⟩;rw[c];exact⟨n,by have:=d.size;simp at this;omega,rfl,p⟩
  .have c:Mar.c5 a.data.toList b=.ok ⟨4,[a[0]],0,b⟩:=by rw[h.j];simp_all[Bw,CA]
   refine bodyPost_ret (v:=.agg #[U 4,.string (a.extract 0 1),U 0,U b]) (by simp[results,results183,go_sem,j,k,g]) rfl ⟨?_,?_⟩
   .rw[c];exact mI (by simp only[cL,Mh a u];rfl)
   .exact((((((Below.refl _ _).alloc (Y4 _) _).trans (d.mono (by simp))).setCell (Y4 _) _).setCell (Y4 _) _).setCell (Y4 _) _).setCell (Y4 _) _
  .have c:Mar.c5 a.data.toList b=.error ⟨2,b⟩:=by
    rw[h.j];rw[Y2 (by grind),Y2 (by simp[Bw (by assumption), *]),Y2 (λy=>by have:=(CA _).2 y;omega)]
   refine aC ⟨?_,((Below.refl _ _).alloc (Y4 _) _).alloc (by simp) _⟩;rw[c];exact⟨_,by omega,rfl,aS (by simp)⟩
section
variable {d:List Nat}{T:TypeId}{a b w f:Zw}{c:Nat}{h e g:Zv}{p:Addr}
structure am(d:List Nat)(w f:Zw):Prop where
 os:f.os=w.os
 dX:f.tape=w.tape
 dU:f.output=w.output
 ar:w.heap.size<=f.heap.size
 G:∀k,k<w.heap.size->k ∉ d->f.heap[k]? = w.heap[k]?
theorem ak(d:List Nat)(w:Zw):am d w w:=⟨rfl,rfl,rfl,Y4 _,λ_ _ _=>rfl⟩
def bh(d:List Nat)(a:Below w.heap.size w f):am d w f:=⟨a.os,a.tape,a.output,a.size,λc b _=>a.block c b⟩
theorem am.u{f:Zw}(c:am d a b)(e:am d b f):am d a f:=
 ⟨e.os.trans c.os,e.dX.trans c.dX,e.dU.trans c.dU,Yz c.ar e.ar,λi g h=>(e.G i (Yr g c.ar) h).trans (c.G i g h)⟩
theorem am.K{M':List Nat}(c:am d a b)(h:∀j∈d,j∈M'):am M' a b:=
 ⟨c.os,c.dX,c.dU,c.ar,λe g i=>c.G e g (λf=>i (h e f))⟩
def am.l2(c:am d a b)(e:Nat):am d a (b.drewN e):=⟨c.os,c.dX,c.dU,c.ar,c.G⟩
theorem am.aq(c:am d a b):am d a b.drew:=⟨c.os,c.dX,c.dU,c.ar,c.G⟩
def am.B(c:am d a b)(e:Obj):am d a (b.alloc e):=
 c.u (bh d ((Below.refl _ _).alloc (Y4 _) _))
def am.ay(e:am d a b)(g:p.block∈d)(h:Zv):am d a (b.setCell p h):=
 e.u ⟨rfl,rfl,rfl,by simp,λi _ f=>Below.heap_setCell _ _ _ _ (λc=>f (c▸g))⟩
def am.b2(c:am d a b)(i:a.heap.size<=p.block)(h:Zv):am d a (b.setCell p h):=
 ⟨c.os,c.dX,c.dU,Yz c.ar (by simp),λg e f=>(Below.heap_setCell _ _ _ _ (by omega)).trans (c.G g e f)⟩
def gF(S:Nat)(d:Za)(c:Nat)(b g e a h:Zv)(w:Zw):Prop:=
 w.heap[S]? = some (.cells #[.string d,U c,b,g,e,a,h] 222)
def gF.c1{S:Nat}{d:Za}{b a:Zv}(f:gF S d c b g e a h w) :
  w.cell? (Zd S 0)=some (.string d)/\w.cell? (Zd S 1)=some (U c)/\w.cell? (Zd S 2)=some b/\w.cell? (Zd S 3)=some g/\
  w.cell? (Zd S 4)=some e/\w.cell? (Zd S 5)=some a/\w.cell? (Zd S 6)=some h/\S<w.heap.size/\∀i,w.frozen? ⟨S,i,none⟩=false:=by
 unfold gF at f;have j:S<w.heap.size:=by
  grind
 simp_all[World.cell?,World.frozen?]
def bu{b i:Nat}{cs:Array Zv}{a:Nat×Nat}(c:w.heap[b]? = some (.cells cs T a))(v:Zv) :
  (w.setCell ⟨b,i,none⟩ v).heap[b]? = some (.cells (cs.setIfInBounds i v) T a):=by
 grind [World.setCell]
def yf{b:Nat}{l a k' t' n' a':Zv}{c:Nat×Nat}(d:w.heap[b]? = some (.cells #[l,g,e,a] T c)) :
  ((((w.setCell ⟨b,0,none⟩ k').setCell ⟨b,1,none⟩ t').setCell ⟨b,2,none⟩ n').setCell ⟨b,3,none⟩ a').heap[b]? = some (.cells #[k',t',n',a'] T c):=by
 have f:=bu (i:=0) d k';have h:=bu (i:=1) f t';have j:=bu (i:=2) h n';have k:=bu (i:=3) j a';exact k
def gC{b:Nat}{c a:Zv}(f:w.heap[b]? = some (.cells #[c,g,e,a] T)) :
  w.cell? (Zd b 0)=some c/\w.cell? (Zd b 1)=some g/\w.cell? (Zd b 2)=some e/\w.cell? (Zd b 3)=some a/\∀d,w.frozen? ⟨b,d,none⟩=false:=by
 simp_all[World.cell?,World.frozen?]
def wY{a:Zb}{b:Mar.aT}(d:Mar.c5 a c=.ok b):b.text.length<=a.length:=by
 cases a<;>grind [Mar.c5,Cn,Mar.et,Mar.f1]
def kg(a:Zb)(c:Nat):Except Mar.aw (Mar.aT×Nat):=
 match Mar.c5 (a.drop (c+Mar.eT (a.drop c))) (c+Mar.eT (a.drop c))with
 |.ok b=>.ok (b,c+Mar.eT (a.drop c)+b.text.length)
 |.error d=>.error d
def Gl.F(j:Gl w)(p:am d w f)(k:2 ∉ d)(l:3 ∉ d)(m:4 ∉ d):Gl f:=by
 have key:∀b v,b ∉ d->w.cell? (Zd b 0)=some v->f.cell? (Zd b 0)=some v:=by
  intro b v n o;have:=p.G b (lx o) n;grind [World.cell?]
 obtain⟨⟨q,g⟩,⟨a,b,h⟩,⟨c,e,i⟩⟩:=j;exact⟨⟨q,key _ _ k g⟩,⟨a,b,key _ _ l h⟩,⟨c,e,key _ _ m i⟩⟩
def gF.g4{S:Nat}{i:Za}{f a:Zv}(b:gF S i c f g e a h w)(d:Gl w) :
  2≠S/\3≠S/\4≠S:=by
 obtain⟨j,_⟩:=b.c1;obtain⟨⟨n,k⟩,⟨_,_,l⟩,⟨_,_,m⟩⟩:=d;grind
def OL{S:Nat}{l:Za}{k a:Zv}(b:gF S l c k g e a h w)(f:Gl w)(nq:Nat)(v:Zv){p:Nat}(n:v=U p) :
  am [S] w (((w.alloc (.cells #[U 0,.string ⟨#[]⟩,U 0,U 0] 154)).drewN nq).setCell ⟨S,1,none⟩ v)/\
  gF S l p k g e a h (((w.alloc (.cells #[U 0,.string ⟨#[]⟩,U 0,U 0] 154)).drewN nq).setCell ⟨S,1,none⟩ v)/\
  Gl (((w.alloc (.cells #[U 0,.string ⟨#[]⟩,U 0,U 0] 154)).drewN nq).setCell ⟨S,1,none⟩ v)/\
  w.heap.size<(((w.alloc (.cells #[U 0,.string ⟨#[]⟩,U 0,U 0] 154)).drewN nq).setCell ⟨S,1,none⟩ v).heap.size/\
  (((w.alloc (.cells #[U 0,.string ⟨#[]⟩,U 0,U 0] 154)).drewN nq).setCell ⟨S,1,none⟩ v).heap[w.heap.size]? = some (.cells #[U 0,.string ⟨#[]⟩,U 0,U 0] 154):=by
 subst n;have m:S<w.heap.size:=b.c1.2.2.2.2.2.2.2.1;have d:=((Below.refl w.heap.size w).alloc (Y4 _) (.cells #[U 0,.string ⟨#[]⟩,U 0,U 0] 154));have j:=((bh [S] d).l2 nq).ay (p:=⟨S,1,none⟩) (by simp) (U p);refine⟨j,?_,?_,?_,?_⟩
 .exact bu (i:=1) ((d.block S m).trans b) _
 .obtain⟨o,q,r⟩:=b.g4 f;exact f.F j (by grind) (by grind) (by grind)
 .simp
 .exact(Below.heap_setCell _ _ _ _ (by grind)).trans (aS rfl)
def OK(S:Nat)(d:Za)(c:Nat)(o g e a h:Zv)(w:Zw)(a9:gF S d c o g e a h w)(a1:Gl w)(f5:c<=d.size)(h3:d.size<=4000000000) :
  Calls prog 117 #[Zp S] w λs f=>am [S] w f /\
   ((∃i p,kg d.data.toList c=.ok (i,p)/\p<=d.size/\s=.returned (cL i)/\gF S d p o g e a h f)\/
    (∃k,kg d.data.toList c=.error k/\fa w k.no k.m s f)):=by
 obtain⟨b9,c0,c1,c2,c3,c4,c5,g9,d8⟩:=a9.c1;obtain⟨e9,a5⟩:=a1.a2;have a6:=λG=>qB (((Below.refl w.heap.size w).alloc (Y4 _) G).drew) rfl a5;have L:=Z a6;clear a5 a6;have m:(d.extract c d.size).size<4294967281:=by simp;omega
 go_in;have a7:c+Mar.eT (d.data.toList.drop c)<=d.size:=by
  grind [Mar.k7,Lib.size_eq,Mar.eT]
 have a0:(d.extract c d.size).data.toList=d.data.toList.drop c:=wT d c;have u:=λl e5=>PH (d.extract c d.size) e9 l m e5;rw[a0]at u;obtain⟨q,O⟩:∃q,ac (Mar.eT (d.data.toList.drop c)=q):=⟨_,rfl⟩;rw[O.j]at u a7;have M:=Z u;clear u a0;have b8:ac (IntKind.i64.wrap ((c:Int)+(q:Int))=((c+q:Nat):Int)):=by
  show IntKind.i64.wrap ((c:Int)+(q:Int))=_;grind [IntKind.wrap_i64]
 go_upto_region 1 with fail;go_cut [] (λwc=>am [S] w wc/\gF S d (c+q) o g e a h wc/\Gl wc/\w.heap.size<wc.heap.size/\wc.heap[w.heap.size]? = some (.cells #[U 0,.string ⟨#[]⟩,U 0,U 0] 154));case first=>
  go_region_with (first|(go_at_call 182;refine(M.j _ ?_).mono ?_;exact L.j _;rintro s f ⟨rfl,nq,rfl⟩));all_goals (go_wp2_with fail)
  all_goals go_meet
  all_goals exact OL a9 a1 _ _ (by rw[b8.j])
 case rest=>
  rename Zw=>j;obtain⟨p,N⟩:∃p,ac (c+q=p):=⟨_,rfl⟩;rw[N.j]at hcut a7;obtain⟨a3,b0,a2,C,a8⟩:=hcut;obtain⟨c6,c7,c8,c9,d0,d1,d2,e4,g3⟩:=b0.c1;obtain⟨b1,b2,b3,b4,d9⟩:=gC a8;have h1:¬j.heap.size=S:=by omega
  have h2:¬S=j.heap.size:=by omega
  have g6:(0:Int)<=p:=by omega
  have g7:(p:Int)<=d.size:=by omega
  have e8:(d.extract p d.size).size<=281474976710656:=by simp;omega
  have B:=λl e1=>HZ (d.extract p d.size) p l e1 e8;rw[wT]at B;have J:=Z (a2.au ((Below.refl j.heap.size j).drew));have K:=Z (λG=>a2.au (((Below.refl j.heap.size j).alloc (Y4 _) G).drew));have z:=Z a3;clear b9 c0 c1 c2 c3 c4 c5 d8 a3;have hX:∀(k:Mar.aw) (b:Nat) (l:Zw),Mar.c5 (d.data.toList.drop p) p=.error k->j.heap.size<=b->Below j.heap.size j l->l.heap[b]? = some (.cells #[U k.no,U k.m] 179)->
    am [S] w l/\((∃i p,kg d.data.toList c=.ok (i,p)/\p<=d.size/\Ending.panicked [{ v:=.iface 143 (Zp b),recovered:=false }]=.returned (cL i)/\gF S d p o g e a h l)\/
     (∃k,kg d.data.toList c=.error k/\fa w k.no k.m (.panicked [{ v:=.iface 143 (Zp b),recovered:=false }]) l)):=by
   intro k b l e0 d4 r d5;refine⟨z.j.u (bh _ r),Ya ⟨k,?_,b,Yz (Nat.le_of_lt C) d4,rfl,d5⟩⟩;unfold kg;rw[O.j,N.j,e0]
  have H:=Z hX;have I:=Z B;clear B hX;go_wp2_with fail;go_cut [3] (λf0 b5=>∃b i,f0=Zp b/\j.heap.size<=b/\Mar.c5 (d.data.toList.drop p) p=.ok i/\
   Below j.heap.size j b5/\b5.heap[b]? = some (.cells #[U i.C,Zs i.text,U i.n,U i.m] 154))
  case first=>
   go_region_held2 (λf=>f.cell? (Zd S 0)=some (.string d)/\f.cell? (Zd S 1)=some (U p)) (go_keep)
    (first|(go_at_call 183;refine(I.j _ ?_).mono ?_;(first|exact J.j|exact K.j _);rintro s l ⟨e2,n⟩;rcases e2.cases with⟨i,m,rfl⟩|⟨k,m,b,R,rfl,d6⟩;rotate_left;exact aC (H.j k b l m (by first|exact R|(have:=R;simp at this;omega)) (by first|exact((Below.refl j.heap.size j).drew).trans n|exact(((Below.refl j.heap.size j).alloc (Y4 _) _).drew).trans (n.mono (by simp))) d6);have P:=Z m;clear m;obtain⟨g1,g5⟩:=qy n;have F:=n.size;simp at F;have h5:=(n.cell (p:=⟨S,0,none⟩) (by simp;omega));have h6:=(n.cell (p:=⟨S,1,none⟩) (by simp;omega))))
   all_goals (go_wp2_with fail)
   all_goals go_meet
   .exact⟨l.heap.size,i,rfl,F,P.j,(((Below.refl j.heap.size j).drew).trans n).alloc F _,aS rfl⟩
   .refine⟨j.heap.size,i,rfl,Y4 _,P.j,?_,?_⟩
    .exact((((((((Below.refl j.heap.size j).alloc (Y4 _) _).drew).trans (n.mono (by simp))).setCell (Y4 _) _).setCell (Y4 _) _).setCell (Y4 _) _).setCell (Y4 _) _)
    .exact yf ((n.block j.heap.size (by simp)).trans (aS rfl))
  case rest=>
   rename Zw=>f1;obtain⟨b,i,rfl,f6,m,r,A⟩:=hcut;obtain⟨h7,h8,h9,i0,g4⟩:=gC A;have a4:=z.j.u (bh [S] r);have E:gF S d p o g e a h f1:=(r.block S e4).trans b0;have D:=(r.block w.heap.size C).trans a8;obtain⟨c6,c7,c8,c9,d0,d1,d2,h0,g2⟩:=E.c1;obtain⟨b1,b2,b3,b4,d9⟩:=gC D;have e3:p+i.text.length<=d.size:=by
    have:=wY m;simp only[YI]at this;have:=Lib.size_eq d;omega
   have g8:(p:Int)+i.text.length<=d.size:=by omega
   have f4:=Z m;have f2:=Z A;have f3:=Z D;have b6:=Z E;have b7:=Z a4;have f7:¬b=S:=by omega
   have f8:¬S=b:=by omega
   have h4:¬w.heap.size=S:=by omega
   have e7:¬S=w.heap.size:=by omega
   have f9:¬b=w.heap.size:=by omega
   have g0:¬w.heap.size=b:=by omega
   clear m A D E a4 r I H J K z L M;go_wp2;go_region;go_wp2;have d7:kg d.data.toList c=.ok (i,p+i.text.length):=by
    grind [kg,ac.j]
   refine bodyPost_ret (v:=cL i) (by simp[results,results117,go_sem,b1,b2,b3,b4,C]) rfl ⟨?_,Y8 ⟨i,_,d7,e3,rfl,?_⟩⟩
   .exact(((((b7.j.ay (by simp) _).b2 (Y4 _) _).b2 (Y4 _) _).b2 (Y4 _) _).b2 (Y4 _) _).aq
   .have d3:=bu (i:=1) b6.j (U ((p+i.text.length:Nat):Int));have t:∀(y:Zw) (x:Nat) (v:Zv),y.heap[S]? = some (.cells #[.string d,U ((p+i.text.length:Nat):Int),o,g,e,a,h] 222)->
      (y.setCell ⟨w.heap.size,x,none⟩ v).heap[S]? = some (.cells #[.string d,U ((p+i.text.length:Nat):Int),o,g,e,a,h] 222):=
     λy x v e6=>(Below.heap_setCell y ⟨w.heap.size,x,none⟩ v S e7).trans e6
    rw[<-Int.natCast_add];exact t _ 3 _ (t _ 2 _ (t _ 1 _ (t _ 0 _ d3)))
end
def Sc(S:Nat)(c:Za)(b:Nat)(h:Option Mar.aT)(d:Zw):Prop:=
 b<=c.size/\match h with
 |some a=>gF S c b (.int .i64 a.C) (.string ⟨a.text.toArray⟩) (.int .i64 a.n) (.int .i64 a.m) (.bool true) d
 |none=>∃f i g e,gF S c b f i g e (.bool false) d
def Sc.au{S:Nat}{e:Za}{c:Nat}{b:Option Mar.aT}{w f:Zw}(a:Sc S e c b w)(d:Below w.heap.size w f):Sc S e c b f:=by
 obtain⟨h,a⟩:=a;refine⟨h,?_⟩;cases b with
 |some l=>exact(d.block S (gF.c1 (w:=w) a).2.2.2.2.2.2.2.1).trans a
 |none=>
  obtain⟨i,k,j,g,a⟩:=a;exact⟨i,k,j,g,(d.block S a.c1.2.2.2.2.2.2.2.1).trans a⟩
def dK(b:Zb)(a:Nat):Option Mar.aT->Except Mar.aw (Mar.aT×Nat)
 |some c=>.ok (c,a)
 |none=>kg b a
theorem Jl{S:Nat}{a b:Zw}{d:Obj}(c:am [S] (a.alloc d) b)(i j k l m e f g h:Zv) :
  am [S] a (((((((((b.setCell ⟨S,2,none⟩ i).setCell ⟨S,3,none⟩ j).setCell ⟨S,4,none⟩ k).setCell ⟨S,5,none⟩ l).setCell ⟨S,6,none⟩ m).setCell ⟨a.heap.size,0,none⟩ e).setCell ⟨a.heap.size,1,none⟩ f).setCell ⟨a.heap.size,2,none⟩ g).setCell ⟨a.heap.size,3,none⟩ h):=
 ((((((((((((ak _ _).B _).u c).ay (by simp) _).ay (by simp) _).ay (by simp) _).ay (by simp) _).ay (by simp) _).b2 (Y4 _) _).b2 (Y4 _) _).b2 (Y4 _) _).b2 (Y4 _) _)
theorem OJ{S b:Nat}{l:Za}{k:Nat}{y E z n u:Zv}{m:Zw}(w:¬S=b)(o:gF S l k y E z n u m){f g h i j:Zv}(A B C D:Zv) :
  gF S l k f g h i j (((((((((m.setCell ⟨S,2,none⟩ f).setCell ⟨S,3,none⟩ g).setCell ⟨S,4,none⟩ h).setCell ⟨S,5,none⟩ i).setCell ⟨S,6,none⟩ j).setCell ⟨b,0,none⟩ A).setCell ⟨b,1,none⟩ B).setCell ⟨b,2,none⟩ C).setCell ⟨b,3,none⟩ D):=by
 have p:=bu (i:=2) o f;have q:=bu (i:=3) p g;have r:=bu (i:=4) q h;have s:=bu (i:=5) r i;have t:=bu (i:=6) s j;have c:∀(d:Zw) (a:Nat) (v:Zv) (e:Option Obj),d.heap[S]? = e->(d.setCell ⟨b,a,none⟩ v).heap[S]? = e:=
  λd a v e x=>(Below.heap_setCell d ⟨b,a,none⟩ v S w).trans x
 exact c _ 3 _ _ (c _ 2 _ _ (c _ 1 _ _ (c _ 0 _ _ t)))
def zd(S:Nat)(d:Za)(e:Nat)(j:Option Mar.aT)(a:Zw)(c:Sc S d e j a)(K:Gl a)(O:d.size<=4000000000) :
  Calls prog 72 #[Zp S] a λl p=>am [S] a p /\
   ((∃b k,dK d.data.toList e j=.ok (b,k)/\l=.returned (cL b)/\Sc S d k (some b) p)\/
    (∃f,dK d.data.toList e j=.error f/\fa a f.no f.m l p)):=by
 obtain⟨q,c⟩:=c;cases j with
 |some b=>
  have r:gF S d e (U b.C) (Zs b.text) (U b.n) (U b.m) (.bool true) a:=c;obtain⟨A,B,C,D,E,F,G,m,J⟩:=r.c1;have w:=Z r;go_in;go_wp2;refine bodyPost_ret (v:=cL b) (by simp[results,results72,go_sem]) rfl ⟨?_,Y8 ⟨b,e,rfl,rfl,q,?_⟩⟩
  .exact(ak _ _).B _
  .exact(Below.heap_alloc a _ S m).trans w.j
 |none=>
  obtain⟨P,a4,R,y,c⟩:=c;obtain⟨A,B,C,D,E,F,G,m,J⟩:=c.c1;have s:=λg=>(Below.refl a.heap.size a).alloc (Y4 _) g;have t:=λg=>OK S d e P a4 R y (.bool false) (a.alloc g) ((Below.heap_alloc a g S m).trans c) (K.au (s g)) q O;have u:=Z t;go_in;go_wp2_with (go_at_call 117;refine(u.j _).mono ?_;rintro l b8 ⟨h,⟨b,k,i,N,rfl,o⟩|⟨f,i,z,H,rfl,I⟩⟩;obtain⟨a8,a9,b0,b1,b2,b3,b4,b7,b5⟩:=o.c1;have n:=(h.G a.heap.size (by simp) (by grind)).trans (aS rfl);obtain⟨a0,a1,a2,a3,b6⟩:=gC n;have a7:=Z n;have a5:=Z o;have a6:=Z h;have x:=Z i;clear n o h i)
  .have L:¬S=a.heap.size:=by omega
   have M:¬a.heap.size=S:=by omega
   refine bodyPost_ret (v:=cL b) (by simp[results,results72,go_sem,L,M,a0,a1,a2,a3]) rfl ⟨?_,Y8 ⟨b,k,x.j,rfl,N,?_⟩⟩
   .grind [Jl,ac.j]
   grind [OJ,ac.j]
  .refine aC ⟨((ak _ _).B _).u h,Ya ⟨f,i,z,?_,rfl,I⟩⟩;simp at H;omega
def Ey(S:Nat)(c:Za)(h:Nat)(f:Option Mar.aT)(w:Zw)(t:Sc S c h f w)(G:Gl w)(K:c.size<=4000000000) :
  Calls prog 118 #[Zp S] w λo r=>am [S] w r /\
   ((∃a g,dK c.data.toList h f=.ok (a,g)/\o=.returned (cL a)/\Sc S c g none r)\/
    (∃d,dK c.data.toList h f=.error d/\fa w d.no d.m o r)):=by
 have b0:S<w.heap.size:=by
  obtain⟨_,j⟩:=t;cases f with
  |some a=>exact(gF.c1 (w:=w) j).2.2.2.2.2.2.2.1
  |none=>obtain⟨b5,b7,b6,a0,j⟩:=j;exact j.c1.2.2.2.2.2.2.2.1
 have I:¬S=w.heap.size:=by omega
 have b4:¬w.heap.size=S:=by omega
 have x:=λb=>zd S c h f (w.alloc b) (Sc.au t ((Below.refl w.heap.size w).alloc (Y4 _) b)) (G.au ((Below.refl w.heap.size w).alloc (Y4 _) b)) K;have y:=Z x;go_in;go_wp2_with (go_at_call 72;refine(y.j _).mono ?_;rintro o n ⟨e,⟨a,g,k,rfl,J,s⟩|⟨d,k,C,E,rfl,F⟩⟩;have q:gF S c g (U a.C) (Zs a.text) (U a.n) (U a.m) (.bool true) n:=s;obtain⟨a1,a2,a3,a4,a5,a6,a7,b3,a8⟩:=q.c1;have p:=(e.G w.heap.size (by simp) (by simp_all)).trans (aS rfl);obtain⟨M,N,O,P,a9⟩:=gC p;have u:=e.ar;simp at u;have H:w.heap.size<n.heap.size:=u;have b1:¬w.heap.size=n.heap.size:=(by omega);have b2:¬S=n.heap.size:=(by omega);have R:=Z p;have z:=Z q;have A:=Z e;have B:=Z k;clear p s q e k)
 .refine bodyPost_ret (v:=cL a) (by simp[results,results118,go_sem,H,M,N,O,P]) rfl ⟨?_,Y8 ⟨a,g,B.j,rfl,J,?_⟩⟩
  .exact((((((((ak _ _).B _).u A.j).ay (by simp) _).b2 (Y4 _) _).b2 (Y4 _) _).b2 (Y4 _) _).b2 (Y4 _) _).B _
  .refine⟨U a.C,Zs a.text,U a.n,U a.m,(Below.heap_alloc _ _ S (by simp_all)).trans ?_⟩;have D:=bu (i:=6) z.j (.bool false);have i:∀(m:Zw) (l:Nat) (v:Zv) (b:Option Obj),m.heap[S]? = b->(m.setCell ⟨w.heap.size,l,none⟩ v).heap[S]? = b:=
    λm l v b L=>(Below.heap_setCell m ⟨w.heap.size,l,none⟩ v S I).trans L
   exact i _ 3 _ _ (i _ 2 _ _ (i _ 1 _ _ (i _ 0 _ _ D)))
 .refine aC ⟨((ak _ _).B _).u e,Ya ⟨d,k,C,?_,rfl,F⟩⟩;simp at E;omega
section
variable {e X f:List Nat}{a b:Nat}{bs:Zo}{w c:Zw}
inductive Ty where
 |plain (k:Nat)
 |named (t:Zb) (at':Nat)
 |opaq (n:Int) (fixed:Bool)
 |str (n:Int) (fixed:Bool)
 |arr (of:Ty) (n:Int) (fixed:Bool)
 |opt (of:Ty)
 |void
def bj:Ty->Zv
 |.plain e=>.iface 372 (.agg #[.int .i64 e])
 |.named f d=>.iface 260 (.agg #[.string ⟨f.toArray⟩,.int .i64 d])
 |.opaq b a=>.iface 377 (.agg #[.int .i64 b,.bool a])
 |.str b a=>.iface 380 (.agg #[.int .i64 b,.bool a])
 |.arr c b a=>.iface 382 (.agg #[bj c,.int .i64 b,.bool a])
 |.opt c=>.iface 385 (.agg #[bj c])
 |.void=>.iface 444 (.agg #[])
structure aO where
 t:Zb
 m:Nat
 H:Ty
structure dN where
 t:Zb
 m:Nat
 c2:Ty
 cF:Ty
 num:Int
structure eg where
 t:Zb
 m:Nat
 ag:List dN
 num:Int
inductive aB where
 |const (t:Zb) (at':Nat) (v:Int)
 |typedef (d:aO)
 |enum (t:Zb) (at':Nat) (ms:List (Zb×Nat×Int))
 |struct (t:Zb) (at':Nat) (ms:List aO)
 |union (t:Zb) (at':Nat) (sel:aO) (arms:List (List Int×aO))
 |prog (t:Zb) (at':Nat) (vs:List eg) (num:Int)
def bv(X:List Nat)(bs:Zo)(w:Zw):Prop:=∀a∈bs,w.heap[a.1]? = some a.2/\a.1 ∉ X
abbrev jY(b:Zb)(a:Nat):Zl:=[Zs b,U a]
abbrev ek(a:aO):Zl:=[Zs a.t,U a.m,bj a.H]
def gG(bs:Zo)(f:TypeId)(v:Zv)(a:Nat)(b:Zl):Prop:=
 (v=.slice none 0 0/\a=0/\b=[])\/∃e c d,v=.slice (some ⟨e,0,none⟩) a c/\(a<=c/\a<=1000)/\(e,Obj.cells d f)∈bs/\d.toList.take b.length=b
def ts(bs:Zo)(b:Nat)(a:Zb×Nat×Int):Prop:=(b,Obj.cells #[.string ⟨a.1.toArray⟩,U a.2.1,U a.2.2] 343)∈bs
def dg(bs:Zo)(b:Nat):aB->Prop
 |.const f d v=>ts bs b (f,d,v)
 |.typedef o=>(b,Obj.cells (ek o).toArray 244)∈bs
 |.enum f d g=>∃(c:Zv) (l:List Nat),(b,Obj.cells (jY f d++[c]).toArray 253)∈bs/\l.length=g.length/\
   gG bs 223 c g.length (l.map λi=>Zp i)/\∀a (m:a<g.length) (n:a<l.length),ts bs l[a] g[a]
 |.struct f d g=>∃(c:Zv),(b,Obj.cells (jY f d++[c]).toArray 353)∈bs/\gG bs 242 c g.length (g.flatMap ek)
 |.union f d r j=>∃(c:Zv) (e:Zl),(b,Obj.cells (jY f d++ek r++[c]).toArray 358)∈bs/\e.length=j.length/\
   gG bs 363 c j.length ((j.zip e).flatMap λh=>h.2::ek h.1.2)/\
   ∀a (m:a<j.length) (n:a<e.length),gG bs 2 e[a] j[a].1.length (j[a].1.map λp=>U p)
 |.prog f d k q=>∃(c:Zv) (e:Zl),(b,Obj.cells (jY f d++[c,.int .i64 q]).toArray 267)∈bs/\e.length=k.length/\
   gG bs 367 c k.length ((k.zip e).flatMap λh=>jY h.1.t h.1.m++[h.2,U h.1.num])/\
   ∀a (m:a<k.length) (n:a<e.length),gG bs 446 e[a] k[a].ag.length (k[a].ag.flatMap λi=>jY i.t i.m++[bj i.c2,bj i.cF,U i.num])
def cA:aB->TypeId
 |.const ..=>223
 |.typedef ..=>225
 |.enum ..=>227
 |.struct ..=>229
 |.union ..=>231
 |.prog ..=>233
def iH(bs:Zo)(v:Zv):Option aB->Prop
 |none=>v=.nilIface
 |some a=>∃b,v=.iface (cA a) (.pointer (some ⟨b,0,none⟩))/\dg bs b a
def pB(a:List (Zb×Zv)):Obj:=.map (a.mapIdx λc b=>⟨.string ⟨b.1.toArray⟩,b.2,c⟩).toArray a.length
def uV(a:List (Int×Int)):Obj:=.map (a.mapIdx λc b=>⟨U b.1,U b.2,c⟩).toArray a.length
def fR(X:List Nat)(a:Nat)(b:List (Zb×Option aB))(w:Zw):Prop:=
 (b.map (·.1)).Nodup/\∃(bs:Zo) (d:Zl),bv X bs w/\d.length=b.length/\w.heap[a]? = some (pB (b.zip d |>.map λe=>(e.1.1,e.2)))/\∀c (f:c<b.length) (g:c<d.length),iH bs d[c] b[c].2
def ap{a:Obj}(c:w.heap[b]? = some a):b<w.heap.size:=by
 grind
def bv.F(d:bv X bs w)(g:am e w c)(f:∀j∈e,j∈X):bv X bs c:=by
 intro k i;obtain⟨a,b⟩:=d k i;exact⟨(g.G _ (ap a) (λh=>b (f _ h))).trans a,b⟩
theorem bv.aI(a:bv X bs w)(g:w.heap.size<=b):bv (b::X) bs w:=by
 intro d c;obtain⟨e,f⟩:=a d c;grind
def bv.b9(a:bv X bs w)(d:∀g∈f,g∈X):bv f bs w:=
 λc b=>⟨(a c b).1,λe=>(a c b).2 (d _ e)⟩
def fR.F{f:List (Zb×Option aB)}(g:fR X a f w)(d:am e w c)(k:∀m∈e,m∈X)(l:a ∉ e):fR X a f c:=by
 obtain⟨n,bs,o,h,i,b,j⟩:=g;exact⟨n,bs,o,h.F d k,i,(d.G _ (ap b) l).trans b,j⟩
def fR.au{b:List (Zb×Option aB)}(d:fR X a b w)(e:Below w.heap.size w c):fR X a b c:=
 d.F (bh [] e) (by simp) (by simp)
theorem fR.aI{c:List (Zb×Option aB)}(d:fR X a c w)(g:w.heap.size<=b):fR (b::X) a c w:=by
 obtain⟨h,bs,i,e,f⟩:=d;exact⟨h,bs,i,e.aI g,f⟩
def fR.b9{b:List (Zb×Option aB)}(c:fR X a b w)(g:∀j∈f,j∈X):fR f a b w:=by
 obtain⟨h,bs,i,d,e⟩:=c;exact⟨h,bs,i,d.b9 g,e⟩
def fR.e7{f:List (Zb×Option aB)}(d:fR X a f w):∃c b,w.heap[a]? = some (.map c b):=by
 obtain⟨_,bs,g,_,_,e,_⟩:=d;exact⟨_,_,e⟩
end
section
variable {e:List Nat}{b:Nat}{f:Mar.aw}{nx:Option Mar.aT}{c d w1:Zw}{α g:Type}
structure Ad where
 R:Nat
 S:Nat
 N:Nat
 P:Nat
 X:List Nat
def Ad.aI(a:Ad)(b:Nat):Ad:={ a with X:=b::a.X }
structure St where
 m:Nat
 nx:Option Mar.aT
 L:Nat
 av:Nat
 A:List (Zb×Option aB)
 O:List (Int×Int)
structure Rd(A:Ad)(text:Za)(σ:St)(c:Zw):Prop where
 me:c.heap[A.R]? = some (.cells #[Zp A.S,.map (some A.N),U σ.L,U σ.av,.map (some A.P)] 151)
 sc:Sc A.S text σ.m σ.nx c
 nm:fR A.X A.N σ.A c
 aj:A.R∈A.X/\A.S∈A.X/\A.N∈A.X/\A.P∈A.X
 aY:∀x∈A.X,x<c.heap.size
 pr:c.heap[A.P]? = some (uV σ.O)
 np:A.N≠A.P
 gl:Gl c
 ev:text.size<=4000000000
 bp:σ.L<=1000000/\σ.av<=1000000
def Sc.at{S:Nat}{d:Za}{a:Nat}(b:Sc S d a nx c):∃g i h e f,gF S d a g i h e f c:=by
 obtain⟨_,b⟩:=b;grind
def Rd.b7{a:Ad}{f:Za}{g:St}(b:Rd a f g c):a.R≠a.S/\a.R≠a.N/\a.R≠a.P/\a.S≠a.N/\a.S≠a.P/\a.N≠a.P:=by
 obtain⟨o,q,p,h,k,e⟩:=b.sc.at;have n:c.heap[a.S]? = _:=e;have l:=b.me;obtain⟨j,i,m⟩:=b.nm.e7;have d:=b.pr;unfold uV at d;refine⟨?_,?_,?_,?_,?_,b.np⟩
 .grind
 all_goals grind
def Rd.lt{a:Ad}{f:Za}{g:St}(b:Rd a f g c):a.R<c.heap.size/\a.S<c.heap.size/\a.N<c.heap.size/\a.P<c.heap.size:=by
 obtain⟨l,n,m,h,k,e⟩:=b.sc.at;obtain⟨j,i,d⟩:=b.nm.e7;exact⟨ap b.me,ap e,ap d,ap b.pr⟩
def Rd.al{a:Ad}{f:Za}{b:St}(d:Rd a f b c) :
  c.cell? (Zd a.R 0)=some (Zp a.S)/\c.cell? (Zd a.R 1)=some (.map (some a.N))/\c.cell? (Zd a.R 2)=some (U b.L)/\
  c.cell? (Zd a.R 3)=some (U b.av)/\c.cell? (Zd a.R 4)=some (.map (some a.P))/\∀e,c.frozen? ⟨a.R,e,none⟩=false:=by
 have g:=d.me;simp_all[World.cell?,World.frozen?]
def Rd.au{e:Ad}{f:Za}{g:St}(a:Rd e f g c)(b:Below c.heap.size c d):Rd e f g d:=by
 obtain⟨i,l,m,j⟩:=a.lt;exact⟨(b.block _ i).trans a.me,a.sc.au b,a.nm.au b,a.aj,λk h=>Yr (a.aY k h) b.size,(b.block _ j).trans a.pr,a.np,a.gl.au b,a.ev,a.bp⟩
def Rd.kA{e:Ad}{f:Za}{h:St}(a:Rd e f h c)(b:am [e.S] c d){g:Nat}(i:Sc e.S f g nx d) :
  Rd e f { h with m:=g,nx:=nx } d:=by
 obtain⟨l,u,v,m⟩:=a.lt;obtain⟨x,y,z,A,B,C⟩:=a.b7;obtain⟨t,D,w,o,s,j⟩:=a.sc.at;obtain⟨p,q,r⟩:=j.g4 a.gl;exact⟨(b.G _ l (by grind)).trans a.me,i,a.nm.F b (by simp;exact a.aj.2.1) (by grind),a.aj,λn k=>Yr (a.aY n k) b.ar,(b.G _ m (by grind)).trans a.pr,a.np,
  a.gl.F b (by grind) (by grind) (by grind),a.ev,a.bp⟩
def Rd.F{A:Ad}{j:Za}{g:St}(a:Rd A j g c)(b:am e c d)(t:∀B∈e,B∈A.X)(p:A.R ∉ e)(q:A.S ∉ e)(r:A.N ∉ e)(s:A.P ∉ e)
  (m:2 ∉ e) (n:3 ∉ e) (o:4 ∉ e):Rd A j g d:=by
 obtain⟨x,y,E,z⟩:=a.lt;refine⟨(b.G _ x p).trans a.me,?_,a.nm.F b t r,a.aj,λk v=>Yr (a.aY k v) b.ar,(b.G _ z s).trans a.pr,a.np,a.gl.F b m n o,a.ev,a.bp⟩;obtain⟨u,f⟩:=a.sc;refine⟨u,?_⟩;have h:=b.G _ y q;cases i:g.nx with
 |some k=>rw[i]at f;exact h.trans f
 |none=>rw[i]at f;obtain⟨w,D,C,l,f⟩:=f;exact⟨w,D,C,l,h.trans f⟩
def qq{a A':Ad}{b:Za}{k h:St}(d:Rd a b k c)(j:A'.R=a.R/\A'.S=a.S/\A'.N=a.N/\A'.P=a.P)(i:Rd A' b h w1){p:Addr}(r:c.heap.size<=p.block)(q:p.block∈A'.X)(v:Zv):Rd A' b h (w1.setCell p v):=by
 obtain⟨s,t,u,w⟩:=d.lt;obtain⟨⟨x,e⟩,⟨_,_,f⟩,⟨_,_,g⟩⟩:=d.gl;have e:=lx e;have f:=lx f;have g:=lx g;obtain⟨l,m,n,o⟩:=j;refine i.F ((ak [p.block] w1).ay (by simp) v) (by simp_all) ?_ ?_ ?_ ?_ ?_ ?_ ?_<;>simp<;>omega
def Rd.a6{f:Ad}{g:Za}{h:St}(b:Rd f g h c)(e:Obj):Rd (f.aI c.heap.size) g h (c.alloc e):=by
 have a:=b.au ((Below.refl c.heap.size c).alloc (Y4 _) e);refine⟨a.me,a.sc,(b.nm.aI (Y4 _)).au ((Below.refl c.heap.size c).alloc (Y4 _) e),?_,?_,a.pr,a.np,a.gl,a.ev,a.bp⟩
 .obtain⟨i,j,k,l⟩:=b.aj;exact⟨Y5 _ i,Y5 _ j,Y5 _ k,Y5 _ l⟩
 .intro m d;simp only[Ad.aI,Yg]at d;rcases d with rfl|d
  .simp
  .have:=b.aY m d;simp;omega
def oR{a:Ad}{f:Za}{h:St}(i:a.R∈a.X/\a.S∈a.X/\a.N∈a.X/\a.P∈a.X)(d:Rd (a.aI b) f h c):Rd a f h c:=
 ⟨d.me,d.sc,d.nm.b9 (λg e=>Y5 _ e),i,λg e=>d.aY g (Y5 _ e),d.pr,d.np,d.gl,d.ev,d.bp⟩
abbrev PM(α:Type):=St->Except Mar.aw (α×St)
def dx(e:List Nat)(i:Ad)(k:Za)(c:Zw)(g:Except Mar.aw (α×St))(j:α->Zv)(b:Ending)(d:Zw):Prop:=
 am e c d/\((∃a h,g=.ok (a,h)/\b=.returned (j a)/\Rd i k h d)\/(∃f,g=.error f/\fa c f.no f.m b d))
def ft(d:Za):PM Mar.aT:=λa=>
 match dK d.data.toList a.m a.nx with
 |.ok (b,c)=>.ok (b,{ a with m:=c,nx:=some b })
 |.error f=>.error f
def next(c:Za):PM Mar.aT:=λa=>
 match dK c.data.toList a.m a.nx with
 |.ok (d,b)=>.ok (d,{ a with m:=b,nx:=none })
 |.error f=>.error f
def xT{a:Ad}{e:Za}{g:St}(b:Rd a e g c) :
  Calls prog 72 #[Zp a.S] c (dx [a.S] a e c (ft e g) cL):=by
 refine(zd a.S e g.m g.nx c b.sc b.gl b.ev).mono ?_;rintro m d ⟨h,⟨l,n,i,rfl,j⟩|⟨f,i,k⟩⟩
 .exact⟨h,Y8 ⟨l,_,by simp only[ft,i],rfl,b.kA h j⟩⟩
 .exact⟨h,Ya ⟨f,by simp only[ft,i],k⟩⟩
def pG{a:Ad}{e:Za}{g:St}(b:Rd a e g c) :
  Calls prog 118 #[Zp a.S] c (dx [a.S] a e c (next e g) cL):=by
 refine(Ey a.S e g.m g.nx c b.sc b.gl b.ev).mono ?_;rintro m d ⟨h,⟨l,n,i,rfl,j⟩|⟨f,i,k⟩⟩
 .exact⟨h,Y8 ⟨l,_,by simp only[next,i],rfl,b.kA h j⟩⟩
 .exact⟨h,Ya ⟨f,by simp only[next,i],k⟩⟩
def fQ(b:Za)(a:Zb):PM Bool:=λd=>
 match ft b d with
 |.ok (c,e)=>.ok (c.text==a,e)
 |.error f=>.error f
def HS(a b d e:Zv)(c:Zw):(Instr.field 154 (.agg #[a,b,d,e]) 0).run prog c=.ok a c:=by kernel_rfl
def HT(a b d e:Zv)(c:Zw):(Instr.field 154 (.agg #[a,b,d,e]) 1).run prog c=.ok b c:=by kernel_rfl
def Al(d b e a:Zv)(c:Zw):(Instr.field 154 (.agg #[d,b,e,a]) 3).run prog c=.ok a c:=by kernel_rfl
def Cq{a:Ad}{e:Za}{j:St}(i:Za)(g:Rd a e j c) :
  Calls prog 198 #[Zp a.R,.string i] c (dx [a.S] a e c (fQ e i.data.toList j) .bool):=by
 rw[<-ByteArray.toList_eq];obtain⟨p,q,r,s,t,v⟩:=g.al;have w:=HT;have k:=Z (xT g);go_in;go_wp2_with (go_at_call 72;refine k.j.mono ?_;rintro u w1 ⟨h,⟨x,o,d,rfl,n⟩|⟨f,d,b,l,rfl,m⟩⟩<;>(try dsimp only[cL]))
 .go_ret;exact⟨h,Y8 ⟨_,o,by simp only[fQ,d],rfl,n⟩⟩
 .exact aC ⟨h,Ya ⟨f,by simp only[fQ,d],b,l,rfl,m⟩⟩
def aF(c:PM α)(b:α->PM g):PM g:=λd=>
 match c d with
 |.ok (a,e)=>b a e
 |.error f=>.error f
def ret(a:α):PM α:=λb=>.ok (a,b)
def fi(b a:Nat):PM α:=λ_=>.error ⟨b,a⟩
theorem aE{m:PM α}{b:α->PM g}{c d:St}{a:α}(e:m c=.ok (a,d)):aF m b c=b a d:=by simp only[aF,e]
theorem bl{a:PM α}{d:α->PM g}{b:St}(c:a b=.error f):aF a d b=.error f:=by simp only[aF,c]
def cZ(a:Za)(b:Zb):PM Bool:=aF (fQ a b) λc=>if c then aF (next a) λ_=>ret true else ret false
theorem fl{f:Ad}{i:Za}{h:Except Mar.aw (α×St)}{g:α->Zv}{a:α}{b:St}{v:Zv}
  (k:am e c d) (l:h=.ok (a,b)) (m:v=g a) (j:Rd f i b d):dx e f i c h g (.returned v) d:=⟨k,Y8 ⟨a,b,l,by rw[m],j⟩⟩
def ee{M':List Nat}{g:Ad}{n:Za}{a:Except Mar.aw (α×St)}{h:α->Zv}
  (k:am e c d) (l:am M' c w1) (m:a=.error f) (i:w1.heap.size<=b) (j:d.heap[b]? = some (.cells #[U f.no,U f.m] 179)) :
  dx e g n c a h (.panicked [{ v:=.iface 143 (Zp b),recovered:=false }]) d:=
 ⟨k,Ya ⟨f,m,b,Yz l.ar i,rfl,j⟩⟩
def rV{g:Ad}{m:Za}{p:St}(l:Za)(s:Rd g m p c) :
  Calls prog 192 #[Zp g.R,.string l] c (dx [g.S] g m c (cZ m l.data.toList p) .bool):=by
 have q:=Z (Cq l s);go_in;go_wp2_with (first
  |(go_at_call 198;refine q.j.mono ?_;rintro r w1 ⟨a,⟨n,C,d,rfl,j⟩|⟨f,d,b,h,rfl,i⟩⟩;obtain⟨u,v,w,x,y,z⟩:=j.al)
  |(go_at_call 118;refine(pG j).mono ?_;rintro r A ⟨o,⟨B,D,k,rfl,t⟩|⟨f,k,b,h,rfl,i⟩⟩))
 .have e:n=false:=by simp_all
  subst e;go_ret;exact fl a (aE d) rfl j
 .have e:n=true:=by simp_all
  subst e;go_ret;exact fl (a.u o) ((aE d).trans (aE k)) rfl t
 .have e:n=true:=by simp_all
  subst e;exact aC (ee (a.u o) a ((aE d).trans (bl k)) h i)
 .exact aC (ee a (ak [] _) (bl d) h i)
def bY(c:Za)(b:Zb):PM Mar.aT:=aF (next c) λa=>if a.text==b then ret a else fi 3 a.m
def qI{e:Ad}{h:Za}{r:St}(n:Za)(g:Rd e h r c) :
  Calls prog 187 #[Zp e.R,.string n] c (dx [e.S] e h c (bY h n.data.toList r) cL):=by
 rw[<-ByteArray.toList_eq];obtain⟨M,N,O,P,a0,a1⟩:=g.al;have a3:=g.lt.1;have a5:=g.lt.2.1;have x:ac (∀m,Calls prog 118 #[Zp e.S] (c.alloc m) (dx [e.S] (e.aI c.heap.size) h (c.alloc m) (next h r) cL)):=λm=>pG (g.a6 m);have L:=Z g.b7;go_in;go_wp2_with (first
  |(go_at_call 118;refine(x.j _).mono ?_;rintro z w1 ⟨i,⟨j,K,l,rfl,t⟩|⟨f,l,b,A,rfl,B⟩⟩<;>(try dsimp only[cL]);have u:=(i.G c.heap.size (by simp) (by grind)).trans (aS rfl);obtain⟨F,G,H,I,a2⟩:=gC u;have w:=i.ar;simp at w;have C:c.heap.size<w1.heap.size:=w;have a4:¬c.heap.size=w1.heap.size:=(by omega);have o:=Z i;have s:=Z l;have y:=Z t;clear u i l t)
  |(go_at_call 70;refine(gR _ _ _).mono ?_;rintro z d ⟨rfl,rfl⟩))
 .have q:(j.text==n.toList)=false:=by simp_all
  refine aC (ee (M':=[e.S]) (w1:=w1) (f:=⟨3,j.m⟩) ((((ak _ _).B _).u o.j).B _ |>.B _) (((ak _ _).B _).u o.j) ((aE s.j).trans ?_) (by omega) (aS (by simp)));rw[q];rfl
 .have q:(j.text==n.toList)=true:=by simp_all
  refine bodyPost_ret (v:=cL j) (by simp[results,results187,go_sem,C,F,G,H,I]) rfl (fl (a:=j) ?_ ((aE s.j).trans (by rw[q];rfl)) rfl ?_)
  .exact((((((((ak _ _).B _).u o.j)).b2 (Y4 _) _).b2 (Y4 _) _).b2 (Y4 _) _).b2 (Y4 _) _).B _
  .have k:=λ{J:Zw} (D:Rd (e.aI c.heap.size) h K J) (E:Nat) (v:Zv)=>qq (A':=e.aI c.heap.size) g ⟨rfl,rfl,rfl,rfl⟩ D (p:=⟨c.heap.size,E,none⟩) (Y4 _) (by simp[Ad.aI]) v;exact oR g.aj ((k (k (k (k y.j 0 _) 1 _) 2 _) 3 _).au ((Below.refl _ _).alloc (Y4 _) _))
 .exact aC (ee (((ak _ _).B _).u i) ((ak [e.S] _).B _) (bl l) A B)
end
section
variable {a:Mar.aT}
def ie(b:Za)(a:Mar.aT):PM Ty:=
 if((a.C:Int)==1)then ret (.named a.text a.m)
 else if a.text==[105,110,116]then ret (.plain 0)
 else if a.text==[104,121,112,101,114]then ret (.plain 2)
 else if a.text==[98,111,111,108]then ret (.plain 4)
 else if a.text==[117,110,115,105,103,110,101,100]then
  aF (cZ b [104,121,112,101,114]) λc=>if c then ret (.plain 3)else aF (cZ b [105,110,116]) λ_=>ret (.plain 1)
 else fi 3 a.m
def lJ(a:Za):PM Ty:=aF (next a) (ie a)
def Ry{b:Za}(c:((a.C:Int)==1)=true):ie b a=ret (.named a.text a.m):=by simp_all[ie]
def Rz{b:Za}(c:((a.C:Int)==1)=false)(d:(a.text==[105,110,116])=true):ie b a=ret (.plain 0):=by simp_all[ie]
def RA{b:Za}(c:((a.C:Int)==1)=false)(d:(a.text==[105,110,116])=false)(e:(a.text==[104,121,112,101,114])=true):ie b a=ret (.plain 2):=by simp_all[ie]
def RB{b:Za}(c:((a.C:Int)==1)=false)(d:(a.text==[105,110,116])=false)(e:(a.text==[104,121,112,101,114])=false)(f:(a.text==[98,111,111,108])=true):ie b a=ret (.plain 4):=by simp_all[ie]
theorem vJ{b:Za}(d:((a.C:Int)==1)=false)(e:(a.text==[105,110,116])=false)(f:(a.text==[104,121,112,101,114])=false)(g:(a.text==[98,111,111,108])=false)(h:(a.text==[117,110,115,105,103,110,101,100])=true) :
  ie b a=aF (cZ b [104,121,112,101,114]) λc=>if c then ret (.plain 3)else aF (cZ b [105,110,116]) λ_=>ret (.plain 1):=by simp_all[ie]
def RC{b:Za}(c:((a.C:Int)==1)=false)(d:(a.text==[105,110,116])=false)(e:(a.text==[104,121,112,101,114])=false)(f:(a.text==[98,111,111,108])=false)(g:(a.text==[117,110,115,105,103,110,101,100])=false) :
  ie b a=fi 3 a.m:=by simp_all[ie]
def yA(a:Mar.aT)(b:Zw) :
  Calls prog 243 #[cL a] b λc d=>c=.returned (.agg #[Zs a.text,U a.m])/\Below b.heap.size b d:=by
 dsimp only[cL];go_in;go_wp2;exact bodyPost_ret (v:=.agg #[Zs a.text,U a.m]) (by simp[results,results243,go_sem]) rfl ⟨rfl,((Below.refl _ _).alloc (Y4 _) _).alloc (by simp) _⟩
def Dw{d:Ad}{o:Za}{z:St}{p:Zw}(s:Rd d o z p) :
  Calls prog 249 #[Zp d.R] p (dx [d.S] d o p (lJ o z) bj):=by
 obtain⟨C,D,E,F,G,H⟩:=s.al;have A:=Z (pG s);go_in;go_wp2_with (first
  |(go_at_call 118;refine A.j.mono ?_;rintro j y ⟨m,⟨a,N,k,rfl,v⟩|⟨l,k,r,f,rfl,g⟩⟩<;>(try dsimp only[cL]);have b:=Z m;have c:=Z k;have e:=Z v;clear m k v)
  |(go_at_call 243;refine(yA a _).mono ?_;rintro j J ⟨rfl,t⟩)
  |(go_at_call 70;refine(gR _ _ _).mono ?_;rintro j I ⟨rfl,rfl⟩)
  |(go_at_call_of 192 (Value.string { data:=#[104,121,112,101,114] });refine(rV _ (e.j.au ((Below.refl _ _).alloc (Y4 _) _))).mono ?_;rintro j K ⟨h,⟨q,O,n,rfl,w⟩|⟨l,n,r,f,rfl,g⟩⟩)
  |(go_at_call_of 192 (Value.string { data:=#[105,110,116] });refine(rV _ w).mono ?_;rintro j L ⟨u,⟨M,P,x,rfl,B⟩|⟨l,x,r,f,rfl,g⟩⟩))
 .go_ret;exact fl ((b.j.B _).u (bh _ t)) ((aE c.j).trans (by rw[Ry ‹_›];rfl)) rfl ((e.j.au ((Below.refl _ _).alloc (Y4 _) _)).au t)
 .go_ret;exact fl (b.j.B _) ((aE c.j).trans (by rw[Rz ‹_› ‹_›];rfl)) rfl (e.j.au ((Below.refl _ _).alloc (Y4 _) _))
 .go_ret;exact fl (b.j.B _) ((aE c.j).trans (by rw[RA ‹_› ‹_› ‹_›];rfl)) rfl (e.j.au ((Below.refl _ _).alloc (Y4 _) _))
 .go_ret;exact fl (b.j.B _) ((aE c.j).trans (by rw[RB ‹_› ‹_› ‹_› ‹_›];rfl)) rfl (e.j.au ((Below.refl _ _).alloc (Y4 _) _))
 .have i:q=true:=‹_›;subst i;go_ret;exact fl ((b.j.B _).u h) ((aE c.j).trans (by rw[vJ ‹_› ‹_› ‹_› ‹_› ‹_›];exact aE n)) rfl w
 .have i:q=false:=‹_›;subst i;go_ret;exact fl (((b.j.B _).u h).u u) ((aE c.j).trans (by rw[vJ ‹_› ‹_› ‹_› ‹_› ‹_›];exact(aE n).trans (aE x))) rfl B
 .have i:q=false:=‹_›;subst i;exact aC (ee (((b.j.B _).u h).u u) ((b.j.B _).u h) ((aE c.j).trans (by rw[vJ ‹_› ‹_› ‹_› ‹_› ‹_›];grind [aE,bl])) f g)
 .exact aC (ee ((b.j.B _).u h) (b.j.B _) ((aE c.j).trans (by simp_all[vJ,bl])) f g)
 .exact aC (ee (M':=[d.S]) (w1:=y) (f:=⟨3,a.m⟩) ((b.j.B _).B _) b.j ((aE c.j).trans (by rw[RC ‹_› ‹_› ‹_› ‹_› ‹_›];rfl)) (by omega) (aS (by simp)))
 .exact aC (ee m (ak [] _) (bl k) f g)
end
section
variable {c:Ad}{d:Zw}{b:St}
def hK(a:Nat):PM Unit:=λb=>if 24<=b.L then .error ⟨5,a⟩else .ok ((),{ b with L:=b.L+1 })
def hJ(a:Nat):PM Unit:=λb=>if 40<=b.av then .error ⟨5,a⟩else .ok ((),{ b with av:=b.av+1 })
abbrev oI:Unit->Zv:=λ_=>.tuple #[]
def Rd.kd{e:Za}(a:Rd c e b d):2≠c.R/\3≠c.R/\4≠c.R:=by
 obtain⟨f,_⟩:=a.al;obtain⟨⟨j,g⟩,⟨_,_,h⟩,⟨_,_,i⟩⟩:=a.gl;grind
def Rd.hr{j:Za}(a:Rd c j b d)(x:b.L<24) :
  Rd c j { b with L:=b.L+1 } (d.setCell ⟨c.R,2,none⟩ (U ((b.L+1:Nat):Int))):=by
 obtain⟨y,q,z,r⟩:=a.lt;obtain⟨A,B,C,D,E,F⟩:=a.b7;have f:am [c.R] d (d.setCell ⟨c.R,2,none⟩ (U ((b.L+1:Nat):Int))):=(ak [c.R] d).ay (p:=⟨c.R,2,none⟩) (by simp) _;refine⟨bu (i:=2) a.me _,?_,a.nm.F f (by simp;exact a.aj.1) (by grind),a.aj,λk n=>Yr (a.aY k n) f.ar,
  (f.G _ r (by grind)).trans a.pr,a.np,?_,a.ev,?_⟩
 .obtain⟨m,e⟩:=a.sc;have g:=f.G _ q (by grind);refine⟨m,?_⟩;cases h:b.nx with
  |some k=>rw[h]at e;exact g.trans e
  |none=>rw[h]at e;obtain⟨o,t,s,l,e⟩:=e;exact⟨o,t,s,l,g.trans e⟩
 .obtain⟨u,v,w⟩:=a.kd;exact a.gl.F f (by grind) (by grind) (by grind)
 .exact⟨by grind,a.bp.2⟩
def Rd.nK{j:Za}(a:Rd c j b d)(x:b.av<40) :
  Rd c j { b with av:=b.av+1 } (d.setCell ⟨c.R,3,none⟩ (U ((b.av+1:Nat):Int))):=by
 obtain⟨y,q,z,r⟩:=a.lt;obtain⟨A,B,C,D,E,F⟩:=a.b7;have f:am [c.R] d (d.setCell ⟨c.R,3,none⟩ (U ((b.av+1:Nat):Int))):=(ak [c.R] d).ay (p:=⟨c.R,3,none⟩) (by simp) _;refine⟨bu (i:=3) a.me _,?_,a.nm.F f (by simp;exact a.aj.1) (by grind),a.aj,λk n=>Yr (a.aY k n) f.ar,
  (f.G _ r (by grind)).trans a.pr,a.np,?_,a.ev,?_⟩
 .obtain⟨m,e⟩:=a.sc;have g:=f.G _ q (by grind);refine⟨m,?_⟩;cases h:b.nx with
  |some k=>rw[h]at e;exact g.trans e
  |none=>rw[h]at e;obtain⟨o,t,s,l,e⟩:=e;exact⟨o,t,s,l,g.trans e⟩
 .obtain⟨u,v,w⟩:=a.kd;exact a.gl.F f (by grind) (by grind) (by grind)
 .exact⟨a.bp.1,by grind⟩
def uN{j:Za}(e:Nat)(g:Rd c j b d) :
  Calls prog 190 #[Zp c.R,U e] d (dx [c.R] c j d (hK e b) oI):=by
 obtain⟨q,r,s,t,u,w⟩:=g.al;have v:=g.bp;by_cases i:24<=b.L
 .have h:(24:Int)<=b.L:=by omega
  go_in;go_wp2_with (go_at_call 201;refine(pJ _ _ _ _ h).mono ?_;rintro k o ⟨⟨p,m,rfl,n⟩,l⟩);exact aC (ee (f:=⟨5,e⟩) (bh _ l) (ak [] _) (by rw[hK,Y9 i]) m n)
 .have h:¬(24:Int)<=b.L:=by omega
  go_in;go_wp2_with (go_at_call 201;refine(pK _ _ _ _ h).mono ?_;rintro k o ⟨rfl,rfl⟩);go_end0;refine fl (a:=()) ((ak _ _).ay (by simp) _) (by rw[hK,Y2 i]) rfl ?_;exact g.hr (by omega)
def Bx{j:Za}(e:Nat)(g:Rd c j b d) :
  Calls prog 184 #[Zp c.R,U e] d (dx [c.R] c j d (hJ e b) oI):=by
 obtain⟨q,r,s,t,u,w⟩:=g.al;have v:=g.bp;by_cases i:40<=b.av
 .have h:(40:Int)<=b.av:=by omega
  go_in;go_wp2_with (go_at_call 201;refine(pJ _ _ _ _ h).mono ?_;rintro k o ⟨⟨p,m,rfl,n⟩,l⟩);exact aC (ee (f:=⟨5,e⟩) (bh _ l) (ak [] _) (by rw[hJ,Y9 i]) m n)
 .have h:¬(40:Int)<=b.av:=by omega
  go_in;go_wp2_with (go_at_call 201;refine(pK _ _ _ _ h).mono ?_;rintro k o ⟨rfl,rfl⟩);go_end0;refine fl (a:=()) ((ak _ _).ay (by simp) _) (by rw[hJ,Y2 i]) rfl ?_;exact g.nK (by omega)
end
end Go.Proofs.YtjdhaegijjednaaGreatDoor
namespace Go.Proofs.YtjdhaegijjednaaGreatDoor
open Go.RowKit
open Go.MapKept
open Go.Proofs.Tryz
section
variable {b e:Nat}{T et kt:TypeId}{d:TypeDesc}{a:Array MapEntry}{c:Type}
section
variable {P : Program} {w : Zw}
def sx(q:P.underlying T=some (.map kt et))(i:P.underlying kt=some d){k:Zv}(p:IsKey d k)
  (n:w.heap[b]? = some (.map a e)) (t:∀l∈a.toList,IsKey d l.key) {m:Zv} (u:(zeroValue et).run P w=.ok m w) (c:Bool) :
  ((∀l∈a.toList,l.key≠k)/\(Instr.lookup T (.map (some b)) k c).run P w=.ok (if c then .tuple #[m,.bool false]else m) w)\/
  (∃(j:Nat) (f:MapEntry),a.toList[j]? = some f/\f.key=k/\(Instr.lookup T (.map (some b)) k c).run P w=.ok (if c then .tuple #[f.val,.bool true]else f.val) w):=by
 have o:=λr=>MapKept.run_checkKey (w:=w) i p r 9999;rcases findNow_spec p a.toList 0 t with⟨g,h⟩|⟨j,f,g,h,s⟩
 .refine Y8 ⟨h,?_⟩;cases c<;>simp[Instr.lookup,Instr.findKey,run_underlying q,run_underlying i,MapKept.run_getObj_map n,o,g,u,Result.andThen]
 .refine Ya ⟨j,f,h,s,?_⟩;cases c<;>simp[Instr.lookup,Instr.findKey,run_underlying q,run_underlying i,MapKept.run_getObj_map n,o,g,Result.andThen]
def ve(o:P.underlying T=some (.map kt et))(h:P.underlying kt=some d){k:Zv}(i:IsKey d k)
  (g:w.heap[b]? = some (.map a e)) (n:∀c∈a.toList,IsKey d c.key) (r:∀c∈a.toList,c.key≠k) (v:Zv) :
  (Instr.mapUpdate T (.map (some b)) k v).run P w=.ok () { w with heap:=w.heap.setIfInBounds b (.map (a.push ⟨k,v,e⟩) (e+1)) }:=by
 have m:=λj=>MapKept.run_checkKey (w:=w) h i j 9999;rcases findNow_spec i a.toList 0 n with⟨f,l⟩|⟨s,p,f,l,q⟩
 .simp[Instr.mapUpdate,Instr.findKey,run_underlying o,run_underlying h,MapKept.run_getObj_map g,m,f,MapKept.run_setObj_map _ g,Result.andThen]
 grind
end
def aL(b:List (Zb×c))(a:Zb):Option c:=(b.find? λd=>d.1==a).map (·.2)
def JZ{b:List (Zb×c)}{a:Zb}(e:∀d∈b,d.1≠a):aL b a=none:=by
 grind [aL]
theorem xq{a:List (Zb×c)}{d:Zb}(f:(a.map (·.1)).Nodup){b:Zb×c}(g:b∈a)(e:b.1=d):aL a d=some b.2:=by
 induction a with
 |nil=>grind
 |cons i j h=>
  grind [aL]
def qQ(e:List (Zb×Zv)):∀c∈(e.mapIdx λa b=>(⟨.string ⟨b.1.toArray⟩,b.2,a⟩:MapEntry)),IsKey .string c.key:=by
 intro c d;obtain⟨a,f,rfl⟩:=List.mem_mapIdx.1 d;trivial
end
def uL{l:List Nat}{j:Nat}{c:List (Zb×Option aB)}{b:Zw}(q:fR l j c b)(g:Zb)(f:Bool) :
  (aL c g=none/\(Instr.lookup 148 (.map (some j)) (Zs g) f).run prog b=.ok (if f then .tuple #[.nilIface,.bool false]else .nilIface) b)\/
  (∃o v k,aL c g=some o/\bv l k b/\iH k v o/\(Instr.lookup 148 (.map (some j)) (Zs g) f).run prog b=.ok (if f then .tuple #[v,.bool true]else v) b):=by
 obtain⟨G,k,h,x,y,r,z⟩:=q;have s:IsKey .string (Zs g):=trivial;have A:=qQ (c.zip h |>.map λa=>(a.1.1,a.2));have u:(zeroValue 157).run prog b=.ok .nilIface b:=by kernel_rfl
 rcases sx (P:=prog) (T:=148) (kt:=9) (et:=157) (d:=.string) (by kernel_rfl) (by kernel_rfl) s r (by omega) u f with⟨i,m⟩|⟨n,p,i,m,w⟩
 .refine Y8 ⟨JZ ?_,m⟩;intro a t p;obtain⟨e,B,rfl⟩:=List.getElem_of_mem t;have C:e<h.length:=by omega
  have F:(⟨.string ⟨c[e].1.toArray⟩,h[e],e⟩:MapEntry)∈((c.zip h |>.map λa=>(a.1.1,a.2)).mapIdx λe a=>(⟨.string ⟨a.1.toArray⟩,a.2,e⟩:MapEntry)).toArray.toList:=by
   grind
  grind
 .simp only[List.toList_toArray,List.getElem?_mapIdx]at i;have D:n<c.length:=by
   grind
  have E:n<h.length:=by omega
  rw[Yd (by simp_all)]at i;simp at i;grind [xq]
def iP(a:Mar.aT):PM Int:=λb=>
 match aL b.A a.text with
 |some (some (.const _ _ v))=>.ok (v,b)
 |_=>.error ⟨7,a.m⟩
abbrev hY:Int->Zv:=λa=>U a
theorem Df(a:Zw):(Instr.typeAssert .nilIface 157 223 true).run prog a=.ok (.tuple #[.pointer none,.bool false]) a:=by kernel_rfl
def QM(a:Zv)(b:Zw):(Instr.typeAssert (.iface 223 a) 157 223 true).run prog b=.ok (.tuple #[a,.bool true]) b:=by kernel_rfl
theorem QL(c:aB)(f:Zv)(d:Zw)(h:∀b a v,c≠.const b a v):(Instr.typeAssert (.iface (cA c) f) 157 223 true).run prog d=.ok (.tuple #[.pointer none,.bool false]) d:=by
 cases c with
 |const b a v=>simp_all
 |typedef c=>kernel_rfl
 |enum b a e=>kernel_rfl
 |struct b a e=>kernel_rfl
 |union b a j g=>kernel_rfl
 |prog b a k i=>kernel_rfl
def Gw{d:Ad}{u:Za}{h:St}(a:Mar.aT){w:Zw}(l:Rd d u h w) :
  Calls prog 267 #[Zp d.R,cL a] w (dx [] d u w (iP a h) hY):=by
 have m:=((Below.refl w.heap.size w).alloc (Y4 _) (.cells #[U a.C,Zs a.text,U a.n,U a.m] 154)).drew;obtain⟨o,p,G,H,I,L⟩:=l.al;have M:=l.lt.1;have i:=l.au m;have key:(∃v,(Instr.lookup 148 (.map (some d.N)) (Zs a.text) false).run prog ((w.alloc (.cells #[U a.C,Zs a.text,U a.n,U a.m] 154)).drew)=.ok v ((w.alloc (.cells #[U a.C,Zs a.text,U a.n,U a.m] 154)).drew)/\
    (∀n,(Instr.typeAssert v 157 223 true).run prog n=.ok (.tuple #[.pointer none,.bool false]) n)/\iP a h=.error ⟨7,a.m⟩)\/
   (∃(c:Nat) (o p:Zv) (b:Int),(Instr.lookup 148 (.map (some d.N)) (Zs a.text) false).run prog ((w.alloc (.cells #[U a.C,Zs a.text,U a.n,U a.m] 154)).drew)=.ok (.iface 223 (Zp c)) ((w.alloc (.cells #[U a.C,Zs a.text,U a.n,U a.m] 154)).drew)/\
    (w.alloc (.cells #[U a.C,Zs a.text,U a.n,U a.m] 154)).heap[c]? = some (.cells #[o,p,U b] 343)/\iP a h=.ok (b,h)):=by
  rcases uL i.nm a.text false with⟨s,g⟩|⟨D,v,F,s,B,r,g⟩
  .simp_all[Df,iP]
  .simp only[Ye,if_false]at g
   cases D with
   |none=>
    have O:v=.nilIface:=r;grind [Df,iP]
   |some y=>
    obtain⟨c,rfl,A⟩:=r;by_cases z:∃t k b,y=.const t k b
    .obtain⟨t,k,b,rfl⟩:=z;exact Ya ⟨c,_,_,b,g,(B _ A).1,by simp only[iP,s]⟩
    simp_all[QL,iP]
 rcases key with⟨v,g,C,e⟩|⟨c,P,S,b,g,q,e⟩
 .have j:=Z e;clear e i m;dsimp only[cL];go_in;go_wp2;go_region;go_wp2_with (go_at_call 70;refine(gR _ _ _).mono ?_;rintro J a0 ⟨rfl,rfl⟩);exact aC (ee (M':=[]) (w1:=w) (f:=⟨7,a.m⟩) (((ak _ _).B _).B _).aq (ak _ _) j.j (by omega) (aS (w:=w.alloc _) (by simp)))
 .have j:=Z e;have C:=λE=>QM E;have K:(w.alloc (.cells #[U a.C,Zs a.text,U a.n,U a.m] 154)).cell? (Zd c 2)=some (U b):=by simp[World.cell?,q]
  have x:=Z i;clear e i m q;dsimp only[cL];go_in;go_wp2;go_region;go_wp2;go_ret;exact fl (a:=b) (((ak _ _).B _).aq) j.j rfl x.j
end Go.Proofs.YtjdhaegijjednaaGreatDoor
namespace Go.Proofs.YtjdhaegijjednaaGreatDoor
open Go.RowKit
open Go.Proofs.Tryz
section
variable {a:Mar.aT}
def hD(a:Mar.aT):PM Int:=
 if((a.C:Int)==3)then ret a.n
 else if((a.C:Int)==1)then iP a
 else if a.text==[84,82,85,69]then ret 1
 else if a.text==[70,65,76,83,69]then ret 0
 else fi 3 a.m
def Kd(b:((a.C:Int)==3)=true):hD a=ret a.n:=by unfold hD;simp_all
theorem AY(b:((a.C:Int)==3)=false)(c:((a.C:Int)==1)=true):hD a=iP a:=by simp_all[hD]
def Ke(b:((a.C:Int)==3)=false)(c:((a.C:Int)==1)=false)(d:(a.text==[84,82,85,69])=true):hD a=ret 1:=by simp_all[hD]
def Kf(b:((a.C:Int)==3)=false)(c:((a.C:Int)==1)=false)(d:(a.text==[84,82,85,69])=false)(e:(a.text==[70,65,76,83,69])=true):hD a=ret 0:=by simp_all[hD]
def Kg(b:((a.C:Int)==3)=false)(c:((a.C:Int)==1)=false)(d:(a.text==[84,82,85,69])=false)(e:(a.text==[70,65,76,83,69])=false):hD a=fi 3 a.m:=by simp_all[hD]
def Kh{d:Ad}{g:Za}{h:St}(a:Mar.aT){b:Zw}(c:Rd d g h b) :
  Calls prog 245 #[Zp d.R,cL a] b (dx [] d g b (hD a h) hY):=by
 have e:=Z (λo=>Gw a (c.au ((Below.refl b.heap.size b).alloc (Y4 _) o)));dsimp only[cL]at e ⊢;go_in;go_wp2_with (first
  |(go_at_call 70;refine(gR _ _ _).mono ?_;rintro i s ⟨rfl,rfl⟩)
  |(go_at_call 267;refine(e.j _).mono ?_;rintro i p ⟨f,⟨r,t,n,rfl,m⟩|⟨j,n,q,k,rfl,l⟩⟩))
 .go_ret;exact fl ((ak _ _).B _) (by rw[Kd ‹_›];rfl) rfl (c.au ((Below.refl _ _).alloc (Y4 _) _))
 .go_ret;exact fl (((ak _ _).B _).u f) (by simp_all[AY]) rfl m
 .exact aC (ee (((ak _ _).B _).u f) ((ak [] _).B _) (by simp_all[AY]) k l)
 .go_ret;exact fl ((ak _ _).B _) (by rw[Ke ‹_› ‹_› ‹_›];rfl) rfl (c.au ((Below.refl _ _).alloc (Y4 _) _))
 .go_ret;exact fl ((ak _ _).B _) (by rw[Kf ‹_› ‹_› ‹_› ‹_›];rfl) rfl (c.au ((Below.refl _ _).alloc (Y4 _) _))
 .exact aC (ee (M':=[]) (w1:=b) (f:=⟨3,a.m⟩) (((ak _ _).B _).B _) (ak _ _) (by rw[Kg ‹_› ‹_› ‹_› ‹_›];rfl) (by omega) (aS (by simp)))
end
def gD(c:List Nat)(v:Zv)(i:Int->Bool)(j:Zw):Prop:=
 ∃(d:Zo) (b:Nat) (g f:Array Zv),v=.func (.func b) g f/\bv c d j/\(∀args a,(callFunc b args).run prog a=.ok (.enter b args) a)/\
  ∀a,bv c d a->∀e:Int,Calls prog b (g.push (U e)++f) a λh k=>h=.returned (.bool (i e))/\Below a.heap.size a k
def hd(d:Za)(c:Int->Bool):PM (Int×Nat):=aF (next d) λa=>aF (hD a) λb=>if c b then ret (b,a.m)else fi 8 a.m
abbrev sQ:Int×Nat->Zv:=λa=>.tuple #[U a.1,U a.2]
def DB{b:Ad}{w:Za}{A:St}{v:Zv}{i:Int->Bool}{j:Zw}(n:Rd b w A j)(I:gD b.X v i j) :
  Calls prog 188 #[Zp b.R,v] j (dx [b.S] b w j (hd w i A) sQ):=by
 obtain⟨a0,a1,a2,a3,a4,a6⟩:=n.al;obtain⟨P,m,a9,a8,rfl,J,a5,H⟩:=I;have D:=Z J;have C:=Z H;have B:=Z (pG n);go_in;go_wp2_with (first
  |(go_at_call 118;refine B.j.mono ?_;rintro f d ⟨r,⟨c,b5,h,rfl,y⟩|⟨m,h,G,p,rfl,q⟩⟩<;>(try dsimp only[cL]);have e:=Z r;have l:=Z h;have E:=Z y;clear r h y)
  |(go_at_call 245;refine(Kh c (E.j.au ((Below.refl _ _).alloc (Y4 _) _))).mono ?_;rintro f b4 ⟨g,⟨u,b6,t,rfl,L⟩|⟨m,t,G,p,rfl,q⟩⟩<;>(try dsimp only[hY]))
  |(go_at_call 70;refine(gR _ _ _).mono ?_;rintro f N ⟨rfl,rfl⟩))
 .have K:=(D.j.F e.j (by simp;exact n.aj.2.1)).F (bh [] ((Below.refl d.heap.size d).alloc (Y4 _) (.cells #[U c.C,Zs c.text,U c.n,U c.m] 154))) (by simp) |>.F g (by simp);refine(C.j _ K _).mono ?_;rintro f O ⟨rfl,o⟩;have z:=(g.G d.heap.size (by simp) (by simp)).trans (aS rfl);have M:=(o.block d.heap.size (ap z)).trans z;obtain⟨b0,b1,b2,b3,a7⟩:=gC M;have k:=Z (((e.j.B _).u (g.K (by simp))).u (bh [b.S] o));have F:=Z (L.au o);have x:=Z t;go_wp2_with (go_at_call 70;refine(gR _ _ _).mono ?_;rintro f N ⟨rfl,rfl⟩)
  .have s:i u=false:=by simp_all
   refine aC (ee (M':=[b.S]) (w1:=O) (f:=⟨8,c.m⟩) (k.j.B _) k.j ((aE l.j).trans ((aE x.j).trans ?_)) (Y4 _) (aS rfl));rw[s];rfl
  .have s:i u=true:=by simp_all
   go_region;go_wp2;go_ret2;exact fl (a:=(u,c.m)) k.j.aq ((aE l.j).trans ((aE x.j).trans (by rw[s];rfl))) rfl (F.j.au ((Below.refl _ _).drew))
 .exact aC (ee ((e.j.B _).u (g.K (by simp))) (e.j.B _) ((aE l.j).trans (bl t)) p q)
 .exact aC (ee r (ak [] _) (bl h) p q)
section
variable {A A':Ad}{d:List Nat}{p:Int->Bool}{w:Zw}{c:St}
def df(c b:Int):Int->Bool:=λa=>decide (c<=a)&&decide (a<=b)
def Sq(d c e:Int)(b a:Nat)(w:Zw)(i:w.cell? (Zd b 0)=some (U d))(h:w.cell? (Zd a 0)=some (U c)) :
  Calls prog 246 #[U e,Zp b,Zp a] w λf g=>f=.returned (.bool (df d c e))/\Below w.heap.size w g:=by
 go_in;go_wp2;all_goals
  go_ret
  refine⟨kU ?_,Below.refl _ _⟩
  unfold df
  simp
  try omega
def Sr(args:Array Zv)(w:Zw):(callFunc 246 args).run prog w=.ok (.enter 246 args) w:=by kernel_rfl
def pZ(b a:Int)(w:Zw) :
  Calls prog 189 #[U b,U a] w λh f=>∃v,h=.returned v/\Below w.heap.size w f/\∀c:List Nat,(∀k∈c,k<w.heap.size)->gD c v (df b a) f:=by
 have o:=iT;go_in;go_wp2;go_ret;refine⟨.func (.func 246) #[] #[Zp w.heap.size,.pointer (some ⟨w.heap.size+1,0,none⟩)],rfl,((Below.refl _ _).alloc (Y4 _) _).alloc (by simp) _,?_⟩;intro c n;refine⟨[(w.heap.size,.cells #[U b] 2),(w.heap.size+1,.cells #[U a] 2)],_,_,_,rfl,?_,Sr,?_⟩
 .intro p e;simp at e;rcases e with rfl|rfl
  .exact⟨(Below.heap_alloc _ _ _ (by simp)).trans (aS rfl),λi=>by grind⟩
  .exact⟨aS (by simp),λi=>by grind⟩
 .intro g d j;have l:=(d _ (Yb ..)).1;have m:=(d _ (Y5 _ (Yb ..))).1;exact Sq b a j _ _ g (by grind [World.cell?]) (by grind [World.cell?])
abbrev mT:Int×Bool->Zv:=λa=>.agg #[U a.1,.bool a.2]
def lz(a:Za):PM (Int×Bool):=aF (bY a [60]) λ_=>aF (cZ a [62]) λc=>
 if c then ret (4294967295,false)else aF (hd a (df 0 4294967295)) λb=>aF (bY a [62]) λ_=>ret (b.1,false)
def gD.F{a:List Nat}{v:Zv}{b:Zw}(f:gD a v p w)(k:am d w b)(g:∀m∈d,m∈a):gD a v p b:=by
 obtain⟨c,e,o,n,l,j,i,h⟩:=f;exact⟨c,e,o,n,l,j.F k g,i,h⟩
def ew(A' A:Ad):Prop:=A'.R=A.R/\A'.S=A.S/\A'.N=A.N/\A'.P=A.P
theorem ex(A:Ad)(b:Nat):ew (A.aI b) A:=⟨rfl,rfl,rfl,rfl⟩
def ff(d:ew A' A){b:Za}(a:Za)(e:Rd A' b c w) :
  Calls prog 187 #[Zp A.R,.string a] w (dx [A.S] A' b w (bY b a.data.toList c) cL):=by
 have:=qI a e;rw[d.1,d.2.1]at this;exact this
def mN(d:ew A' A){b:Za}(a:Za)(e:Rd A' b c w) :
  Calls prog 192 #[Zp A.R,.string a] w (dx [A.S] A' b w (cZ b a.data.toList c) .bool):=by
 have:=rV a e;rw[d.1,d.2.1]at this;exact this
def yE(b:ew A' A){a:Za}{v:Zv}(d:Rd A' a c w)(e:gD A'.X v p w) :
  Calls prog 188 #[Zp A.R,v] w (dx [A.S] A' a w (hd a p c) sQ):=by
 have:=DB d e;rw[b.1,b.2.1]at this;exact this
def kC{a:Nat}{b c:Zv}{d:TypeId}(f:w.heap[a]? = some (.cells #[b,c] d)) :
  w.cell? (Zd a 0)=some b/\w.cell? (Zd a 1)=some c/\∀e,w.frozen? ⟨a,e,none⟩=false:=by
 grind [World.cell?,World.frozen?]
def sj{c:Za}{l e:St}{a:Zw}(f:Rd A c l w)(i:am d w a)(m:Rd (A.aI w.heap.size) c e a)(g h:Zv) :
  am d w ((a.setCell ⟨w.heap.size,0,none⟩ g).setCell ⟨w.heap.size,1,none⟩ h)/\Rd A c e ((a.setCell ⟨w.heap.size,0,none⟩ g).setCell ⟨w.heap.size,1,none⟩ h):=by
 refine⟨(i.b2 (Y4 _) _).b2 (Y4 _) _,oR (b:=w.heap.size) f.aj ?_⟩;have n:=λ{a:Zw} (j:Rd (A.aI w.heap.size) c e a) (k:Nat) (v:Zv)=>qq (A':=A.aI w.heap.size) f ⟨rfl,rfl,rfl,rfl⟩ j (p:=⟨w.heap.size,k,none⟩) (Y4 _) (by simp[Ad.aI]) v;simp_all
def Lh{H:Za}(h:Rd A H c w) :
  Calls prog 248 #[Zp A.R] w (dx [A.S] A H w (lz H c) mT):=by
 have a8:=h.lt.2.1;have i:w.heap.size ∉ [A.S]:=by grind
 have J:=aS (w:=w) (o:=.cells #[U 0,.bool false] 375) rfl;have O:=h.a6 (.cells #[U 0,.bool false] 375);have u:=(ak [A.S] w).B (.cells #[U 0,.bool false] 375);go_in;go_wp2_with fail;refine(ff (ex A _) _ O).mono ?_;rintro g a9 ⟨x,⟨b4,b6,e,rfl,a3⟩|⟨l,e,k,b,rfl,d⟩⟩;rotate_left
 .exact aC (ee (u.u x) u (bl e) b d)
 have K:=(x.G _ (ap J) i).trans J;have p:=u.u x;go_wp2_with fail;refine(mN (ex A _) _ a3).mono ?_;rintro g b0 ⟨y,⟨a7,b7,f,rfl,C⟩|⟨l,f,k,b,rfl,d⟩⟩;rotate_left
 .exact aC (ee (p.u y) p ((aE e).trans (bl f)) b d)
 have s:=(y.G _ (ap K) i).trans K;have I:=p.u y;obtain⟨F,G,a2⟩:=kC s;cases a7 with
 |true=>
  go_wp2;obtain⟨m,n⟩:=sj h I C (U 4294967295) (.bool false);exact bodyPost_ret (v:=.agg #[U 4294967295,.bool false]) (by simp[results,results248,go_sem,F,G]) rfl (fl (a:=(4294967295,false)) m ((aE e).trans (aE f)) rfl n)
 |false=>
  go_wp2_with fail;refine(pZ _ _ _).mono ?_;rintro g b1 ⟨v,rfl,t,a0⟩;have a1:=a0 (A.aI w.heap.size).X C.aY;have a4:=C.au t;have q:=I.u (bh [A.S] t);have L:=(t.block _ (ap s)).trans s;go_wp2_with fail;refine(yE (ex A _) a4 a1).mono ?_;rintro g b2 ⟨z,⟨E,b8,j,rfl,a5⟩|⟨l,j,k,b,rfl,d⟩⟩;rotate_left
  .exact aC (ee (q.u z) q ((aE e).trans ((aE f).trans (bl j))) b d)
  have r:=q.u z;have M:=(z.G _ (ap L) i).trans L;dsimp only[sQ];go_wp2_with fail;refine(ff (ex A _) _ a5).mono ?_;rintro g b3 ⟨B,⟨b5,b9,D,rfl,a6⟩|⟨l,D,k,b,rfl,d⟩⟩;rotate_left
  .exact aC (ee (r.u B) r ((aE e).trans ((aE f).trans ((aE j).trans (bl D)))) b d)
  have N:=r.u B;have P:=(B.G _ (ap M) i).trans M;obtain⟨F,G,a2⟩:=kC P;go_wp2;obtain⟨m,n⟩:=sj h N a6 (U E.1) (.bool false);exact bodyPost_ret (v:=.agg #[U E.1,.bool false]) (by simp[results,results248,go_sem,F,G]) rfl (fl (a:=(E.1,false)) m ((aE e).trans ((aE f).trans ((aE j).trans (aE D)))) rfl n)
end
section
variable {b:Ad}{w:Zw}{c:St}
def Bp{a:Ad}(e:ew a b){d:Za}(f:Rd a d c w) :
  Calls prog 248 #[Zp b.R] w (dx [b.S] a d w (lz d c) mT):=by
 have:=Lh f;rw[e.1,e.2.1]at this;exact this
def iM(a:Za):PM (Int×Bool):=aF (cZ a [91]) λc=>
 if c then aF (hd a (df 1 1000)) λb=>aF (bY a [93]) λ_=>ret (b.1,true)else lz a
def FJ{J:Za}(j:Rd b J c w) :
  Calls prog 247 #[Zp b.R] w (dx [b.S] b J w (iM J c) mT):=by
 have a6:=j.lt.2.1;have n:w.heap.size ∉ [b.S]:=by grind
 have K:=aS (w:=w) (o:=.cells #[U 0,.bool false] 375) rfl;have N:=j.a6 (.cells #[U 0,.bool false] 375);have y:=(ak [b.S] w).B (.cells #[U 0,.bool false] 375);go_in;go_wp2_with fail;refine(mN (ex b _) _ N).mono ?_;rintro i a7 ⟨z,⟨a5,b1,g,rfl,D⟩|⟨r,g,q,e,rfl,f⟩⟩;rotate_left
 .exact aC (ee (y.u z) y (bl g) e f)
 have l:=(z.G _ (ap K) n).trans K;have k:=y.u z;cases a5 with
 |false=>
  go_wp2_with fail;refine(Bp (ex b _) D).mono ?_;rintro i a4 ⟨A,⟨d,b2,F,rfl,E⟩|⟨r,F,q,e,rfl,f⟩⟩;rotate_left
  .exact aC (ee (k.u A) k ((aE g).trans F) e f)
  have h:=k.u A;have m:=(A.G _ (ap l) n).trans l;obtain⟨H,I,a1⟩:=kC m;dsimp only[mT];go_wp2;obtain⟨s,t⟩:=sj j h E (U d.1) (.bool d.2);exact bodyPost_ret (v:=.agg #[U d.1,.bool d.2]) (by simp[results,results247,go_sem,H,I]) rfl (fl (a:=d) s ((aE g).trans F) rfl t)
 |true=>
  go_wp2_with fail;refine(pZ _ _ _).mono ?_;rintro i a4 ⟨v,rfl,x,P⟩;have a0:=P (b.aI w.heap.size).X D.aY;have E:=D.au x;have h:=k.u (bh [b.S] x);have m:=(x.block _ (ap l)).trans l;go_wp2_with fail;refine(yE (ex b _) E a0).mono ?_;rintro i a8 ⟨B,⟨d,b3,p,rfl,a2⟩|⟨r,p,q,e,rfl,f⟩⟩;rotate_left
  .exact aC (ee (h.u B) h ((aE g).trans (bl p)) e f)
  have u:=h.u B;have L:=(B.G _ (ap m) n).trans m;dsimp only[sQ];go_wp2_with fail;refine(ff (ex b _) _ a2).mono ?_;rintro i a9 ⟨C,⟨b0,b4,G,rfl,a3⟩|⟨r,G,q,e,rfl,f⟩⟩;rotate_left
  .exact aC (ee (u.u C) u ((aE g).trans ((aE p).trans (bl G))) e f)
  have M:=u.u C;have O:=(C.G _ (ap L) n).trans L;obtain⟨H,I,a1⟩:=kC O;go_wp2;obtain⟨s,t⟩:=sj j M a3 (U d.1) (.bool true);exact bodyPost_ret (v:=.agg #[U d.1,.bool true]) (by simp[results,results247,go_sem,H,I]) rfl (fl (a:=(d.1,true)) s ((aE g).trans ((aE p).trans (aE G))) rfl t)
def lG(a:Za):PM Ty:=aF (cZ a [118,111,105,100]) λb=>if b then ret .void else lJ a
def OV{i:Za}(p:Rd b i c w) :
  Calls prog 269 #[Zp b.R] w (dx [b.S] b i w (lG i c) bj):=by
 have l:=Z (rV ⟨#[118,111,105,100]⟩ p);go_in;go_wp2_with fail;refine l.j.mono ?_;rintro n t ⟨d,⟨r,v,e,rfl,k⟩|⟨o,e,m,f,rfl,g⟩⟩;rotate_left
 .exact aC (ee d (ak [] _) (bl e) f g)
 cases r with
 |true=>
  go_wp2;go_ret;exact fl (a:=.void) d ((aE e).trans rfl) rfl k
 |false=>
  go_wp2_with fail;refine(Dw k).mono ?_;rintro n u ⟨j,⟨s,x,h,rfl,q⟩|⟨o,h,m,f,rfl,g⟩⟩;rotate_left
  .exact aC (ee (d.u j) d ((aE e).trans h) f g)
  go_wp2;go_ret;exact fl (d.u j) ((aE e).trans h) rfl q
end
end Go.Proofs.YtjdhaegijjednaaGreatDoor
namespace Go.Proofs.YtjdhaegijjednaaGreatDoor
open Go.RowKit
open Go.MapKept
open Go.Proofs.Tryz
abbrev dC(a:Zw)(b:Nat)(c:Obj):Zw:={ a with heap:=a.heap.setIfInBounds b c }
def iu(b:Zw)(a:Nat)(c:Obj):am [a] b (dC b a c):=by
 refine⟨rfl,rfl,rfl,by simp,λe _ d=>?_⟩;grind
def qW{c:Zw}{a:Nat}(d:a<c.heap.size)(b:Obj):(dC c a b).heap[a]? = some b:=by
 simp_all
theorem Bu(a:List (Zb×Zv))(b:Zb)(v:Zv) :
  pB (a++[(b,v)])=.map ((a.mapIdx λd c=>(⟨.string ⟨c.1.toArray⟩,c.2,d⟩:MapEntry)).toArray.push ⟨Zs b,v,a.length⟩) (a.length+1):=by
 grind [pB]
def fR.cE{f:List Nat}{b:Nat}{a:List (Zb×Option aB)}{e:Zw}(m:fR f b a e)(t:b∈f){k:Zb}(y:aL a k=none) :
  ∃i,(Instr.mapUpdate 148 (.map (some b)) (Zs k) .nilIface).run prog e=.ok () (dC e b i)/\fR f b (a++[(k,none)]) (dC e b i):=by
 obtain⟨B,l,j,n,o,g,s⟩:=m;have x:=ap g;have z:∀c∈a,c.1≠k:=by
  intro c A r;grind [xq]
 have u:=qQ (a.zip j |>.map λc=>(c.1.1,c.2));have q:=ve (P:=prog) (T:=148) (kt:=9) (et:=157) (d:=.string) (by kernel_rfl) (by kernel_rfl) (k:=Zs k) trivial g (by omega) (by
  grind) .nilIface
 refine⟨_,q,?_,l,j++[.nilIface],n.F (iu _ _ _) (by simp_all),by grind,?_,?_⟩
 .simp only[List.map_append,List.map_cons,List.map_nil];rw[YJ];grind
 .simp_all[List.zip_append,Bu]
 .intro h p v;by_cases w:h<a.length
  .simp_all
  .simp at p;have:h=a.length:=by omega
   subst this;simp[iH,o.symm]
section
variable {c:Ad}{w:Zw}{d:St}
def fV(a:Mar.aT):PM Unit:=λd=>
 match aL d.A a.text with
 |none=>.ok ((),{ d with A:=d.A++[(a.text,none)] })
 |some _=>.error ⟨6,a.m⟩
def Rd.jO{k:Za}{j:List (Zb×Option aB)}{g:Obj}(a:Rd c k d w)(f:fR c.X c.N j (dC w c.N g)):Rd c k { d with A:=j } (dC w c.N g):=by
 obtain⟨q,r,E,s⟩:=a.lt;obtain⟨G,H,I,J,K,L⟩:=a.b7;have e:=iu w c.N g;obtain⟨y,x,D⟩:=a.nm.e7;refine⟨(e.G _ q (by grind)).trans a.me,?_,f,a.aj,λl o=>Yr (a.aY l o) e.ar,(e.G _ s (by grind)).trans a.pr,a.np,?_,a.ev,a.bp⟩
 .obtain⟨n,b⟩:=a.sc;have i:=e.G _ r (by grind);refine⟨n,?_⟩;cases f:d.nx with
  |some l=>rw[f]at b;exact i.trans b
  |none=>rw[f]at b;obtain⟨p,u,t,m,b⟩:=b;exact⟨p,u,t,m,i.trans b⟩
 .have z:∀h v,w.cell? (Zd h 0)=some v->h≠c.N:=by
   grind [World.cell?]
  obtain⟨⟨F,A⟩,⟨_,_,B⟩,⟨_,_,C⟩⟩:=id a.gl;exact a.gl.F e (by simp_all) (by simp_all) (by simp_all)
def QP{j:Za}(b:Mar.aT)(e:Rd c j d w) :
  Calls prog 244 #[.map (some c.N),Zs b.text,.nilIface,U b.m] w (dx [c.N] c j w (fV b d) oI):=by
 rcases uL e.nm b.text true with⟨g,i⟩|⟨m,v,n,g,q,p,i⟩
 .simp only[if_true]at i
  obtain⟨m,r,l⟩:=e.nm.cE e.aj.2.2.1 g;have k:=Z (e.jO l);have h:ac (fV b d=.ok ((),{ d with A:=d.A++[(b.text,none)] })):=by show _=_;simp only[fV,g]
  go_in;go_wp2;go_end0;exact fl (a:=()) (iu _ _ _) h.j rfl k.j
 .simp only[if_true]at i
  have h:ac (fV b d=.error ⟨6,b.m⟩):=by show _=_;simp only[fV,g]
  go_in;go_wp2_with (go_at_call 70;refine(gR _ _ _).mono ?_;rintro o s ⟨rfl,rfl⟩);exact aC (ee (M':=[]) (w1:=w) (f:=⟨6,b.m⟩) ((ak _ _).B _) (ak _ _) h.j (Y4 _) (aS rfl))
def am.c1{a:List Nat}{d:Zw}(g:am a w d){b c:Nat}{v:Zv}(f:b ∉ a)(e:w.cell? (Zd b c)=some v):d.cell? (Zd b c)=some v:=by
 have:=g.G b (lx e) f;grind [World.cell?]
def GY{k:Za}(b:Mar.aT)(i:Rd c k d w) :
  Calls prog 186 #[Zp c.R,cL b] w (dx [c.N] c k w (fV b d) oI):=by
 obtain⟨K,A,L,M,O,a1⟩:=i.al;have a2:=i.lt.1;have a3:=i.lt.2.2.1;have S:=i.b7.2.1;have G:=((ak [c.N] w).B (.cells #[U b.C,Zs b.text,U b.n,U b.m] 154)).aq;have r:=Z (QP b (i.au (((Below.refl w.heap.size w).alloc (Y4 _) (.cells #[U b.C,Zs b.text,U b.n,U b.m] 154)).drew)));have C:=aS (w:=w) (o:=.cells #[U b.C,Zs b.text,U b.n,U b.m] 154) rfl;obtain⟨a8,I,a9,J,_⟩:=gC C;have H:(w.alloc (.cells #[U b.C,Zs b.text,U b.n,U b.m] 154)).cell? (Zd c.R 1)=some (.map (some c.N)):=qB ((Below.refl w.heap.size w).alloc (Y4 _) _) rfl A;have y:=Z I;have z:=Z J;have x:=Z H;have m:=Z G;have hX:∀(g:Mar.aw) (e:Nat) (h:Zw),fV b d=.error g->w.heap.size+1<=e->am [c.N] w h->h.heap[e]? = some (.cells #[U g.no,U g.m] 179)->
   dx [c.N] c k w (fV b d) oI (.panicked [{ v:=.iface 143 (Zp e),recovered:=false }]) h:=by
  intro g e h F a0 f D;exact ee (M':=[]) (w1:=w) f (ak _ _) F (by omega) D
 have q:=Z hX;dsimp only[cL];go_in;go_wp2;go_region_held2 (λl=>l.cell? (Zd c.R 1)=some (.map (some c.N))/\l.cell? (Zd w.heap.size 1)=some (Zs b.text)/\l.cell? (Zd w.heap.size 3)=some (U b.m)) (go_keep)
  (first|(go_at_call 244;refine r.j.mono ?_;rintro P h ⟨f,⟨a7,b0,j,rfl,p⟩|⟨g,j,e,B,rfl,E⟩⟩;rotate_left;exact aC (q.j g e h j (by simpa using B) (m.j.u f) E);have a4:=f.c1 (by grind) x.j;have a5:=f.c1 (b:=w.heap.size) (by grind) y.j;have a6:=f.c1 (b:=w.heap.size) (by grind) z.j;have s:=Z f;have u:=Z j;have t:=Z p;clear f j p))
 go_wp2;go_end0;exact fl (a:=()) (m.j.u s.j) u.j rfl t.j
end
section
variable {a:Zc}{c:Nat}{b:Zw}
def dp(c:Nat)(a:Zc)(b:Zw):Prop:=a.Nodup/\∃d:Zl,d.length=a.length/\b.heap[c]? = some (pB (a.zip d))
def dp.F{f:Zw}{d:List Nat}(g:dp c a b)(i:am d b f)(j:c ∉ d):dp c a f:=by
 obtain⟨k,l,h,e⟩:=g;exact⟨k,l,h,(i.G _ (ap e) j).trans e⟩
def dp.lt(d:dp c a b):c<b.heap.size:=by
 obtain⟨g,h,e,f⟩:=d;grind
def yg(j:dp c a b)(k:Zb) :
  (k ∉ a/\(Instr.lookup 103 (.map (some c)) (Zs k) true).run prog b=.ok (.tuple #[U 0,.bool false]) b)\/
  (∃v,k∈a/\(Instr.lookup 103 (.map (some c)) (Zs k) true).run prog b=.ok (.tuple #[v,.bool true]) b):=by
 obtain⟨x,f,q,l⟩:=j;have r:=qQ (a.zip f);have n:(zeroValue 3).run prog b=.ok (U 0) b:=by kernel_rfl
 rcases sx (P:=prog) (T:=103) (kt:=9) (et:=3) (d:=.string) (by kernel_rfl) (by kernel_rfl) (k:=Zs k) trivial l (by omega) n true with⟨h,i⟩|⟨w,o,h,i,p⟩
 .refine Y8 ⟨?_,by simp_all⟩;intro m;obtain⟨e,s,rfl⟩:=List.getElem_of_mem m;have t:e<f.length:=by omega
  have u:(⟨.string ⟨a[e].toArray⟩,f[e],e⟩:MapEntry)∈((a.zip f).mapIdx λe g=>(⟨.string ⟨g.1.toArray⟩,g.2,e⟩:MapEntry)).toArray.toList:=by
   grind
  grind
 grind
def dp.cE(h:dp c a b){k:Zb}(n:k ∉ a)(v:Zv) :
  ∃f,(Instr.mapUpdate 103 (.map (some c)) (Zs k) v).run prog b=.ok () (dC b c f)/\dp c (a++[k]) (dC b c f):=by
 obtain⟨o,g,j,e⟩:=h;have m:=ap e;have l:=qQ (a.zip g);have i:=ve (P:=prog) (T:=103) (kt:=9) (et:=3) (d:=.string) (by kernel_rfl) (by kernel_rfl) (k:=Zs k) trivial e (by omega) (by
  grind) v
 refine⟨_,i,?_,g++[v],by grind,?_⟩
 .rw[YJ];grind
 simp_all[List.zip_append,Bu]
def ll(b:Mar.aT)(a:Zc):Except Mar.aw (Zc):=if a.contains b.text then .error ⟨6,b.m⟩else .ok (a++[b.text])
def QQ(d:Mar.aT)(i:dp c a b) :
  Calls prog 252 #[.map (some c),Zs d.text,U d.m,U d.m] b λg e=>am [c] b e /\
   ((∃k,ll d a=.ok k/\g=.returned (.tuple #[])/\dp c k e)\/(∃h,ll d a=.error h/\fa b h.no h.m g e)):=by
 rcases yg i d.text with⟨j,n⟩|⟨v,j,n⟩
 .obtain⟨p,o,m⟩:=i.cE j (U d.m);have l:=Z m;have f:ac (ll d a=.ok (a++[d.text])):=by simp_all[ll]
  go_in;go_wp2;go_end0;exact⟨iu _ _ _,Y8 ⟨_,f.j,rfl,l.j⟩⟩
 .have f:ac (ll d a=.error ⟨6,d.m⟩):=by show _=_;simp_all[ll]
  go_in;go_wp2_with (go_at_call 70;refine(gR _ _ _).mono ?_;rintro g e ⟨rfl,rfl⟩);exact aC ⟨(ak _ _).B _,Ya ⟨⟨6,d.m⟩,f.j,b.heap.size,Y4 _,rfl,aS rfl⟩⟩
def Fg{j:Nat}(f:Mar.aT)(n:dp c a b)(o:b.cell? (Zd j 0)=some (.map (some c))) :
  Calls prog 251 #[cL f,Zp j] b λg i=>am [c] b i /\
   ((∃e,ll f a=.ok e/\g=.returned (.tuple #[])/\dp c e i)\/(∃d,ll f a=.error d/\fa b d.no d.m g i)):=by
 have t:=lx o;have l:=Z (λs=>QQ f (n.F (bh [] ((Below.refl b.heap.size b).alloc (Y4 _) s)) (by simp)));dsimp only[cL];go_in;go_wp2_with (go_at_call 252;refine(l.j _).mono ?_;rintro g u ⟨k,⟨e,h,rfl,r⟩|⟨d,h,m,p,rfl,q⟩⟩)
 .go_end0;exact⟨((ak _ _).B _).u k,Y8 ⟨e,h,rfl,r⟩⟩
 .exact aC ⟨((ak _ _).B _).u k,Ya ⟨d,h,m,by simp at p;omega,rfl,q⟩⟩
end
section
variable {A:Ad}{l:List Nat}{f:Mar.aw}{c:List (Int×Int)}{e:Nat}{b h:Zw}{g m τ:Type}{i j:St}
def cQ(e:Nat)(c:List (Int×Int))(b:Zw):Prop:=b.heap[e]? = some (uV c)
def cQ.F(a:cQ e c b)(d:am l b h)(f:e ∉ l):cQ e c h:=(d.G _ (ap a) f).trans a
def BK(c:List (Int×Int)):∀d∈(c.mapIdx λa b=>(⟨.int .i64 b.1,.int .i64 b.2,a⟩:MapEntry)),IsKey (.int .i64) d.key:=by
 intro d e;obtain⟨a,f,rfl⟩:=List.mem_mapIdx.1 e;rfl
def Md(i:cQ e c b)(k:Int) :
  (k ∉ c.map (·.1)/\(Instr.lookup 149 (.map (some e)) (.int .i64 k) true).run prog b=.ok (.tuple #[.int .i64 0,.bool false]) b)\/
  (∃v,k∈c.map (·.1)/\(Instr.lookup 149 (.map (some e)) (.int .i64 k) true).run prog b=.ok (.tuple #[v,.bool true]) b):=by
 have p:=BK c;have m:(zeroValue 3).run prog b=.ok (.int .i64 0) b:=by kernel_rfl
 rcases sx (P:=prog) (T:=149) (kt:=2) (et:=3) (d:=.int .i64) (by kernel_rfl) (by kernel_rfl) (k:=.int .i64 k) rfl i (by omega) m true with⟨g,h⟩|⟨s,n,g,h,o⟩
 .refine Y8 ⟨?_,by simp_all⟩;intro j;obtain⟨f,l,rfl⟩:=YE.1 j;obtain⟨a,q,rfl⟩:=List.getElem_of_mem l;have r:(⟨.int .i64 c[a].1,.int .i64 c[a].2,a⟩:MapEntry)∈(c.mapIdx λa f=>(⟨.int .i64 f.1,.int .i64 f.2,a⟩:MapEntry)).toArray.toList:=by
   grind
  grind
 grind
def cQ.cE(a:cQ e c b){k:Int}(i:k ∉ c.map (·.1))(v:Int) :
  ∃f,(Instr.mapUpdate 149 (.map (some e)) (.int .i64 k) (.int .i64 v)).run prog b=.ok () (dC b e f)/\cQ e (c++[(k,v)]) (dC b e f):=by
 have h:=ap a;have g:=BK c;have j:=ve (P:=prog) (T:=149) (kt:=2) (et:=3) (d:=.int .i64) (by kernel_rfl) (by kernel_rfl) (k:=.int .i64 k) rfl a (by omega) (by
  grind) (.int .i64 v)
 grind [cQ,uV]
def kF(a b:Int)(c:List (Int×Int))(f:Mar.aw):Except Mar.aw (List (Int×Int)):=if(c.map (·.1)).contains a then .error f else .ok (c++[(a,b)])
def Di(d:Int)(a:Nat)(k:cQ e c b) :
  Calls prog 268 #[.map (some e),.int .i64 d,.int .i64 a,.int .i64 a] b λi h=>am [e] b h /\
   ((∃m j,kF d a c ⟨6,a⟩=.ok m/\i=.returned (.tuple #[])/\h=dC b e j/\cQ e m h)\/(∃f,kF d a c ⟨6,a⟩=.error f/\fa b f.no f.m i h)):=by
 rcases Md k d with⟨l,p⟩|⟨v,l,p⟩
 .obtain⟨j,q,o⟩:=k.cE l a;have n:=Z o;have g:ac (kF d a c ⟨6,a⟩=.ok (c++[(d,(a:Int))])):=by simp_all[kF]
  go_in;go_wp2;go_end0;exact⟨iu _ _ _,Y8 ⟨_,j,g.j,rfl,rfl,n.j⟩⟩
 .have g:ac (kF d a c ⟨6,a⟩=.error ⟨6,a⟩):=by show _=_;simp_all[kF]
  go_in;go_wp2_with (go_at_call 70;refine(gR _ _ _).mono ?_;rintro i h ⟨rfl,rfl⟩);exact aC ⟨(ak _ _).B _,Ya ⟨⟨6,a⟩,g.j,b.heap.size,Y4 _,rfl,aS rfl⟩⟩
def jc(l:List Nat)(A:Ad)(m:Za)(b:Zw)(d:Except Mar.aw (g×τ×St))(k:g->Zv)(i:τ->Zw->Prop)(c:Ending)(h:Zw):Prop:=
 am l b h/\((∃a e j,d=.ok (a,e,j)/\c=.returned (k a)/\Rd A m j h/\i e h)\/(∃f,d=.error f/\fa b f.no f.m c h))
abbrev PX(τ g:Type):=τ->St->Except Mar.aw (g×τ×St)
def lift(b:PM g):PX τ g:=λc i=>match b i with
 |.ok (a,j)=>.ok (a,c,j)
 |.error f=>.error f
def aG(c:PX τ g)(b:g->PX τ m):PX τ m:=λd i=>match c d i with
 |.ok (a,e,j)=>b a e j
 |.error f=>.error f
def cX(a:g):PX τ g:=λb i=>.ok (a,b,i)
def kh(a:τ->Except Mar.aw τ):PX τ Unit:=λb i=>match a b with
 |.ok c=>.ok ((),c,i)
 |.error f=>.error f
def bf{b:PM g}{c:τ}{a:g}(d:b i=.ok (a,j)):lift b c i=.ok (a,c,j):=by simp only[lift,d]
theorem cB{a:PM g}{c:τ}(b:a i=.error f):lift a c i=.error f:=by simp only[lift,b]
def aQ{c:PX τ g}{b:g->PX τ m}{d e:τ}{a:g}(f:c d i=.ok (a,e,j)):aG c b d i=b a e j:=by simp only[aG,f]
theorem bm{a:PX τ g}{d:g->PX τ m}{b:τ}(c:a b i=.error f):aG a d b i=.error f:=by simp only[aG,c]
theorem rj{a:τ->Except Mar.aw τ}{b c:τ}(d:a b=.ok c):kh a b i=.ok ((),c,i):=by simp only[kh,d]
theorem rh{a:τ->Except Mar.aw τ}{b:τ}(c:a b=.error f):kh a b i=.error f:=by simp only[kh,c]
def fM(b:Za)(a:Int->Bool):PX (List (Int×Int)) Int:=aG (lift (hd b a)) λe=>aG (kh λc=>kF e.1 e.2 c ⟨6,e.2⟩) λ_=>cX e.1
theorem lc{f:Za}{e:Except Mar.aw (g×τ×St)}{d:g->Zv}{c:τ->Zw->Prop}{a:g}{t:τ}{v:Zv}
  (m:am l b h) (n:e=.ok (a,t,j)) (o:v=d a) (i:Rd A f j h) (k:c t h):jc l A f b e d c (.returned v) h:=⟨m,Y8 ⟨a,t,j,n,by rw[o],i,k⟩⟩
def fA{M':List Nat}{o:Za}{w1:Zw}{c:Except Mar.aw (g×τ×St)}{e:g->Zv}{d:τ->Zw->Prop}{a:Nat}
  (k:am l b h) (m:am M' b w1) (n:c=.error f) (i:w1.heap.size<=a) (j:h.heap[a]? = some (.cells #[.int .i64 f.no,.int .i64 f.m] 179)) :
  jc l A o b c e d (.panicked [{ v:=.iface 143 (Zp a),recovered:=false }]) h:=
 ⟨k,Ya ⟨f,n,a,Yz m.ar i,rfl,j⟩⟩
end
section
variable {b:Ad}{f:List (Int×Int)}{g:Int->Bool}{c:Nat}{d:Zw}{e:St}
def cT(b:Ad)(c:Nat):Prop:=c∈b.X/\c≠b.R/\c≠b.S/\c≠b.N/\c≠b.P
def Rd.jd{g:Za}{h:Zw}{j:Array MapEntry}{i:Nat}(f:Rd b g e d)(k:am [c] d h)(l:cT b c)(q:d.heap[c]? = some (.map j i)):Rd b g e h:=by
 obtain⟨s,t,u,w,x⟩:=l;have m:∀a v,d.cell? (Zd a 0)=some v->a≠c:=by
  grind [World.cell?]
 obtain⟨⟨r,n⟩,⟨_,_,o⟩,⟨_,_,p⟩⟩:=id f.gl;exact f.F k (by simp_all) (by grind) (by grind) (by grind) (by grind) (by simp_all) (by simp_all) (by simp_all)
def DC{a:Za}{v:Zv}(f:Rd b a e d)(h:gD b.X v g d) :
  Calls prog 188 #[Zp b.R,v] d (dx [b.S] b a d (hd a g e) λc=>.tuple #[U c.1,U c.2]):=DB f h
def BG{o:Za}{v:Zv}(z:Rd b o e d)(A:gD b.X v g d)(q:cT b c)(B:cQ c f d) :
  Calls prog 250 #[Zp b.R,.map (some c),v] d (jc [b.S,c] b o d (fM o g f e) hY (cQ c)):=by
 have r:=Z (DC z A);have D:c ∉ [b.S]:=by simp;exact q.2.2.1
 go_in;go_wp2_with fail;refine r.j.mono ?_;rintro x I ⟨l,⟨F,K,h,rfl,E⟩|⟨y,h,w,j,rfl,k⟩⟩;rotate_left
 .exact aC (fA (l.K (by simp)) (ak [] _) (bm (cB h)) j k)
 have p:=B.F l D;have i:=Z (l.K (M':=[b.S,c]) (by simp));go_wp2_with fail;refine(Di _ _ p).mono ?_;rintro x J ⟨m,⟨G,H,n,rfl,rfl,C⟩|⟨y,n,w,j,rfl,k⟩⟩;rotate_left
 .exact aC (fA (i.j.u (m.K (by simp))) i.j ((aQ (bf h)).trans (bm (rh n))) j k)
 have u:=Z (E.jd m q p);have s:=Z (i.j.u (m.K (M':=[b.S,c]) (by simp)));have t:=Z C;go_wp2;go_ret;exact lc (a:=F.1) s.j ((aQ (bf h)).trans (aQ (rj n))) rfl u.j t.j
def kI(a:Za):PX (List (Int×Int)) Int:=aG (lift (bY a [61])) λ_=>aG (fM a (df 0 4294967295)) λb=>aG (lift (bY a [59])) λ_=>cX b
def Hs{r:Za}(z:Rd b r e d)(w:cT b c)(D:cQ c f d) :
  Calls prog 204 #[Zp b.R,.map (some c)] d (jc [b.S,c] b r d (kI r f e) hY (cQ c)):=by
 have x:c ∉ [b.S]:=by simp;exact w.2.2.1
 go_in;go_wp2_with fail;refine(qI _ z).mono ?_;rintro k M ⟨o,⟨a0,a2,i,rfl,y⟩|⟨t,i,s,g,rfl,h⟩⟩;rotate_left
 .exact aC (fA (o.K (by simp)) (ak [] _) (bm (cB i)) g h)
 have E:=D.F o x;have A:=o.K (M':=[b.S,c]) (by simp);go_wp2_with fail;refine(pZ _ _ _).mono ?_;rintro k N ⟨v,rfl,n,C⟩;have B:=C b.X y.aY;have H:=y.au n;have F:=E.F (bh [] n) (by simp);have l:=A.u (bh _ n);go_wp2_with fail;refine(BG H B w F).mono ?_;rintro k O ⟨u,⟨K,L,a3,j,rfl,I,G⟩|⟨t,j,s,g,rfl,h⟩⟩;rotate_left
 .exact aC (fA (l.u u) l ((aQ (bf i)).trans (bm j)) g h)
 have m:=l.u u;dsimp only[hY];go_wp2_with fail;refine(qI _ I).mono ?_;rintro k P ⟨p,⟨a1,a4,q,rfl,J⟩|⟨t,q,s,g,rfl,h⟩⟩;rotate_left
 .exact aC (fA (m.u (p.K (by simp))) m ((aQ (bf i)).trans ((aQ j).trans (bm (cB q)))) g h)
 go_wp2;go_ret;exact lc (a:=K) (m.u (p.K (by simp))) ((aQ (bf i)).trans ((aQ j).trans (aQ (bf q)))) rfl J (G.F p x)
end
section
variable {c:Ad}{w:Zw}{d:St}{τ:Type}
structure cP(τ:Type) where
 f:Nat
 e3:Array Zv
 e2:Array Zv
 M:List Nat
 bs:Zo
 I:τ->Zw->Prop
 a4:Mar.aT->PX τ Unit
def cP.v(a:cP τ):Zv:=.func (.func a.f) a.e3 a.e2
structure ih{τ:Type}(C:cP τ)(c:Ad)(text:Za):Prop where
 fq:∀args W,(callFunc C.f args).run prog W=.ok (.enter C.f args) W
 c0:∀{t:τ} {w w':Zw} {M':List Nat},C.I t w->am M' w w'->(∀m∈M',m ∉ C.M)->C.I t w'
 g4:c.S ∉ C.M
 f6:∀m∈C.M,m∈c.X
 call:∀{A':Ad} {d:St} {t:τ} {W:Zw} (x:Mar.aT),ew A' c->(∀b∈c.X,b∈A'.X)->Rd A' text d W->C.I t W->bv c.X C.bs W->
  Calls prog C.f (C.e3.push (cL x)++C.e2) W (jc C.M A' text W (C.a4 x t d) oI C.I)
def vI{α:Type}(b a:Nat):PX τ α:=λ_ _=>.error ⟨b,a⟩
def name(c:Za)(b:cP τ):PX τ (Zb×Nat):=aG (lift (next c)) λa=>if((a.C:Int)==1)then aG (b.a4 a) λ_=>cX (a.text,a.m)else vI 3 a.m
abbrev fY:Zb×Nat->Zv:=λa=>.agg #[.string ⟨a.1.toArray⟩,U a.2]
def LL{a:Ad}(f:ew a c){b:Za}(e:Rd a b d w) :
  Calls prog 118 #[Zp c.S] w (dx [c.S] a b w (next b d) cL):=by
 have:=pG e;rw[f.2.1]at this;exact this
def xE{C:cP τ}{r:Za}{t:τ}(e:ih C c r)(h:Rd c r d w)(a8:C.I t w)(a5:bv c.X C.bs w) :
  Calls prog 185 #[Zp c.R,C.v] w (jc (c.S::C.M) c r w (name r C t d) fY C.I):=by
 obtain⟨c7,c8,c9,d0,d1,d3⟩:=h.al;have d5:=h.lt.1;have d6:=h.lt.2.1;have b4:w.heap.size ∉ c.S::C.M:=by
  simp only[Yg,not_or];exact⟨by omega,λf=>by have:=h.aY _ (e.f6 _ f);omega⟩
 have b3:w.heap.size ∉ [c.S]:=by simp_all
 have D:=aS (w:=w) (o:=.cells #[.string ⟨#[]⟩,U 0] 160) rfl;have a1:=h.a6 (.cells #[.string ⟨#[]⟩,U 0] 160);have y:=(ak (c.S::C.M) w).B (.cells #[.string ⟨#[]⟩,U 0] 160);have a9:=e.c0 a8 (bh [] ((Below.refl w.heap.size w).alloc (Y4 _) (.cells #[.string ⟨#[]⟩,U 0] 160))) (by simp);have a6:=a5.F (bh [] ((Below.refl w.heap.size w).alloc (Y4 _) (.cells #[.string ⟨#[]⟩,U 0] 160))) (by simp);have d2:=e.fq;show Calls prog 185 #[Zp c.R,.func (.func C.f) C.e3 C.e2] w _;go_in;go_wp2_with fail;refine(LL (ex c _) a1).mono ?_;rintro s g ⟨j,⟨b,e4,k,rfl,b5⟩|⟨B,k,A,F,rfl,u⟩⟩;rotate_left
 .exact aC (fA (y.u (j.K (by simp))) y (bm (cB k)) F u)
 have E:=(j.G _ (ap D) b3).trans D;have i:=y.u (j.K (M':=c.S::C.M) (by simp));have b0:=e.c0 a9 j (by simp;exact e.g4);have a7:=a6.F j (by simp;exact h.aj.2.1);dsimp only[cL];go_wp2_with (first|(go_at_call 70;refine(gR _ _ _).mono ?_;rintro s d8 ⟨rfl,rfl⟩))
 .have x:((b.C:Int)==1)=false:=by simp_all
  refine aC (fA (M':=c.S::C.M) (w1:=g) (f:=⟨3,b.m⟩) ((i.B _).B _) i ((aQ (bf k)).trans ?_) (by omega) (aS (by simp)));rw[x];rfl
 .have x:((b.C:Int)==1)=true:=by simp_all
  have m:=(Below.refl g.heap.size g).alloc (Y4 _) (.cells #[U b.C,Zs b.text,U b.n,U b.m] 154);have G:=aS (w:=g) (o:=.cells #[U b.C,Zs b.text,U b.n,U b.m] 154) rfl;have b8:w.heap.size<g.heap.size:=ap E;refine(e.call b (ex c _) (λA a2=>Y5 _ a2) (b5.au m) (e.c0 b0 (bh [] m) (by simp)) (a7.F (bh [] m) (by simp))).mono ?_;rintro s d9 ⟨q,⟨d7,c5,e5,H,rfl,b6,b1⟩|⟨B,H,A,F,rfl,u⟩⟩;rotate_left
  .refine aC (fA (M':=c.S::C.M) (w1:=g) ((i.B _).u (q.K (λc2 f=>Y5 _ f))) i ((aQ (bf k)).trans ?_) (by grind) u);grind [bm]
  have c0:g.heap.size ∉ C.M:=λf=>by have:=h.aY _ (e.f6 _ f);omega
  have c1:w.heap.size ∉ C.M:=λf=>b4 (Y5 _ f);have b9:=(q.G _ (ap G) c0).trans G;have a3:=(q.G _ (by grind) c1).trans ((m.block _ b8).trans E);have P:=(i.B (.cells #[U b.C,Zs b.text,U b.n,U b.m] 154)).u (q.K (M':=c.S::C.M) (λc2 f=>Y5 _ f));obtain⟨e0,e1,e2,e3,_⟩:=gC b9;have K:=Z P;have z:=Z a3;have J:=Z b1;have L:=Z b6;go_wp2_with fail;refine(yA b _).mono ?_;rintro s c6 ⟨rfl,l⟩;have a4:=(l.block _ (ap z.j)).trans z.j;obtain⟨c3,c4,d4⟩:=kC a4;have a0:=K.j.u (bh _ l);have b7:=L.j.au l;have b2:=e.c0 J.j (bh [] l) (by simp);go_wp2;obtain⟨N,O⟩:=sj h a0 b7 (Zs b.text) (U b.m);refine bodyPost_ret (v:=.agg #[Zs b.text,U b.m]) (by simp[results,results185,go_sem,c3,c4]) rfl (lc (a:=(b.text,b.m)) (t:=c5) N ((aQ (bf k)).trans ?_) rfl O ?_)
  .rw[x];exact aQ H
  .exact e.c0 b2 (((ak [w.heap.size] c6).ay (p:=⟨w.heap.size,0,none⟩) (by simp) _).ay (p:=⟨w.heap.size,1,none⟩) (by simp) _) (by simp_all)
end
section
variable {c A':Ad}{j:Obj}{b:Nat}{g l w:Zw}{e n q:St}{τ:Type}
theorem ih.aI{e:cP τ}{text:Za}(a:ih e c text)(b:Nat):ih e (c.aI b) text where
 fq:=a.fq
 c0:=a.c0
 g4:=a.g4
 f6:=λl j=>Y5 _ (a.f6 l j)
 call:=λm f g k i h=>a.call m f (λb d=>g b (Y5 _ d)) k i (h.b9 λb d=>Y5 _ d)
structure iJ{τ:Type}(C:cP τ)(c:Ad)(text:Za)(w:Zw)(j:Obj)(t:τ)(e:St)(g:Zw):Prop where
 k:am (c.S::C.M) w g
 r:Rd (c.aI w.heap.size) text e g
 i:C.I t g
 h:bv (c.aI w.heap.size).X C.bs g
 d:g.heap[w.heap.size]? = some j
theorem wh{a:cP τ}{b:Za}{f:τ}(g:ih a c b)(h:Rd c b e w)(m:a.I f w)(l:bv c.X a.bs w)(j:Obj) :
  iJ a c b w j f e (w.alloc j) where
 k:=(ak _ w).B j
 r:=h.a6 j
 i:=g.c0 m (bh [] ((Below.refl w.heap.size w).alloc (Y4 _) j)) (by simp)
 h:=(l.aI (Y4 _)).F (bh [] ((Below.refl w.heap.size w).alloc (Y4 _) j)) (by simp)
 d:=aS rfl
def iJ.b5{m:cP τ}{b:Za}{s:τ}(a:iJ m c b w j s e g)(p:ih m c b)(o:Rd c b q w)(f:am [c.S] g l)(t:Rd (c.aI w.heap.size) b n l) :
  iJ m c b w j s n l where
 k:=a.k.u (f.K (by simp))
 r:=t
 i:=p.c0 a.i f (by simp;exact p.g4)
 h:=a.h.F f (by simp;exact Y5 _ o.aj.2.1)
 d:=(f.G _ (ap a.d) (by have:=o.lt.2.1;grind)).trans a.d
def iJ.g3{f:cP τ}{m:Za}{y u:τ}(o:iJ f c m w j y e g)(t:ih f c m)(p:Rd c m q w)(s:am (c.S::f.M) g l)(x:Rd (c.aI w.heap.size) m n l)(v:f.I u l) :
  iJ f c m w j u n l where
 k:=o.k.u s
 r:=x
 i:=v
 h:=o.h.F s (λb a=>by
  rcases Yg.1 a with rfl|a
  .exact Y5 _ p.aj.2.1
  .exact Y5 _ (t.f6 b a))
 d:=(s.G _ (ap o.d) (λa=>by
  rcases Yg.1 a with z|a
  .have:=p.lt.2.1;omega
  .have:=p.aY _ (t.f6 _ a);omega)).trans o.d
def iJ.au{b:cP τ}{f:Za}{n:τ}(m:iJ b c f w j n e g)(o:ih b c f)(a:Below g.heap.size g l):iJ b c f w j n e l where
 k:=m.k.u (bh _ a)
 r:=m.r.au a
 i:=o.c0 m.i (bh [] a) (by simp)
 h:=m.h.F (bh [] a) (by simp)
 d:=(a.block _ (ap m.d)).trans m.d
def uI{a:cP τ}{d:Za}{g:τ}(i:ih a c d)(h:Rd (c.aI b) d e w)(k:a.I g w)(j:bv (c.aI b).X a.bs w) :
  Calls prog 185 #[Zp c.R,.func (.func a.f) a.e3 a.e2] w (jc (c.S::a.M) (c.aI b) d w (name d a g e) fY a.I):=xE (i.aI b) h k j
def ww(b:ew A' c){a:Za}(d:Rd A' a e w) :
  Calls prog 247 #[Zp c.R] w (dx [c.S] A' a w (iM a e) mT):=by
 have:=FJ d;rw[b.1,b.2.1]at this;exact this
def RF(b:ew A' c){a:Za}(d:Rd A' a e w) :
  Calls prog 249 #[Zp c.R] w (dx [c.S] A' a w (lJ a e) bj):=by
 have:=Dw d;rw[b.1,b.2.1]at this;exact this
def vw(d:ew A' c){b:Za}(a:Za)(f:Rd A' b e w) :
  Calls prog 198 #[Zp c.R,.string a] w (dx [c.S] A' b w (fQ b a.data.toList e) .bool):=by
 have:=Cq a f;rw[d.1,d.2.1]at this;exact this
abbrev iR:aO->Zv:=λa=>.agg #[Zs a.t,U a.m,bj a.H]
def mX(c:Za)(a:Zb×Nat)(d:Ty):PX τ aO:=aG (lift (iM c)) λb=>cX ⟨a.1,a.2,.arr d b.1 b.2⟩
def pj(c:Za)(a:Zb×Nat)(b:Ty)(d:Bool):PX τ aO:=if d then mX c a b else cX ⟨a.1,a.2,b⟩
def pi(a:Za)(b:Zb×Nat)(c:Ty)(d:Bool):PX τ aO:=if d then mX a b c else aG (lift (fQ a [60])) (pj a b c)
def ph(a:Za)(c:Ty)(b:Zb×Nat):PX τ aO:=aG (lift (fQ a [91])) (pi a b c)
def ob(a:Za)(b:cP τ)(d:Ty)(e:Bool):PX τ aO:=if e then aG (name a b) λc=>cX ⟨c.1,c.2,.opt d⟩else aG (name a b) (ph a d)
def qE(a:Za)(b:cP τ)(c:Ty):PX τ aO:=aG (lift (cZ a [42])) (ob a b c)
def mc(a:Za)(b:cP τ)(e:Bool):PX τ aO:=
 if e then aG (name a b) λc=>aG (lift (lz a)) λd=>cX ⟨c.1,c.2,.str d.1 d.2⟩else aG (lift (lJ a)) (qE a b)
def mW(a:Za)(b:cP τ)(e:Bool):PX τ aO:=
 if e then aG (name a b) λc=>aG (lift (iM a)) λd=>cX ⟨c.1,c.2,.opaq d.1 d.2⟩else aG (lift (cZ a [115,116,114,105,110,103])) (mc a b)
def dW(a:Za)(b:cP τ):PX τ aO:=aG (lift (cZ a [111,112,97,113,117,101])) (mW a b)
def oh{a:Za}{d:List Nat}(e:Rd c a q w)(j:am d w g)(m:Rd (c.aI w.heap.size) a n g)(f h i:Zv) :
  am d w (((g.setCell ⟨w.heap.size,0,none⟩ f).setCell ⟨w.heap.size,1,none⟩ h).setCell ⟨w.heap.size,2,none⟩ i)/\Rd c a n (((g.setCell ⟨w.heap.size,0,none⟩ f).setCell ⟨w.heap.size,1,none⟩ h).setCell ⟨w.heap.size,2,none⟩ i):=by
 refine⟨((j.b2 (Y4 _) _).b2 (Y4 _) _).b2 (Y4 _) _,oR (b:=w.heap.size) e.aj ?_⟩;have o:=λ{g:Zw} (k:Rd (c.aI w.heap.size) a n g) (l:Nat) (v:Zv)=>qq (A':=c.aI w.heap.size) e ⟨rfl,rfl,rfl,rfl⟩ k (p:=⟨w.heap.size,l,none⟩) (Y4 _) (by simp[Ad.aI]) v;grind
def dJ{c d a:Zv}{e:TypeId}(g:w.heap[b]? = some (.cells #[c,d,a] e)) :
  w.cell? (Zd b 0)=some c/\w.cell? (Zd b 1)=some d/\w.cell? (Zd b 2)=some a/\∀f,w.frozen? ⟨b,f,none⟩=false:=by
 simp_all[World.cell?,World.frozen?]
theorem nA{a:cP τ}{h:Za}{d:τ}(e:ih a c h)(l:b ∉ a.M)(f:a.I d g)(i j k:Zv) :
  a.I d (((g.setCell ⟨b,0,none⟩ i).setCell ⟨b,1,none⟩ j).setCell ⟨b,2,none⟩ k):=
 e.c0 f ((((ak [b] g).ay (p:=⟨b,0,none⟩) (by simp) _).ay (p:=⟨b,1,none⟩) (by simp) _).ay (p:=⟨b,2,none⟩) (by simp) _) (by simp_all)
def zN{C:cP τ}{j:Za}{t:τ}(l:ih C c j)(p:Rd c j e w)(g7:C.I t w)(g6:bv c.X C.bs w) :
  Calls prog 191 #[Zp c.R,.func (.func C.f) C.e3 C.e2] w (jc (c.S::C.M) c j w (dW j C t e) iR C.I):=by
 have c8:w.heap.size ∉ C.M:=λg8=>by have:=p.aY _ (l.f6 _ g8);omega
 have d0:=wh l p g7 g6 (.cells #[.string ⟨#[]⟩,U 0,.nilIface] 242);go_in;go_wp2_with fail;refine(mN (ex c _) _ d0.r).mono ?_;rintro D h5 ⟨e8,⟨f9,h3,d8,rfl,g9⟩|⟨E,d8,b,m,rfl,n⟩⟩;rotate_left
 .exact aC (fA (d0.k.u (e8.K (by simp))) d0.k (bm (cB d8)) m n)
 have a2:=d0.b5 l p e8 g9;have c4:ac (dW j C t e=mW j C f9 t h3):=aQ (bf d8);cases f9 with
 |true=>
  go_wp2_with fail;refine(uI l a2.r a2.i a2.h).mono ?_;rintro D H ⟨c2,⟨f,f4,e4,b3,rfl,d6,b2⟩|⟨E,b3,b,m,rfl,n⟩⟩;rotate_left
  .exact aC (fA (a2.k.u c2) a2.k (c4.j.trans (bm b3)) m n)
  have A:=a2.g3 l p c2 d6 b2;have a8:ac (dW j C t e=aG (lift (iM j)) (λh=>cX ⟨f.1,f.2,.opaq h.1 h.2⟩) f4 e4):=c4.j.trans (aQ b3);dsimp only[fY];go_wp2_with fail;have a3:=A.au l (((Below.refl H.heap.size H).alloc (Y4 _) (.cells #[.string ⟨f.1.toArray⟩,U f.2] 160)).drew);have d7:=aS (w:=H) (o:=.cells #[.string ⟨f.1.toArray⟩,U f.2] 160) rfl;obtain⟨a5,a6,_⟩:=kC d7;have d4:=Z a5;have d5:=Z a6;have u:=Z a3;have e7:c.S<H.heap.size:=by have:=p.lt.2.1;have:=A.k.ar;omega
  have f3:w.heap.size<H.heap.size:=ap A.d;have f1:¬w.heap.size=H.heap.size:=by omega
  have f2:¬H.heap.size=w.heap.size:=by omega
  have a7:=Z l;have a9:=Z p;go_region_held2 (λa0=>a0.cell? (Zd H.heap.size 0)=some (.string ⟨f.1.toArray⟩)/\a0.cell? (Zd H.heap.size 1)=some (U f.2)) (go_keep)
   (first|(go_at_call 247;refine(ww (ex c _) u.j.r).mono ?_;rintro D F ⟨g,⟨h,d2,c9,rfl,q⟩|⟨E,c9,b,m,rfl,n⟩⟩;rotate_left;exact aC (fA (u.j.k.u (g.K (by simp))) u.j.k (a8.j.trans (bm (cB c9))) m n);dsimp only[mT];have x:=u.j.b5 a7.j a9.j g q;obtain⟨N,O,P,c1⟩:=dJ x.d;have e2:=g.c1 (b:=H.heap.size) (by simp;omega) d4.j;have e3:=g.c1 (b:=H.heap.size) (by simp;omega) d5.j;have B:=Z x;have b1:=Z c9;clear x g c9 q))
  go_wp2;obtain⟨J,K⟩:=oh p B.j.k B.j.r (.string ⟨f.1.toArray⟩) (U f.2) (bj (.opaq h.1 h.2));refine bodyPost_ret (v:=.agg #[.string ⟨f.1.toArray⟩,U f.2,.iface 377 (.agg #[U h.1,.bool h.2])]) (by simp[results,results191,go_sem,N,O,P]) rfl (lc (a:=⟨f.1,f.2,.opaq h.1 h.2⟩) (t:=f4) J (a8.j.trans (aQ (bf b1.j))) rfl K ?_)
  exact nA a7.j c8 B.j.i _ _ _
 |false=>
  go_wp2_with fail;refine(mN (ex c _) _ a2.r).mono ?_;rintro D H ⟨c2,⟨g0,e4,b3,rfl,d6⟩|⟨E,b3,b,m,rfl,n⟩⟩;rotate_left
  .exact aC (fA (a2.k.u (c2.K (by simp))) a2.k (c4.j.trans (bm (cB b3))) m n)
  have A:=a2.b5 l p c2 d6;have a8:ac (dW j C t e=mc j C g0 t e4):=c4.j.trans (aQ (bf b3));cases g0 with
  |true=>
   go_wp2_with fail;refine(uI l A.r A.i A.h).mono ?_;rintro D F ⟨g,⟨f,f5,d2,b4,rfl,q,b2⟩|⟨E,b4,b,m,rfl,n⟩⟩;rotate_left
   .exact aC (fA (A.k.u g) A.k (a8.j.trans (bm b4)) m n)
   have a3:=A.g3 l p g q b2;dsimp only[fY];have b8:ac (dW j C t e=aG (lift (lz j)) (λh=>cX ⟨f.1,f.2,.str h.1 h.2⟩) f5 d2):=a8.j.trans (aQ b4);go_wp2_with fail;have b6:=a3.au l (((Below.refl F.heap.size F).alloc (Y4 _) (.cells #[.string ⟨f.1.toArray⟩,U f.2] 160)).drew);have d7:=aS (w:=F) (o:=.cells #[.string ⟨f.1.toArray⟩,U f.2] 160) rfl;obtain⟨a5,a6,_⟩:=kC d7;have d4:=Z a5;have d5:=Z a6;have u:=Z b6;have e7:c.S<F.heap.size:=by have:=p.lt.2.1;have:=a3.k.ar;omega
   have f3:w.heap.size<F.heap.size:=ap a3.d;have f1:¬w.heap.size=F.heap.size:=by omega
   have f2:¬F.heap.size=w.heap.size:=by omega
   have a7:=Z l;have a9:=Z p;go_region_held2 (λa0=>a0.cell? (Zd F.heap.size 0)=some (.string ⟨f.1.toArray⟩)/\a0.cell? (Zd F.heap.size 1)=some (U f.2)) (go_keep)
    (first|(go_at_call 248;refine(Bp (ex c _) u.j.r).mono ?_;rintro D f8 ⟨g,⟨h,g5,z,rfl,q⟩|⟨E,z,b,m,rfl,n⟩⟩;rotate_left;exact aC (fA (u.j.k.u (g.K (by simp))) u.j.k (b8.j.trans (bm (cB z))) m n);dsimp only[mT];have L:=u.j.b5 a7.j a9.j g q;obtain⟨N,O,P,c1⟩:=dJ L.d;have e2:=g.c1 (b:=F.heap.size) (by grind) d4.j;have e3:=g.c1 (b:=F.heap.size) (by grind) d5.j;have B:=Z L;have b1:=Z z;clear L g z q))
   go_wp2;obtain⟨J,K⟩:=oh p B.j.k B.j.r (.string ⟨f.1.toArray⟩) (U f.2) (bj (.str h.1 h.2));refine bodyPost_ret (v:=.agg #[.string ⟨f.1.toArray⟩,U f.2,.iface 380 (.agg #[U h.1,.bool h.2])]) (by simp[results,results191,go_sem,N,O,P]) rfl (lc (a:=⟨f.1,f.2,.str h.1 h.2⟩) (t:=f5) J (b8.j.trans (aQ (bf b1.j))) rfl K ?_)
   exact nA a7.j c8 B.j.i _ _ _
  |false=>
   go_wp2_with fail;refine(RF (ex c _) A.r).mono ?_;rintro D F ⟨e9,⟨y,d2,b4,rfl,h0⟩|⟨E,b4,b,m,rfl,n⟩⟩;rotate_left
   .exact aC (fA (A.k.u (e9.K (by simp))) A.k (a8.j.trans (bm (cB b4))) m n)
   have a3:=A.b5 l p e9 h0;have b8:ac (dW j C t e=qE j C y t d2):=a8.j.trans (aQ (bf b4));obtain⟨a1,a4,c0⟩:∃a1 a4,ac (bj y=.iface a1 a4):=by cases y<;>exact⟨_,_,rfl⟩
   rw[c0.j];go_wp2_with fail;refine(mN (ex c _) _ a3.r).mono ?_;rintro D h6 ⟨f0,⟨g1,h4,d9,rfl,h1⟩|⟨E,d9,b,m,rfl,n⟩⟩;rotate_left
   .exact aC (fA (a3.k.u (f0.K (by simp))) a3.k (b8.j.trans (bm (cB d9))) m n)
   have x:=a3.b5 l p f0 h1;have c5:ac (dW j C t e=ob j C y g1 t h4):=b8.j.trans (aQ (bf d9));cases g1 with
   |true=>
    go_wp2_with fail;refine(uI l x.r x.i x.h).mono ?_;rintro D s ⟨g,⟨f,G,e5,b5,rfl,q,b2⟩|⟨E,b5,b,m,rfl,n⟩⟩;rotate_left
    .exact aC (fA (x.k.u g) x.k (c5.j.trans (bm b5)) m n)
    have b7:=x.g3 l p g q b2;dsimp only[fY];have c6:ac (dW j C t e=cX ⟨f.1,f.2,.opt y⟩ G e5):=c5.j.trans (aQ b5);obtain⟨N,O,P,c1⟩:=dJ b7.d;have b0:=Z b7;go_wp2;obtain⟨J,K⟩:=oh p b0.j.k b0.j.r (.string ⟨f.1.toArray⟩) (U f.2) (.iface 385 (.agg #[.iface a1 a4]))
    refine bodyPost_ret (v:=.agg #[.string ⟨f.1.toArray⟩,U f.2,.iface 385 (.agg #[.iface a1 a4])]) (by simp[results,results191,go_sem,N,O,P]) rfl (lc (a:=⟨f.1,f.2,.opt y⟩) (t:=G) J (c6.j.trans rfl) (by simp only[iR,bj,c0.j]) K ?_)
    exact nA l c8 b0.j.i _ _ _
   |false=>
    go_wp2_with fail;refine(uI l x.r x.i x.h).mono ?_;rintro D s ⟨g,⟨f,G,e5,b5,rfl,q,b2⟩|⟨E,b5,b,m,rfl,n⟩⟩;rotate_left
    .exact aC (fA (x.k.u g) x.k (c5.j.trans (bm b5)) m n)
    have b7:=x.g3 l p g q b2;dsimp only[fY];have c6:ac (dW j C t e=ph j y f G e5):=c5.j.trans (aQ b5);have e7:c.S<s.heap.size:=by have:=p.lt.2.1;have:=b7.k.ar;omega
    have f3:w.heap.size<s.heap.size:=ap b7.d;have f1:¬w.heap.size=s.heap.size:=by omega
    have f2:¬s.heap.size=w.heap.size:=by omega
    have d1:=b7.au l ((Below.refl s.heap.size s).alloc (Y4 _) (.cells #[.string ⟨f.1.toArray⟩,U f.2] 160));obtain⟨a5,a6,_⟩:=kC (aS (w:=s) (o:=.cells #[.string ⟨f.1.toArray⟩,U f.2] 160) rfl);go_wp2_with fail;refine(vw (ex c _) _ d1.r).mono ?_;rintro D f6 ⟨g,⟨g2,g4,e0,rfl,q⟩|⟨E,e0,b,m,rfl,n⟩⟩;rotate_left
    .exact aC (fA (d1.k.u (g.K (by simp))) d1.k (c6.j.trans (bm (cB e0))) m n)
    have c3:=d1.b5 l p g q;have a5:=g.c1 (b:=s.heap.size) (by grind) a5;have a6:=g.c1 (b:=s.heap.size) (by grind) a6;have d3:ac (dW j C t e=pi j f y g2 G g4):=c6.j.trans (aQ (bf e0));cases g2 with
    |true=>
     have b9:ac (dW j C t e=aG (lift (iM j)) (λh=>cX ⟨f.1,f.2,.arr y h.1 h.2⟩) G g4):=d3.j;go_wp2_with fail;have b6:=c3.au l ((Below.refl f6.heap.size f6).drew);have u:=Z b6;have a7:=Z l;have a9:=Z p;go_region_held2 (λa0=>a0.cell? (Zd s.heap.size 0)=some (.string ⟨f.1.toArray⟩)/\a0.cell? (Zd s.heap.size 1)=some (U f.2)) (go_keep)
      (first|(go_at_call 247;refine(ww (ex c _) u.j.r).mono ?_;rintro D f8 ⟨g,⟨h,g5,z,rfl,q⟩|⟨E,z,b,m,rfl,n⟩⟩;rotate_left;exact aC (fA (u.j.k.u (g.K (by simp))) u.j.k (b9.j.trans (bm (cB z))) m n);dsimp only[mT];have L:=u.j.b5 a7.j a9.j g q;obtain⟨N,O,P,c1⟩:=dJ L.d;have e2:=g.c1 (b:=s.heap.size) (by grind) a5;have e3:=g.c1 (b:=s.heap.size) (by grind) a6;have B:=Z L;have b1:=Z z;clear L g z q))
     go_wp2;obtain⟨J,K⟩:=oh p B.j.k B.j.r (.string ⟨f.1.toArray⟩) (U f.2) (.iface 382 (.agg #[.iface a1 a4,U h.1,.bool h.2]))
     refine bodyPost_ret (v:=.agg #[.string ⟨f.1.toArray⟩,U f.2,.iface 382 (.agg #[.iface a1 a4,U h.1,.bool h.2])]) (by simp[results,results191,go_sem,N,O,P]) rfl (lc (a:=⟨f.1,f.2,.arr y h.1 h.2⟩) (t:=G) J (b9.j.trans (aQ (bf b1.j))) (by simp only[iR,bj,c0.j]) K ?_)
     grind [nA,ac.j,iJ.i]
    |false=>
     go_wp2_with fail;refine(vw (ex c _) _ c3.r).mono ?_;rintro D f7 ⟨g,⟨g3,e6,e1,rfl,q⟩|⟨E,e1,b,m,rfl,n⟩⟩;rotate_left
     .exact aC (fA (c3.k.u (g.K (by simp))) c3.k (d3.j.trans (bm (cB e1))) m n)
     have b6:=c3.b5 l p g q;have a5:=g.c1 (b:=s.heap.size) (by grind) a5;have a6:=g.c1 (b:=s.heap.size) (by grind) a6;have b9:ac (dW j C t e=pj j f y g3 G e6):=d3.j.trans (aQ (bf e1));cases g3 with
     |true=>
      have c7:ac (dW j C t e=aG (lift (iM j)) (λh=>cX ⟨f.1,f.2,.arr y h.1 h.2⟩) G e6):=b9.j;go_wp2_with fail;have h2:=b6.au l ((Below.refl f7.heap.size f7).drew);have u:=Z h2;have a7:=Z l;have a9:=Z p;go_region_held2 (λa0=>a0.cell? (Zd s.heap.size 0)=some (.string ⟨f.1.toArray⟩)/\a0.cell? (Zd s.heap.size 1)=some (U f.2)) (go_keep)
       (first|(go_at_call 247;refine(ww (ex c _) u.j.r).mono ?_;rintro D f8 ⟨g,⟨h,g5,z,rfl,q⟩|⟨E,z,b,m,rfl,n⟩⟩;rotate_left;exact aC (fA (u.j.k.u (g.K (by simp))) u.j.k (c7.j.trans (bm (cB z))) m n);dsimp only[mT];have L:=u.j.b5 a7.j a9.j g q;obtain⟨N,O,P,c1⟩:=dJ L.d;have e2:=g.c1 (b:=s.heap.size) (by grind) a5;have e3:=g.c1 (b:=s.heap.size) (by grind) a6;have B:=Z L;have b1:=Z z;clear L g z q))
      go_wp2;obtain⟨J,K⟩:=oh p B.j.k B.j.r (.string ⟨f.1.toArray⟩) (U f.2) (.iface 382 (.agg #[.iface a1 a4,U h.1,.bool h.2]))
      refine bodyPost_ret (v:=.agg #[.string ⟨f.1.toArray⟩,U f.2,.iface 382 (.agg #[.iface a1 a4,U h.1,.bool h.2])]) (by simp[results,results191,go_sem,N,O,P]) rfl (lc (a:=⟨f.1,f.2,.arr y h.1 h.2⟩) (t:=G) J (c7.j.trans (aQ (bf b1.j))) (by simp only[iR,bj,c0.j]) K ?_)
      grind [nA,ac.j,iJ.i]
     |false=>
      have c7:ac (dW j C t e=cX ⟨f.1,f.2,y⟩ G e6):=b9.j;obtain⟨N,O,P,c1⟩:=dJ b6.d;have b0:=Z b6;go_wp2;obtain⟨J,K⟩:=oh p b0.j.k b0.j.r (.string ⟨f.1.toArray⟩) (U f.2) (.iface a1 a4)
      refine bodyPost_ret (v:=.agg #[.string ⟨f.1.toArray⟩,U f.2,.iface a1 a4]) (by simp[results,results191,go_sem,N,O,P]) rfl (lc (a:=⟨f.1,f.2,y⟩) (t:=G) J (c7.j.trans rfl) (by simp only[iR,c0.j]) K ?_)
      exact nA l c8 b0.j.i _ _ _
end
def fW(a:Ad):cP Unit where
 f:=186
 e3:=#[Zp a.R]
 e2:=#[]
 M:=[a.N]
 bs:=[]
 I:=λ_ _=>True
 a4:=λb=>lift (fV b)
def GZ(args:Array Zv)(a:Zw):(callFunc 186 args).run prog a=.ok (.enter 186 args) a:=by kernel_rfl
def Fi(args:Array Zv)(a:Zw):(callFunc 251 args).run prog a=.ok (.enter 251 args) a:=by kernel_rfl
def zH{a:Ad}{c:Za}{s:St}{p:Zw}(d:Rd a c s p):ih (fW a) a c where
 fq:=GZ
 c0:=λ_ _ _=>trivial
 g4:=by simp[fW];exact d.b7.2.2.2.1
 f6:=by simp[fW];exact d.aj.2.2.1
 call:=by
  intro h q o i g e _ l _ _;have:=GY g l;rw[e.1,e.2.2.1]at this;refine Calls.mono (R:=dx [a.N] h c i (fV g q) oI) this ?_;rintro t u ⟨f,⟨j,r,b,rfl,m⟩|⟨k,b,n⟩⟩
  .exact⟨f,Y8 ⟨j,o,r,bf b,rfl,m,trivial⟩⟩
  .exact⟨f,Ya ⟨k,cB b,n⟩⟩
def bb(a b:Nat):cP (Zc) where
 f:=251
 e3:=#[]
 e2:=#[Zp b]
 M:=[a]
 bs:=[(b,.cells #[.map (some a)] 103)]
 I:=dp a
 a4:=λc=>kh (ll c)
def wE{h:Ad}{u:Za}{c bx:Nat}(a:cT h c):ih (bb c bx) h u where
 fq:=Fi
 c0:=λe b f=>e.F b (λa=>f _ a (by simp[bb]))
 g4:=by simp[bb];exact λi=>a.2.2.1 i.symm
 f6:=by simp[bb];exact a.1
 call:=by
  intro j w x k v d m q e p;have n:k.cell? (Zd bx 0)=some (.map (some c)):=by
   have:=(p (bx,.cells #[.map (some c)] 103) (by simp[bb])).1;grind [World.cell?]
  refine Calls.mono (Fg v e n) ?_;have o:cT j c:=⟨m _ a.1,by rw[d.1];exact a.2.1,by rw[d.2.1];exact a.2.2.1,by rw[d.2.2.1];exact a.2.2.2.1,by rw[d.2.2.2];exact a.2.2.2.2⟩;rintro i z ⟨b,⟨t,g,rfl,r⟩|⟨l,g,s⟩⟩
  .obtain⟨_,y,_,f⟩:=id e;exact⟨b,Y8 ⟨(),t,w,rj g,rfl,q.jd b o f,r⟩⟩
  .exact⟨b,Ya ⟨l,rh g,s⟩⟩
section
variable {a:Ad}{f:Mar.aw}{w:Zw}{c:Type}{b:St}
def hA(d:PX Unit c):PM c:=λb=>match d () b with
 |.ok (a,_,e)=>.ok (a,e)
 |.error f=>.error f
def zy{d:PX Unit c}{e:St}{a:c}{u:Unit}(f:d () b=.ok (a,u,e)):hA d b=.ok (a,e):=by simp only[hA,f]
theorem zx{a:PX Unit c}(d:a () b=.error f):hA a b=.error f:=by simp only[hA,d]
def nn:Ad:=⟨0,0,0,0,[]⟩
def md(a:Za):PM aO:=hA (dW a (fW nn))
def gf(a:Za):PM (Zb×Nat):=hA (name a (fW nn))
def ga(j:List Nat)(a:Ad)(k:Za)(w:Zw)(h:Except Mar.aw (aB×St))(g:Ending)(b:Zw):Prop:=
 am j w b/\((∃e i c d,h=.ok (e,i)/\g=.returned (Zp c)/\Rd a k i b/\dg d c e/\bv a.X d b)\/(∃f,h=.error f/\fa w f.no f.m g b))
def dr{d M':List Nat}{l:Za}{w1 c:Zw}{e:Except Mar.aw (aB×St)}{b:Nat}
  (i:am d w c) (j:am M' w w1) (k:e=.error f) (g:w1.heap.size<=b) (h:c.heap[b]? = some (.cells #[U f.no,U f.m] 179)) :
  ga d a l w e (.panicked [{ v:=.iface 143 (Zp b),recovered:=false }]) c:=
 ⟨i,Ya ⟨f,k,b,Yz j.ar g,rfl,h⟩⟩
def GK{d:Za}(e:Rd a d b w) :
  Calls prog 191 #[Zp a.R,.func (.func 186) #[Zp a.R] #[]] w (dx [a.S,a.N] a d w (md d b) iR):=by
 refine Calls.mono (zN (C:=fW a) (t:=()) (zH e) e trivial (λo j=>by simp[fW]at j)) ?_;rintro n p ⟨g,⟨i,h,m,c,rfl,k,_⟩|⟨f,c,l⟩⟩
 .exact⟨g,Y8 ⟨i,m,zy (u:=h) c,rfl,k⟩⟩
 .exact⟨g,Ya ⟨f,zx c,l⟩⟩
def sH{d:Za}(e:Rd a d b w) :
  Calls prog 185 #[Zp a.R,.func (.func 186) #[Zp a.R] #[]] w (dx [a.S,a.N] a d w (gf d b) fY):=by
 refine Calls.mono (xE (C:=fW a) (t:=()) (zH e) e trivial (λo j=>by simp[fW]at j)) ?_;rintro n p ⟨g,⟨i,h,m,c,rfl,k,_⟩|⟨f,c,l⟩⟩
 .exact⟨g,Y8 ⟨i,m,zy (u:=h) c,rfl,k⟩⟩
 .exact⟨g,Ya ⟨f,zx c,l⟩⟩
def jw(a:Za)(b:Nat):PM aB:=aF (hK b) λ_=>aF (md a) λc=>aF (bY a [59]) λ_=>ret (.typedef c)
def RI{s:Za}(l:Nat)(B:Rd a s b w) :
  Calls prog 120 #[Zp a.R,U l] w (ga [a.R,a.S,a.N] a s w (jw s l b)):=by
 have J:=iT;go_in;go_wp2_with fail;refine(uN l B).mono ?_;rintro x O ⟨y,⟨M,a1,h,rfl,D⟩|⟨f,h,v,e,rfl,g⟩⟩;rotate_left
 .exact aC (dr (y.K (by simp)) (ak [] _) (bl h) e g)
 have m:=y.K (M':=[a.R,a.S,a.N]) (by simp);go_wp2_with fail;refine(GK D).mono ?_;rintro x j ⟨z,⟨c,a2,k,rfl,q⟩|⟨f,k,v,e,rfl,g⟩⟩;rotate_left
 .exact aC (dr (m.u (z.K (by simp))) m ((aE h).trans (bl k)) e g)
 have n:=m.u (z.K (M':=[a.R,a.S,a.N]) (by simp));obtain⟨d,i,u⟩:∃d i,ac (bj c.H=.iface d i):=by cases c.H<;>exact⟨_,_,rfl⟩
 dsimp only[iR];rw[u.j];have C:=(Below.refl j.heap.size j).alloc (Y4 _) (.cells #[Zs c.t,U c.m,.iface d i] 244)
 have A:=aS (w:=j) (o:=.cells #[Zs c.t,U c.m,.iface d i] 244) rfl
 have E:=q.au C;have I:=q.aY;go_wp2_with fail;refine(qI _ E).mono ?_;rintro x P ⟨p,⟨a0,G,r,rfl,F⟩|⟨f,r,v,e,rfl,g⟩⟩;rotate_left
 .exact aC (dr ((n.B _).u (p.K (by simp))) (n.B _) ((aE h).trans ((aE k).trans (bl r))) e g)
 have H:=Z ((p.G _ (ap A) (by have:=q.lt.2.1;grind)).trans A);go_wp2;go_ret;refine⟨(n.B _).u (p.K (by simp)),Y8 ⟨.typedef c,G,j.heap.size,[(j.heap.size,.cells #[Zs c.t,U c.m,.iface d i] 244)],(aE h).trans ((aE k).trans (aE r)),rfl,F,?_,?_⟩⟩
 .show _∈_;simp only[ek,u.j,Yc]
 .intro L K;grind [ac.j]
end
def jm(a:Za)(c:Nat):PM aB:=aF (hJ c) λ_=>aF (gf a) λb=>aF (bY a [61]) λ_=>
 aF (hd a (df (-2147483648) 4294967295)) λd=>aF (bY a [59]) λ_=>ret (.const b.1 b.2 d.1)
def Gx{a:Ad}{D:Za}{P:St}(q:Nat){w:Zw}(a0:Rd a D P w) :
  Calls prog 119 #[Zp a.R,U q] w (ga [a.R,a.S,a.N] a D w (jm D q P)):=by
 have b7:=iT;go_in;go_wp2_with fail;refine(Bx q a0).mono ?_;rintro h c3 ⟨G,⟨c2,d0,f,rfl,a5⟩|⟨n,f,m,c,rfl,d⟩⟩;rotate_left
 .exact aC (dr (G.K (by simp)) (ak [] _) (bl f) c d)
 have r:=G.K (M':=[a.R,a.S,a.N]) (by simp);go_wp2_with fail;refine(sH a5).mono ?_;rintro h e ⟨H,⟨b,d1,g,rfl,j⟩|⟨n,g,m,c,rfl,d⟩⟩;rotate_left
 .exact aC (dr (r.u (H.K (by simp))) r ((aE f).trans (bl g)) c d)
 have F:=r.u (H.K (M':=[a.R,a.S,a.N]) (by simp));dsimp only[fY];have b4:=j.aY;have b6:=j.lt.2.1;have a6:=j.a6 (.cells #[.string ⟨b.1.toArray⟩,U b.2,U 0] 343);have J:=aS (w:=e) (o:=.cells #[.string ⟨b.1.toArray⟩,U b.2,U 0] 343) rfl;have s:=F.B (.cells #[.string ⟨b.1.toArray⟩,U b.2,U 0] 343);have B:e.heap.size ∉ [a.S]:=by grind
 go_wp2_with fail;refine(ff (ex a _) _ a6).mono ?_;rintro h c4 ⟨y,⟨c8,d2,k,rfl,I⟩|⟨n,k,m,c,rfl,d⟩⟩;rotate_left
 .exact aC (dr (s.u (y.K (by simp))) s ((aE f).trans ((aE g).trans (bl k))) c d)
 have K:=(y.G _ (ap J) B).trans J;have a1:=s.u (y.K (M':=[a.R,a.S,a.N]) (by simp));go_wp2_with fail;refine(pZ _ _ _).mono ?_;rintro h c5 ⟨v,rfl,x,a4⟩;have a3:=a4 (a.aI e.heap.size).X I.aY;have a7:=I.au x;have L:=(x.block _ (ap K)).trans K;have t:=a1.u (bh _ x);go_wp2_with fail;refine(yE (ex a _) a7 a3).mono ?_;rintro h c6 ⟨z,⟨l,d3,p,rfl,a8⟩|⟨n,p,m,c,rfl,d⟩⟩;rotate_left
 .exact aC (dr (t.u (z.K (by simp))) t ((aE f).trans ((aE g).trans ((aE k).trans (bl p)))) c d)
 have M:=(z.G _ (ap L) B).trans L;have a2:=t.u (z.K (M':=[a.R,a.S,a.N]) (by simp));obtain⟨b9,c0,c1,b5⟩:=dJ M;dsimp only[sQ];have b1:=bu (i:=2) M (U l.1);have a9:=qq (A':=a.aI e.heap.size) j ⟨rfl,rfl,rfl,rfl⟩ a8 (p:=⟨e.heap.size,2,none⟩) (Y4 _) (by simp[Ad.aI]) (U l.1);have u:=a2.b2 (p:=⟨e.heap.size,2,none⟩) (Nat.le_of_lt_succ (Nat.lt_succ_of_le F.ar)) (U l.1);have E:=Z b1;go_wp2_with fail;refine(ff (ex a _) _ a9).mono ?_;rintro h c7 ⟨A,⟨c9,b2,C,rfl,b0⟩|⟨n,C,m,c,rfl,d⟩⟩;rotate_left
 .exact aC (dr (u.u (A.K (by simp))) u ((aE f).trans ((aE g).trans ((aE k).trans ((aE p).trans (bl C))))) c d)
 have b3:=Z ((A.G _ (ap E.j) B).trans E.j);go_wp2;go_ret;refine⟨u.u (A.K (by simp)),Y8 ⟨.const b.1 b.2 l.1,b2,e.heap.size,[(e.heap.size,.cells #[.string ⟨b.1.toArray⟩,U b.2,U l.1] 343)],(aE f).trans ((aE g).trans ((aE k).trans ((aE p).trans (aE C)))),rfl,oR j.aj b0,?_,?_⟩⟩
 .show _∈_;simp
 .intro O b8;grind [ac.j]
section
variable {c:Ad}{e:TypeId}{b:Zw}{j:St}{g:Type}
def zO{a:cP g}{d:Ad}(h:ew d c){e:Za}{i:g}(l:ih a d e)(k:Rd d e j b)(n:a.I i b)(m:bv d.X a.bs b) :
  Calls prog 191 #[Zp c.R,.func (.func a.f) a.e3 a.e2] b (jc (c.S::a.M) d e b (dW e a i j) iR a.I):=by
 have:=zN l k n m;rw[h.1,h.2.1]at this;exact this
def mR(b:Za)(a:cP g)(c:Bool):PX g aO:=if c then cX ⟨[],0,.void⟩else dW b a
def ir(a:Za)(b:cP g):PX g aO:=aG (aG (lift (cZ a [118,111,105,100])) (mR a b)) λc=>aG (lift (bY a [59])) λ_=>cX c
def OQ{a:Nat}{m o n c f d:Zv}{g:Nat×Nat}(h:b.heap[a]? = some (.cells #[m,o,n] e g)) :
  (((b.setCell ⟨a,0,none⟩ c).setCell ⟨a,1,none⟩ f).setCell ⟨a,2,none⟩ d).heap[a]? = some (.cells #[c,f,d] e g):=by
 have j:=bu (i:=0) h c;have k:=bu (i:=1) j f;have l:=bu (i:=2) k d;exact l
def iJ.nr{m:cP g}{a:Za}{f:Zw}{w x y:Zv}{q:g}{B:St}(l:iJ m c a b (.cells #[w,x,y] e) q j f)(o:ih m c a)(n:Rd c a B b)(s t u:Zv) :
  iJ m c a b (.cells #[s,t,u] e) q j (((f.setCell ⟨b.heap.size,0,none⟩ s).setCell ⟨b.heap.size,1,none⟩ t).setCell ⟨b.heap.size,2,none⟩ u) where
 k:=((l.k.b2 (Y4 _) _).b2 (Y4 _) _).b2 (Y4 _) _
 r:=by
  have C:=λ{f:Zw} (A:Rd (c.aI b.heap.size) a j f) (i:Nat) (v:Zv)=>qq (A':=c.aI b.heap.size) n ⟨rfl,rfl,rfl,rfl⟩ A (p:=⟨b.heap.size,i,none⟩) (Y4 _) (by simp[Ad.aI]) v;grind [r]
 i:=nA o (λz=>by have:=n.aY _ (o.f6 _ z);omega) l.i _ _ _
 h:=l.h.F ((((ak [b.heap.size] f).ay (p:=⟨b.heap.size,0,none⟩) (by simp) _).ay (p:=⟨b.heap.size,1,none⟩) (by simp) _).ay (p:=⟨b.heap.size,2,none⟩) (by simp) _) (by simp[Ad.aI])
 d:=OQ l.d
def Fq{d:cP g}{m:Za}{t:g}(A:ih d c m)(z:Rd c m j b)(c0:d.I t b)(b9:bv c.X d.bs b) :
  Calls prog 200 #[Zp c.R,.func (.func d.f) d.e3 d.e2] b (jc (c.S::d.M) c m b (ir m d t j) iR d.I):=by
 have b3:b.heap.size ∉ d.M:=λc2=>by have:=z.aY _ (A.f6 _ c2);omega
 have d1:=z.lt.2.1;have x:=wh A z c0 b9 (.cells #[.string ⟨#[]⟩,U 0,.nilIface] 242);have o:=A.aI b.heap.size;have N:=wh o x.r x.i x.h (.cells #[.string ⟨#[]⟩,U 0,.iface 444 (.agg #[])] 242)
 have h:=x.k;have K:(b.alloc (.cells #[.string ⟨#[]⟩,U 0,.nilIface] 242)).heap[b.heap.size]? = _:=x.d;have s:=x.r;go_in;go_wp2_with fail;have b2:b.heap.size ∉ c.S::d.M:=by
  grind
 have J:ew ((c.aI b.heap.size).aI (b.alloc (.cells #[.string ⟨#[]⟩,U 0,.nilIface] 242)).heap.size) c:=⟨rfl,rfl,rfl,rfl⟩;refine(mN J _ N.r).mono ?_;rintro P d2 ⟨b0,⟨c7,c8,C,rfl,c3⟩|⟨a0,C,O,p,rfl,q⟩⟩;rotate_left
 .exact aC (fA ((h.u N.k).u (b0.K (by simp))) (h.u N.k) (bm (bm (cB C))) p q)
 have l:=N.b5 o s b0 c3;have L:(b.alloc (.cells #[.string ⟨#[]⟩,U 0,.nilIface] 242)).heap.size=b.heap.size+1:=by simp
 cases c7 with
 |true=>
  have y:ac (aG (lift (cZ m [118,111,105,100])) (mR m d) t j=cX ⟨[],0,.void⟩ t c8):=aQ (bf C);go_wp2_with fail;refine(ff J _ l.r).mono ?_;rintro P c5 ⟨B,⟨c6,c9,u,rfl,a4⟩|⟨a0,u,O,p,rfl,q⟩⟩;rotate_left
  .exact aC (fA ((h.u l.k).u (B.K (by simp))) (h.u l.k) ((aQ (y.j.trans rfl)).trans (bm (cB u))) p q)
  have w:=l.b5 o s B a4;have a3:=(w.k.G _ (ap K) b2).trans K;obtain⟨a6,a7,a8,b8⟩:=dJ a3;obtain⟨D,E,F,_⟩:=dJ w.d;rw[L]at D E F;have n:=Z w;go_wp2;obtain⟨a1,a2⟩:=oh z (h.u n.j.k) (oR s.aj n.j.r) (.string ⟨#[]⟩) (U 0) (.iface 444 (.agg #[]))
  refine bodyPost_ret (v:=.agg #[.string ⟨#[]⟩,U 0,.iface 444 (.agg #[])]) (by simp[results,results200,go_sem,a6,a7,a8]) rfl (lc (a:=⟨[],0,.void⟩) (t:=t) a1 ((aQ (y.j.trans rfl)).trans (aQ (bf u))) (rfl) a2 ?_)
  exact nA A b3 n.j.i _ _ _
 |false=>
  go_wp2_with fail;refine(zO J (o.aI _) l.r l.i l.h).mono ?_;rintro P d3 ⟨b1,⟨f,b6,d0,a5,rfl,c4,c1⟩|⟨a0,a5,O,p,rfl,q⟩⟩;rotate_left
  .exact aC (fA ((h.u l.k).u b1) (h.u l.k) (bm ((aQ (bf C)).trans a5)) p q)
  have y:ac (aG (lift (cZ m [118,111,105,100])) (mR m d) t j=.ok (f,b6,d0)):=(aQ (bf C)).trans a5;have b4:=l.g3 o s b1 c4 c1;obtain⟨e,G,a9⟩:∃e G,ac (bj f.H=.iface e G):=by cases f.H<;>exact⟨_,_,rfl⟩
  have b5:=b4.nr o s (Zs f.t) (U f.m) (.iface e G)
  obtain⟨D,E,F,b7⟩:=dJ b4.d;rw[L]at D E F b7;rw[L]at b5;have H:=Z b5;dsimp only[iR];rw[a9.j];go_wp2_with fail;refine(ff J _ H.j.r).mono ?_;rintro P c5 ⟨B,⟨c6,c9,u,rfl,a4⟩|⟨a0,u,O,p,rfl,q⟩⟩;rotate_left
  .exact aC (fA ((h.u H.j.k).u (B.K (by simp))) (h.u H.j.k) ((aQ y.j).trans (bm (cB u))) p q)
  have w:=H.j.b5 o s B a4;have a3:=(w.k.G _ (ap K) b2).trans K;obtain⟨a6,a7,a8,b8⟩:=dJ a3;obtain⟨D,E,F,_⟩:=dJ w.d;rw[L]at D E F;have n:=Z w;go_wp2;obtain⟨a1,a2⟩:=oh z (h.u n.j.k) (oR s.aj n.j.r) (Zs f.t) (U f.m) (.iface e G)
  refine bodyPost_ret (v:=.agg #[Zs f.t,U f.m,.iface e G]) (by simp[results,results200,go_sem,a6,a7,a8]) rfl (lc (a:=f) (t:=b6) a1 ((aQ y.j).trans (aQ (bf u))) (by simp only[iR,a9.j]) a2 ?_)
  exact nA A b3 n.j.i _ _ _
end
section
variable {a:Nat}{c:Option aB}{w:Zw}{e:Type}
def OT{P:Program}{T kt et:TypeId}{d:TypeDesc}(t:P.underlying T=some (.map kt et))(l:P.underlying kt=some d){s:Za}(m:IsKey d (.string s)){c:Array MapEntry}{g:Nat}
  (k:w.heap[a]? = some (.map c g)) (p:∀f∈c.toList,IsKey d f.key) (u:∃f∈c.toList,f.key=.string s) (v:Zv) :
  ∃(e:Nat) (b:MapEntry),c.toList[e]? = some b/\b.key=.string s/\
   (Instr.mapUpdate T (.map (some a)) (.string s) v).run P w=.ok () (dC w a (.map (c.modify e λb=>{ b with key:=.string s,val:=v }) g)):=by
 have o:=λn=>MapKept.run_checkKey (w:=w) l m n 9999;rcases findNow_spec m c.toList 0 p with⟨h,i⟩|⟨e,b,h,i,j⟩
 .grind
 .refine⟨e,b,i,j,?_⟩;have q:c[e]? = some b:=by simp_all
  have r:Instr.keyThatStays (.string s) (.string s)=pure (.string s):=by
   unfold Instr.keyThatStays;rw[Y9 (by show (s==s)=true;simp_all[bytes_beq])]
  simp[Instr.mapUpdate,Instr.findKey,run_underlying t,run_underlying l,MapKept.run_getObj_map k,o,h,q,j,r,MapKept.run_setObj_map _ k,Result.andThen]
def dd(d:List (Zb×Option aB))(c:Zb)(b:aB):List (Zb×Option aB):=d.map λa=>if a.1==c then (a.1,some b)else a
def Ct(a:List (Zb×Option aB))(c:Zb)(b:aB):(dd a c b).map (·.1)=a.map (·.1):=by
 grind [dd,List.map_congr_left]
def xv{d:List (Zb×e)}{b:Zb}{c:e}(f:aL d b=some c):∃a∈d,a.1=b/\a.2=c:=by
 unfold aL at f;cases g:d.find? (λa=>a.1==b)<;>grind
def xG{a:List e}(d:a.Nodup)(b c:Nat)(g:b<a.length)(h:c<a.length)(f:a[b]=a[c]):b=c:=by
 have i:=List.pairwise_iff_getElem.1 d;grind
theorem nF{o p:Zo}{v:Zv}(h:∀F∈o,F∈p)(e:iH o v c):iH p v c:=by
 have y:∀k t,ts o k t->ts p k t:=λk t C=>h _ C;have a:∀s v u w,gG o s v u w->gG p s v u w:=by
  intro s v u w a;rcases a with a|⟨B,z,A,b,d,f,g⟩
  .exact Y8 a
  .exact Ya ⟨B,z,A,b,d,h _ f,g⟩
 cases c with
 |none=>exact e
 |some x=>
  obtain⟨k,D,j⟩:=e;refine⟨k,D,?_⟩;cases x with
  |const q n v=>exact y _ _ j
  |typedef x=>exact h _ j
  |enum q n E=>obtain⟨i,G,b,d,f,g⟩:=j;exact⟨i,G,h _ b,d,a _ _ _ _ f,λm e l=>y _ _ (g m e l)⟩
  |struct q n E=>obtain⟨i,b,d⟩:=j;exact⟨i,h _ b,a _ _ _ _ d⟩
  |union q n J H=>obtain⟨i,r,b,d,f,g⟩:=j;exact⟨i,r,h _ b,d,a _ _ _ _ f,λm e l=>a _ _ _ _ (g m e l)⟩
  |prog q n K I=>obtain⟨i,r,b,d,f,g⟩:=j;exact⟨i,r,h _ b,d,a _ _ _ _ f,λm e l=>a _ _ _ _ (g m e l)⟩
theorem fR.a9{l:List Nat}{e:List (Zb×Option aB)}(A:fR l a e w)(O:a∈l){j:Zb}(J:aL e j=some c)
  {d:aB} {b:Nat} {bs':Zo} (D:dg bs' b d) (E:bv l bs' w) :
  ∃v,(Instr.mapUpdate 148 (.map (some a)) (Zs j) (.iface (cA d) (Zp b))).run prog w=.ok () (dC w a v)/\fR l a (dd e j d) (dC w a v):=by
 obtain⟨p,y,k,B,C,t,N⟩:=A;have H:=ap t;obtain⟨g,i,K,_⟩:=xv J;obtain⟨f,S,rfl⟩:=List.getElem_of_mem i;have a0:f<k.length:=by omega
 have R:=qQ (e.zip k |>.map λg=>(g.1.1,g.2));obtain⟨o,q,m,z,M⟩:=OT (P:=prog) (T:=148) (kt:=9) (et:=157) (d:=.string) (by kernel_rfl) (by kernel_rfl) (s:=⟨j.toArray⟩) trivial t (by omega)
  ⟨⟨.string ⟨e[f].1.toArray⟩,k[f],f⟩,by
   grind,by grind⟩ (.iface (cA d) (Zp b))
 simp only[List.getElem?_mapIdx]at m;have a1:o<e.length:=by
  grind
 rw[Yd (by simp_all)]at m;simp at m;subst m;simp at z;have F:f=o:=by
  have L:(e.map (·.1))[f]'(by simp_all)=(e.map (·.1))[o]'(by simp_all):=by simp_all
  exact xG p _ _ _ _ L
 subst F;refine⟨_,M,?_,y++bs',k.set f (.iface (cA d) (Zp b)),?_,?_,?_,?_⟩
 .rw[Ct];omega
 .intro g i;rcases Yn.1 i with i|i
  .exact(B.F (iu _ _ _) (by simp_all)) g i
  .exact(E.F (iu _ _ _) (by simp_all)) g i
 .simp[dd,C]
 .rw[qW H];unfold pB;have G:(List.map (λg:(Zb×Option aB)×Zv=>(g.1.1,g.2)) ((dd e j d).zip (k.set f (.iface (cA d) (Zp b))))).length=(List.map (λg:(Zb×Option aB)×Zv=>(g.1.1,g.2)) (e.zip k)).length:=by simp[dd]
  rw[G];refine Yo (λx=>some (Obj.map x _)) ?_;apply Array.ext';simp only[Array.toList_modify];apply List.ext_getElem
  .simp_all
  .intro h a3 a4;have I:h<e.length:=by simp_all
   by_cases n:f=h
   .simp_all[dd]
   .have u:¬e[h].1=j:=λq=>n (xG p f h (by simp_all) (by simp_all) (by simp_all));simp_all[dd]
 .intro h I a2;have a5:h<e.length:=by simp_all
  by_cases n:f=h
  .subst n;have r:(dd e j d)[f].2=some d:=by simp[dd,K]
   rw[r,List.getElem_set_self];exact nF (λg i=>Ym _ i) (show iH bs' _ (some d)from⟨b,rfl,D⟩)
  .have u:¬e[h].1=j:=λq=>n (xG p f h (by simp_all) (by simp_all) (by simp_all));have r:(dd e j d)[h].2=e[h].2:=by simp[dd,u]
   grind [nF]
end
section
variable {α:Type}{a b:St}
def gT(d:PM α):Prop:=∀a c b,d a=.ok (c,b)->b.A=a.A
theorem gT.bE{k:Type}{f:PM α}{g:α->PM k}(i:gT f)(h:∀d,gT (g d)):gT (aF f g):=by
 intro a l b c;cases e:f a with
 |error m=>rw[bl e]at c;cases c
 |ok j=>
  obtain⟨d,n⟩:=j;rw[aE e]at c;rw[h d _ _ _ c,i _ _ _ e]
theorem gT.ret(c:α):gT (ret c):=by
 intro a d b e;grind [YtjdhaegijjednaaGreatDoor.ret]
theorem wj(e c:Nat):gT (fi (α:=α) e c):=λa f b d=>by cases d
def qo{a:Prop}[Decidable a]{b c:PM α}(d:gT b)(e:gT c):gT (if a then b else c):=by grind
def Ce(c:Za):gT (next c):=by
 intro a d b e;grind [next]
def Nq(a:Za)(b:Zb):gT (bY a b):=(Ce a).bE λc=>qo (gT.ret _) (wj _ _)
def Np(c:Mar.aT):gT (iP c):=by
 intro a d b e;grind [iP]
def Nr(a:Mar.aT):gT (hD a):=
 qo (gT.ret _) (qo (Np a) (qo (gT.ret _) (qo (gT.ret _) (wj _ _))))
def Nt(a:Za)(b:Int->Bool):gT (hd a b):=(Ce a).bE λc=>(Nr c).bE λd=>qo (gT.ret _) (wj _ _)
def Ns{f:Za}{e:Int->Bool}{h k:List (Int×Int)}{l:Int}(c:fM f e h a=.ok (l,k,b)):b.A=a.A:=by
 unfold fM at c;cases g:hd f e a with
 |error i=>simp_all[bm,cB]
 |ok d=>
  obtain⟨d,n⟩:=d;rw[aQ (bf g)]at c;cases j:kF d.1 d.2 h ⟨6,d.2⟩with
  |error i=>simp_all[bm,rh]
  |ok m=>
   rw[aQ (rj j)]at c;simp only[cX,Except.ok.injEq,Prod.mk.injEq]at c;rw[<-c.2.2];exact Nt f e _ _ _ g
def Lu{i:Za}{h:Zb×Nat}(c:gf i a=.ok (h,b)):aL b.A h.1=some none:=by
 unfold gf hA name at c;cases k:next i a with
 |error m=>simp_all[bm,cB]
 |ok l=>
  obtain⟨d,e⟩:=l;rw[aQ (bf k)]at c;by_cases f:((d.C:Int)==1)=true
  .rw[Y9 f]at c;cases g:aL e.A d.text with
   |none=>
    have j:fV d e=.ok ((),{ e with A:=e.A++[(d.text,none)] }):=by simp only[fV,g]
    rw[aQ (show (fW nn).a4 d () e=_ from bf j)]at c;simp only[cX,Except.ok.injEq,Prod.mk.injEq]at c;obtain⟨rfl,rfl⟩:=c;unfold aL at g ⊢;grind
   |some n=>
    simp_all[fV,bm,fW,cB]
  .rw[Y2 f]at c;cases c
def dS(c lz b:Nat):PM Unit:=λa=>if lz<=c then .error ⟨5,b⟩else .ok ((),a)
def xu(c:Zb)(b:aB):PM Unit:=λa=>.ok ((),{ a with A:=dd a.A c b })
def hE(b:Za)(d:Nat):PX (List (Int×Int)) (Zb×Nat×Int):=
 aG (lift (ft b)) λc=>aG (lift (dS d 12 c.m)) λ_=>aG (lift (hJ c.m)) λ_=>aG (lift (gf b)) λa=>aG (lift (bY b [61])) λ_=>
  aG (fM b (df (-2147483648) 2147483647)) λv=>aG (lift (xu a.1 (.const a.1 a.2 v))) λ_=>cX (a.1,a.2,v)
end
section
variable {a:Ad}{e:List (Int×Int)}{c:Nat}{w:Zw}{g:St}
def jU(a:Zb×Nat×Int):Obj:=.cells #[.string ⟨a.1.toArray⟩,U a.2.1,U a.2.2] 343
def we(k:List Nat)(a:Ad)(l:Za)(w:Zw)(c:Nat)(i:Except Mar.aw ((Zb×Nat×Int)×List (Int×Int)×St))(f:Ending)(b:Zw):Prop:=
 am k w b/\((∃h g j e,i=.ok (h,g,j)/\f=.returned (Zp e)/\Rd a l j b/\cQ c g b/\bv a.X [(e,jU h)] b)\/(∃d,i=.error d/\fa w d.no d.m f b))
def qh{e M':List Nat}{m:Za}{w1 d:Zw}{g:Except Mar.aw ((Zb×Nat×Int)×List (Int×Int)×St)}{f:Mar.aw}{b:Nat}
  (j:am e w d) (k:am M' w w1) (l:g=.error f) (h:w1.heap.size<=b) (i:d.heap[b]? = some (.cells #[U f.no,U f.m] 179)) :
  we e a m w c g (.panicked [{ v:=.iface 143 (Zp b),recovered:=false }]) d:=
 ⟨j,Ya ⟨f,l,b,Yz k.ar h,rfl,i⟩⟩
theorem cT.aI(d:cT a c)(b:Nat):cT (a.aI b) c:=⟨Y5 _ d.1,d.2⟩
def BH{b:Ad}(k:ew b a){d:Za}{v:Zv}{f:Int->Bool}(j:Rd b d g w)(l:gD b.X v f w)(n:cT b c)(m:cQ c e w) :
  Calls prog 250 #[Zp a.R,.map (some c),v] w (jc [a.S,c] b d w (fM d f e g) hY (cQ c)):=by
 obtain⟨h,i,o,p⟩:=k;rw[<-h,<-i];exact BG j l n m
def Kk{a0:Za}(A:Nat)(a3:Rd a a0 g w)(q:cT a c)(d2:cQ c e w) :
  Calls prog 193 #[Zp a.R,U A,.map (some c)] w (we [a.R,a.S,a.N,c] a a0 w c (hE a0 A e g)):=by
 have h4:=iT;obtain⟨f2,f3,f4,f5,f6,g8⟩:=a3.al;have h0:=Al;have b0:c ∉ [a.S]:=by simp;exact q.2.2.1
 go_in;go_wp2_with fail;refine(xT a3).mono ?_;rintro m h9 ⟨K,⟨G,a2,l,rfl,e3⟩|⟨u,l,p,h,rfl,j⟩⟩;rotate_left
 .exact aC (qh (K.K (by simp)) (ak [] _) (bm (cB l)) h j)
 have d3:=d2.F K b0;have x:=K.K (M':=[a.R,a.S,a.N,c]) (by simp);dsimp only[cL];go_wp2_with fail;by_cases a5:(12:Nat)<=A
 .refine(pJ _ _ _ _ (by omega)).mono ?_;rintro m b9 ⟨⟨p,h,rfl,j⟩,c8⟩;exact aC (qh (f:=⟨5,G.m⟩) (x.u (bh _ c8)) x ((aQ (bf l)).trans (bm (cB (show dS A 12 G.m a2=_ from Y9 a5)))) h j)
 have y:dS A 12 G.m a2=.ok ((),a2):=Y2 a5;refine(pK _ _ _ _ (by omega)).mono ?_;rintro m b9 ⟨rfl,rfl⟩;go_wp2_with fail;refine(Bx G.m e3).mono ?_;rintro m b9 ⟨L,⟨h8,i2,s,rfl,e4⟩|⟨u,s,p,h,rfl,j⟩⟩;rotate_left
 .exact aC (qh (x.u (L.K (by simp))) x ((aQ (bf l)).trans ((aQ (bf y)).trans (bm (cB s)))) h j)
 have d4:=d3.F L (by simp;exact q.2.1);have H:=x.u (L.K (M':=[a.R,a.S,a.N,c]) (by simp));go_wp2_with fail;refine(sH e4).mono ?_;rintro m f ⟨M,⟨b,i3,t,rfl,r⟩|⟨u,t,p,h,rfl,j⟩⟩;rotate_left
 .exact aC (qh (H.u (M.K (by simp))) H ((aQ (bf l)).trans ((aQ (bf y)).trans ((aQ (bf s)).trans (bm (cB t))))) h j)
 have a7:=d4.F M (by simp;exact⟨q.2.2.1,q.2.2.2.1⟩);have a4:=H.u (M.K (M':=[a.R,a.S,a.N,c]) (by simp));dsimp only[fY];have g5:=r.aY;have h1:=r.lt.2.1;have h2:=ap a7;have e5:=r.a6 (.cells #[.string ⟨b.1.toArray⟩,U b.2,U 0] 343);have b2:=aS (w:=f) (o:=.cells #[.string ⟨b.1.toArray⟩,U b.2,U 0] 343) rfl;have d5:cQ c e (f.alloc (.cells #[.string ⟨b.1.toArray⟩,U b.2,U 0] 343)):=a7.F ((ak [] f).B _) (by simp);have I:=a4.B (.cells #[.string ⟨b.1.toArray⟩,U b.2,U 0] 343);have d9:f.heap.size ∉ [a.S]:=by grind
 have e0:f.heap.size ∉ [a.S,c]:=by grind
 go_wp2_with fail;refine(ff (ex a _) _ e5).mono ?_;rintro m i0 ⟨D,⟨i1,i4,z,rfl,b1⟩|⟨u,z,p,h,rfl,j⟩⟩;rotate_left
 .exact aC (qh (I.u (D.K (by simp))) I ((aQ (bf l)).trans ((aQ (bf y)).trans ((aQ (bf s)).trans ((aQ (bf t)).trans (bm (cB z)))))) h j)
 have b3:=(D.G _ (ap b2) d9).trans b2;have a8:=d5.F D b0;have c5:=I.u (D.K (M':=[a.R,a.S,a.N,c]) (by simp));go_wp2_with fail;refine(pZ _ _ _).mono ?_;rintro m f0 ⟨v,rfl,B,d0⟩;have c9:=d0 (a.aI f.heap.size).X b1.aY;have e6:=b1.au B;have b4:=(B.block _ (ap b3)).trans b3;have d6:cQ c e f0:=(B.block _ (ap a8)).trans a8;have J:=c5.u (bh _ B);go_wp2_with fail;refine(BH (ex a _) e6 c9 (q.aI _) d6).mono ?_;rintro m a1 ⟨O,⟨k,b7,f1,F,rfl,e7,d7⟩|⟨u,F,p,h,rfl,j⟩⟩;rotate_left
 .exact aC (qh (J.u (O.K (by simp))) J ((aQ (bf l)).trans ((aQ (bf y)).trans ((aQ (bf s)).trans ((aQ (bf t)).trans ((aQ (bf z)).trans (bm F)))))) h j)
 have b5:=(O.G _ (ap b4) e0).trans b4;have c6:=J.u (O.K (M':=[a.R,a.S,a.N,c]) (by simp));have d1:aL f1.A b.1=some none:=by rw[Ns F,Nq _ _ _ _ _ z];exact Lu t
 obtain⟨h5,h6,h7,g9⟩:=dJ b5;dsimp only[hY];have b6:=bu (i:=2) b5 (U k);have e8:=qq (A':=a.aI f.heap.size) r ⟨rfl,rfl,rfl,rfl⟩ e7 (p:=⟨f.heap.size,2,none⟩) (Y4 _) (by simp[Ad.aI]) (U k);have d8:cQ c b7 (a1.setCell ⟨f.heap.size,2,none⟩ (U k)):=d7.F ((ak [f.heap.size] a1).ay (by simp) _) (by grind);have c7:=c6.b2 (p:=⟨f.heap.size,2,none⟩) (Nat.le_of_lt_succ (Nat.lt_succ_of_le a4.ar)) (U k);go_wp2_with fail;have E:=oR r.aj e8;generalize a1.setCell ⟨f.heap.size,2,none⟩ (U k)=n at *
 have a6:bv a.X [(f.heap.size,jU (b.1,b.2,k))] n:=by
  intro b8 a9;simp only[Yc]at a9;subst a9;exact⟨b6,λh3=>by grind⟩
 have C:Below n.heap.size n n.drew:=(Below.refl _ _).drew;obtain⟨e9,e2,e1⟩:=(E.nm.au C).a9 E.aj.2.2.1 d1 (d:=.const b.1 b.2 k) (b:=f.heap.size) (bs':=[(f.heap.size,jU (b.1,b.2,k))]) (by show _∈_;simp[jU]) (a6.F (bh [] C) (by simp));dsimp only[cA]at e2;obtain⟨f7,f8,f9,g0,g1,g6⟩:=E.al;obtain⟨g2,g3,g4,g7⟩:=dJ b6;have c1:=Z c7;have c2:=Z d8;have c4:=Z E;have c0:=Z a6;have c3:=Z e1;go_region;go_wp2;go_ret;have P:am [a.N] n (dC n.drew a.N e9):=(bh _ C).u (iu _ _ _);refine⟨c1.j.u (P.K (by simp)),Y8 ⟨(b.1,b.2,k),b7,_,f.heap.size,?_,rfl,Rd.jO (c4.j.au C) c3.j,c2.j.F P (by simp;exact q.2.2.2.1),c0.j.F P (by simpa using r.aj.2.2.1)⟩⟩;exact(aQ (bf l)).trans ((aQ (bf y)).trans ((aQ (bf s)).trans ((aQ (bf t)).trans ((aQ (bf z)).trans (aQ F)))))
end
section
variable {A r:Ad}{j z g m D:Nat}{s x f t:List Nat}{q u:List (Int×Int)}{a:Zb×Nat×Int}{d:List (Zb×Nat×Int)}{e:Zb×Nat}{n:Zv}{h o c B:Zw}{E:Zl}{l w C:St}
def Ad.ab(A:Ad)(f:List Nat):Ad:={ A with X:=f++A.X }
theorem cJ(A:Ad)(f:List Nat):ew (A.ab f) A:=⟨rfl,rfl,rfl,rfl⟩
def jj{d:Za}(e:A.R∈A.X/\A.S∈A.X/\A.N∈A.X/\A.P∈A.X)(a:Rd (A.ab f) d l c):Rd A d l c:=
 ⟨a.me,a.sc,a.nm.b9 (λ_ b=>Ym _ b),e,λg b=>a.aY g (Ym _ b),a.pr,a.np,a.gl,a.ev,a.bp⟩
def Rd.b4{d:Za}(e:Rd A d C c)(m:ew r A)(k:Rd r d l h)(n:am s h o)(f:∀a∈s,c.heap.size<=a/\a∈r.X):Rd r d l o:=by
 obtain⟨v,w,x,y⟩:=e.lt;obtain⟨⟨a,g⟩,⟨_,_,i⟩,⟨_,_,j⟩⟩:=e.gl;have g:=lx g;have i:=lx i;have j:=lx j;obtain⟨p,q,t,u⟩:=m;refine k.F n (λa b=>(f a b).2) ?_ ?_ ?_ ?_ ?_ ?_ ?_<;>(intro b;have:=(f _ b).1;omega)
def fs{b:Option Nat}(a:c.grownBy B b):am b.toList c B:=
 ⟨a.os,a.tape,a.output,a.size,λf d e=>a.block f d (λg=>e (by simp_all))⟩
def qp{m:Za}{i:Option Nat}(n:Rd A m C c)(p:ew r A)(j:Rd r m l h)(v:h.grownBy o i)
  (w:∀b,i=some b->c.heap.size<=b/\b∈r.X) (u:i=some g\/g=h.heap.size) (H:g<o.heap.size):Rd (r.aI g) m l o:=by
 have q:=fs v;have k:∀a∈i.toList,c.heap.size<=a/\a∈r.X:=λa f=>w a (by simp_all);have d:=n.b4 p j q k;obtain⟨x,y,z,B⟩:=d.aj;refine⟨d.me,d.sc,?_,⟨Y5 _ x,Y5 _ y,Y5 _ z,Y5 _ B⟩,?_,d.pr,d.np,d.gl,d.ev,d.bp⟩
 .rcases u with t|t
  .exact d.nm.b9 (λs e=>by
    rcases Yg.1 e with rfl|e;all_goals simp_all)
  .obtain⟨I,J,K,L⟩:=j.lt;refine(j.nm.aI (b:=g) (by omega)).F q (λa f=>Y5 _ (k a f).2) (λf=>?_);have:=(k _ f).1;have:=n.lt.2.2.1;obtain⟨D,E,F,G⟩:=p;omega
 .intro s e;rcases Yg.1 e with rfl|e
  .omega
  .exact d.aY s e
def bv.bo{a:List Nat}{d:Zo}{b:Option Nat}(i:bv a d h)(k:h.grownBy o b)(n:∀c,b=some c->c∈a)(q:b=some g\/g=h.heap.size):bv (g::a) d o:=by
 intro p m;obtain⟨e,j⟩:=i p m;have l:=ap e;refine⟨(k.block _ l (λf=>j (n _ f.symm))).trans e,?_⟩;grind
theorem bi{b:TypeId}{e:Nat}{v:Zv}(a:c.ownsRow z b D v e E)(l:am s c B)(k:∀g,v.ownBlock=some g->g ∉ s):B.ownsRow z b D v e E:=by
 refine⟨a.1,?_⟩;rcases a.2 with a|⟨g,f,h,rfl,i,d,j⟩
 .simp_all
 .exact Ya ⟨g,f,h,rfl,i,(l.G _ (ap d) (k g rfl)).trans d,j⟩
def hn{a:TypeId}{e:Nat}{v:Zv}(b:c.ownsRow z a D v e E)(l:v.ownBlock=some g):z<=g/\g<c.heap.size:=by
 rcases b.2 with⟨rfl,_⟩|⟨h,d,f,rfl,i,j,k⟩;all_goals grind [Value.ownBlock]
def am.b4(b:am s c h)(d:am x h o)(i:∀a∈x,a∈s\/c.heap.size<=a):am s c o:=
 ⟨d.os.trans b.os,d.dX.trans b.dX,d.dU.trans b.dU,Yz b.ar d.ar,λf e g=>(d.G f (Yr e b.ar) (λj=>by
  grind)).trans (b.G f e g)⟩
def am.cons{b:List Nat}(d:am s c h)(g:am x h o)(e:∀a∈s,a∈b)(f:∀a∈x,a∈b):am b c o:=(d.K e).u (g.K f)
def oe(a:Za)(e:Zb×Nat)(d:List (Zb×Nat×Int)):PM aB:=aF (bY a [125]) λ_=>aF (bY a [59]) λ_=>ret (.enum e.1 e.2 d)
def gL(b:Za)(e:Zb×Nat):Nat->List (Zb×Nat×Int)->List (Int×Int)->PM aB
 |0,_,_=>fi 0 0
 |k+1,d,q=>λl=>match hE b d.length q l with
  |.ok (a,u,w)=>aF (cZ b [44]) (λf=>if f then gL b e k (d++[a]) u else oe b e (d++[a])) w
  |.error c=>.error c
def sB{b:Za}{c:Nat}(f:hE b d.length q l=.ok (a,u,w)) :
  gL b e (c+1) d q l=aF (cZ b [44]) (λg=>if g then gL b e c (d++[a]) u else oe b e (d++[a])) w:=by simp only[gL,f]
theorem ux{b:Za}{f:Nat}{a:Mar.aw}(c:hE b d.length q l=.error a) :
  gL b e (f+1) d q l=.error a:=by simp only[gL,c]
def gX(a:Za)(b:Nat):PM aB:=aF (hK b) λ_=>aF (gf a) λe=>aF (bY a [123]) λ_=>gL a e 13 [] []
structure jC(A:Ad)(text:Za)(c:Zw)(j m:Nat)(e:Zb×Nat)(d:List (Zb×Nat×Int))(t f:List Nat)(q:List (Int×Int))(n:Zv)(l:St)(h:Zw):Prop where
 kp:am [A.R,A.S,A.N] c h
 rd:Rd (A.ab f) text l h
 aj:j∈f/\m∈f/\j≠m
 ao:∀y∈f,c.heap.size<=y
 bD:cQ m q h
 ai:h.heap[j]? = some (.cells #[.string ⟨e.1.toArray⟩,U e.2,n] 253)
 row:h.ownsRow c.heap.size 223 1 n d.length (t.map λb=>Zp b)
 a6:∀g,n.ownBlock=some g->g∈f/\g≠j/\g≠m
 a2:t.length=d.length
 cI:bv (A.ab f).X ((t.zip d).map λp=>(p.1,jU p.2)) h
def jC.bB{b:Za}(g:Rd A b C c)(a:jC A b c j m e d t f q n l h):cT (A.ab f) m:=by
 obtain⟨k,o,p,r⟩:=g.lt;have i:=a.ao _ a.aj.2.1;refine⟨Yf _ a.aj.2.1,?_,?_,?_,?_⟩<;>simp only[Ad.ab]<;>omega
def Ef{I:Za}{r J s:Zw}{k B:Nat}(K:Rd A I C c)
  (b:jC A I c j m e d t f q n l h) (F:am [A.R,A.S,A.N,m] h r) (a0:Rd (A.ab f) I w r) (a9:cQ m u r) (a6:bv (A.ab f).X [(k,jU a)] r) (o:Below r.heap.size r J)
  (P:s.ownsRow c.heap.size 223 1 (.slice (some ⟨g,0,none⟩) (d.length+1) B) (d.length+1) ((t.map λk=>Zp k)++[Zp k]))
  (E:J.grownBy s n.ownBlock) (D:n.ownBlock=some g\/g=J.heap.size) (a7:g<s.heap.size) :
  jC A I c j m e (d++[a]) (t++[k]) (g::f) u (.slice (some ⟨g,0,none⟩) (d.length+1) B) w (s.setCell ⟨j,2,none⟩ (.slice (some ⟨g,0,none⟩) (d.length+1) B)):=by
 obtain⟨H,O,b3⟩:=b.aj;obtain⟨c0,_⟩:=hn P (g:=g) rfl;have b2:=ap b.ai;have c8:=ap b.bD;have b6:=b.ao _ H;have c9:=b.ao _ O;have c1:=F.ar;have c2:=o.size;have c3:=E.size;have b8:g≠j:=by
  rcases D with v|v
  .exact(b.a6 g v).2.1
  omega
 have b9:g≠m:=by
  rcases D with v|v
  .exact(b.a6 g v).2.2
  omega
 have a1:∀k,n.ownBlock=some k->c.heap.size<=k/\k∈(A.ab f).X:=λk o=>⟨b.ao _ (b.a6 k o).1,Yf _ (b.a6 k o).1⟩;have L:=fs E;have x:am [j] s (s.setCell ⟨j,2,none⟩ (.slice (some ⟨g,0,none⟩) (d.length+1) B)):=(ak [j] s).ay (by simp) _;have G:am [] r J:=bh _ o;obtain⟨c4,c5,c6,c7⟩:=K.lt;have b4:j ∉ n.ownBlock.toList:=by
  intro a8;exact(b.a6 j (by simp_all)).2.1 rfl
 have b5:m ∉ n.ownBlock.toList:=by
  intro a8;exact(b.a6 m (by simp_all)).2.2 rfl
 have b1:=(((a9.F G (by simp)).F L b5).F x (by grind));have a5:s.heap[j]? = some (.cells #[.string ⟨e.1.toArray⟩,U e.2,n] 253):=
  (L.G _ (by omega) b4).trans ((G.G _ (by omega) (by simp)).trans ((F.G _ b2 (by grind)).trans b.ai))
 refine⟨?_,?_,⟨Y5 _ H,Y5 _ O,b3⟩,?_,b1,?_,?_,?_,?_,?_⟩
 .refine(((b.kp.b4 F ?_).b4 G (by simp)).b4 L ?_).b4 x (by simp_all);all_goals simp_all
 .exact K.b4 (cJ A (g::f)) (qp K (cJ A f) (a0.au o) E a1 D a7) x (by
   intro a2 p;simp only[Yc]at p;subst p;exact⟨b6,Yf _ (Y5 _ H)⟩)
 .intro b7 M;rcases Yg.1 M with rfl|M
  .omega
  .exact b.ao b7 M
 .exact bu (i:=2) a5 _
 .have:=bi P x (by
   grind [Value.ownBlock])
  simp_all
 .grind [Value.ownBlock]
 .simp[b.a2]
 .rw[List.zip_append (by exact b.a2),List.map_append];have a3:∀a∈[A.R,A.S,A.N,m],a∈(A.ab f).X:=by
   have:=a0.aj;intro a2 p;simp at p;rcases p with rfl|rfl|rfl|rfl
   .exact this.1
   .exact this.2.1
   .exact this.2.2.1
   .exact Yf _ O
  have b0:=b.cI.F F a3;have a4:bv (A.ab f).X (((t.zip d).map λz=>(z.1,jU z.2))++[(k,jU a)]) r:=by
   intro z y;rcases Yn.1 y with y|y
   .exact b0 z y
   .exact a6 z y
  exact((a4.F G (by simp)).bo E (λk o=>(a1 k o).2) D).F x (by
   intro a2 p;simp only[Yc]at p;subst p;exact Y5 _ (Yf _ H))
end
end Go.Proofs.YtjdhaegijjednaaGreatDoor
namespace Go.Proofs.YtjdhaegijjednaaGreatDoor
open Go.RowKit
open Go.Proofs.Tryz
structure dO where
 C:Nat
 text:Zb
 m:Nat
 fin:Nat
 n:Int
 e:Nat
abbrev fx(a:dO):Array Zv:=#[U a.C,Zs a.text,U a.m,U a.fin,U a.n,U a.e]
def fL(a:Zb)(b:Nat):dO:=match Mar.c5 (a.drop (eJ a b)) (eJ a b)with
 |.ok c=>⟨c.C,c.text,eJ a b,eJ a b+c.text.length,c.n,0⟩
 |.error d=>⟨5,[],eJ a b,0,0,d.no⟩
def OG{b:Zb}{a c:Nat}(n:a<b.length)(l:a<c)(m:c<=b.length)(j:∀d (g:d<b.length),a<d->d<c->Mar.cW b[d]=true)(k:∀f:c<b.length,Mar.cW b[c]=false):(b.drop a).take (c-a)=Mar.a4 (b.drop a):=by
 have:=ye ⟨(b.drop a).toArray⟩ (c-a) (by omega) (by simp[ByteArray.size];omega) (by
  intro d g h i;have e:d<(b.drop a).length:=by grind
  show Mar.cW ((b.drop a)[d]'e)=true;grind) (by
  intro f;have e:c-a<(b.drop a).length:=by simpa[ByteArray.size]using f
  show Mar.cW ((b.drop a)[c-a]'e)=false;grind)
 simp_all
def GE(c:Zb)(a b:Nat):(⟨c.toArray⟩:Za).extract a (a+b)=⟨((c.drop a).take b).toArray⟩:=by
 apply ByteArray.ext;simp
def Jo{a:Zb}(c:Mar.d2 a=true):¬16<a.length:=by
 have:Mar.h6.all (λb=>decide (b.length<=16))=true:=by rfl
 grind [Mar.d2]
def GB(a:Zb)(b:Nat):(⟨a.toArray⟩:Za).extract b a.length=⟨(a.drop b).toArray⟩:=by
 apply ByteArray.ext;simp only[ByteArray.data_extract];apply Array.ext';simp[Array.toList_extract,List.extract];exact List.take_of_length_le (by simp)
def OW(a:UInt8):Mar.f0 a=(((a.toNat:Int)==123)||((a.toNat:Int)==125)||((a.toNat:Int)==40)||((a.toNat:Int)==41)||((a.toNat:Int)==91)||((a.toNat:Int)==93)||((a.toNat:Int)==60)||((a.toNat:Int)==62)||((a.toNat:Int)==42)||((a.toNat:Int)==44)||((a.toNat:Int)==59)||((a.toNat:Int)==58)||((a.toNat:Int)==61)):=by
 have b:((a.toNat:Int)==123)=(a==123):=jx a 123 (by omega);have g:((a.toNat:Int)==125)=(a==125):=jx a 125 (by omega);have h:((a.toNat:Int)==40)=(a==40):=jx a 40 (by omega);have i:((a.toNat:Int)==41)=(a==41):=jx a 41 (by omega);have j:((a.toNat:Int)==91)=(a==91):=jx a 91 (by omega);have k:((a.toNat:Int)==93)=(a==93):=jx a 93 (by omega);have l:((a.toNat:Int)==60)=(a==60):=jx a 60 (by omega);have m:((a.toNat:Int)==62)=(a==62):=jx a 62 (by omega);have n:((a.toNat:Int)==42)=(a==42):=jx a 42 (by omega);have c:((a.toNat:Int)==44)=(a==44):=jx a 44 (by omega);have d:((a.toNat:Int)==59)=(a==59):=jx a 59 (by omega);have e:((a.toNat:Int)==58)=(a==58):=jx a 58 (by omega);have f:((a.toNat:Int)==61)=(a==61):=jx a 61 (by omega);rw[b,g,h,i,j,k,l,m,n,c,d,e,f];simp only[Mar.f0,List.contains_cons,List.contains_nil,Bool.or_false,Bool.or_assoc]
def Ao{a:Zb}{b:Nat}(c:b<=a.length):eJ a b<=a.length:=by
 grind [eJ,Mar.eT,Mar.k7]
def sL(b:Nat):Except Mar.aw Mar.aT->dO
 |.ok a=>⟨a.C,a.text,b,b+a.text.length,a.n,0⟩
 |.error c=>⟨5,[],b,0,0,c.no⟩
def Ez(a:Zb)(f:Nat)(p:f<=a.length)(d9:a.length<=2000)(k:Zw) :
  Calls prog 80 #[Zs a,U f] k λi c9=>i=.returned (.agg (fx (fL a f)))/\am [] k c9:=by
 have H:=λc7=>Ir a f p (by omega) c7;have b9:=Ao p;have E:fL a f=sL (eJ a f) (Mar.c5 (a.drop (eJ a f)) (eJ a f)):=by unfold fL sL;rfl
 generalize eJ a f=b at *
 have H:=Z H;rcases Yj b a.length with y|d5
 .have r:ac (fL a f=if Mar.eh a[b]then sL b (Mar.et (Mar.a4 (a.drop b)) b)else if Mar.dn a[b]||a[b]==45 then sL b (Mar.f1 (Mar.a4 (a.drop b)) b)else if Mar.f0 a[b]then ⟨4,[a[b]],b,b+1,0,0⟩else ⟨5,[],b,0,0,2⟩):=by
   show _=_;rw[E,Yk y];unfold Mar.c5;simp only;repeat' split
   all_goals rfl
  have d6:(0:Int)<=(b:Int):=by omega
  have d7:(b:Int)<(a.length:Int):=by omega
  have d8:((b:Int)==(a.length:Int))=false:=by rw[Yi];omega
  have d4:(⟨a.toArray⟩:Za)[b]'(by simp[ByteArray.size];exact y)=a[b]:=rfl;have b4:=Z (AS a[b]);have b2:=Z (wP a[b]);have F:=Z (OW a[b]);have d2:((a[b].toNat:Int)==45)=(a[b]==45):=jx _ 45 (by decide);have a1:ac ((a.drop b).take 1=[a[b]]/\∃O,Mar.a4 (a.drop b)=a[b]::O):=Z ⟨by rw[Yk y];rfl,_,by rw[Yk y];rfl⟩;have a9:ac ((a[b]==45)=true->a[b]=45):=Z (by simp);generalize b8:a[b]=m at *
  clear b8 b9 E;generalize b7:(m==45)=e at *
  generalize a5:Mar.eh m=w at *
  generalize a4:Mar.dn m=o at *
  have b1:=Z (Yp a5 a4);clear a5 a4 b7;go_in;go_wp2_with fail;refine(H.j _).mono ?_;rintro i s ⟨rfl,rfl⟩;go_wp2_with fail;refine(b4.j _).mono ?_;rintro i s ⟨rfl,rfl⟩;go_wp2_with fail;refine(b2.j _).mono ?_;rintro i s ⟨rfl,rfl⟩;go_upto_region 8 with fail;go_cut [40] (λb5 wc=>b5=.bool (w||o||e)/\k.alloc (.cells #[U 0,.string ⟨#[]⟩,U 0,U 0,U 0,U 0] 112)=wc);case first=>cases w<;>cases o<;>cases e<;>(go_wp2;go_meet;case rel=>exact⟨rfl,rfl⟩)
  case rest=>
  obtain⟨rfl,rfl⟩:=hcut;go_upto_if 40 with fail;go_cut [6,40] (λz _ wc=>∃c,z=U ((b+c.length:Nat):Int)/\ac (c=if w||o||e then Mar.a4 (a.drop b)else [m])/\(a.drop b).take c.length=c/\c.length<=a.length-b/\k.alloc (.cells #[U 0,.string ⟨#[]⟩,U 0,U 0,U 0,U 0] 112)=wc)
  case first=>
   cases a3:(w||o||e)with
   |false=>
    go_wp2;go_meet;case rel=>exact⟨[m],by go_num,Z (by simp[a3]),a1.j.1,by simp;omega,rfl⟩
   |true=>
    go_wp2_with fail;go_loopw [6] (λz c8=>∃d:Nat,z=U d/\b<d/\d<=a.length/\ac (∀j (K:j<a.length),b<j->j<d->Mar.cW a[j]=true)/\c8=k.alloc (.cells #[U 0,.string ⟨#[]⟩,U 0,U 0,U 0,U 0] 112)) (λz _=>a.length-(intOf z).toNat)
    case atStart=>exact⟨b+1,by go_num,by omega,y,(λj K x A=>by omega),rfl⟩
    case round=>
     obtain⟨d,rfl,c2,c1,D,rfl⟩:=hrel;have hW:ac ((∀g:d<a.length,Mar.cW a[d]=false)->∃c,(d:Int)=((b+c.length:Nat):Int)/\ac (c=if w||o||e then Mar.a4 (a.drop b)else [m])/\(a.drop b).take c.length=c/\c.length<=a.length-b):=Z λg=>by
      have a6:=OG y c2 c1 D.j g;have c0:d-b=(Mar.a4 (a.drop b)).length:=by rw[<-a6,YW,YI];omega
      exact⟨Mar.a4 (a.drop b),by omega,Z (by simp[a3]),by rw[<-c0];exact a6,by omega⟩
     rcases Yj d a.length with a0|a0
     .have f5:(0:Int)<=(d:Int):=by omega
      have d1:(d:Int)<(a.length:Int):=by omega
      have d3:(⟨a.toArray⟩:Za)[d]'(by simp[ByteArray.size];exact a0)=a[d]:=rfl;have I:=AS a[d];have G:=wP a[d];have B:Mar.cW a[d]=(Mar.eh a[d]||Mar.dn a[d]||((a[d].toNat:Int)==95)):=by
       unfold Mar.cW;congr 1;rw[Bool.eq_iff_iff];simp;omega
      have b0:ac (Mar.cW a[d]=true->∀j (K:j<a.length),b<j->j<d+1->Mar.cW a[j]=true):=Z λg j K x A=>by
       by_cases i:j=d
       .subst i;exact g
       .exact D.j j K x (by omega)
      cases S:Mar.eh a[d]<;>cases J:Mar.dn a[d]<;>cases b6:((a[d].toNat:Int)==95)<;>rw[S,J,b6]at B<;>rw[S]at I<;>rw[J]at G<;>replace I:=Z I<;>replace G:=Z G<;>replace B:=Z B<;>clear S J D
      all_goals
       go_wp2_with (first|(refine(I.j _).mono ?_;rintro i s ⟨rfl,rfl⟩)|(refine(G.j _).mono ?_;rintro i s ⟨rfl,rfl⟩))
      .go_meet;case rel=>
        obtain⟨c,x,A,P,R⟩:=hW.j (λ_=>B.j);exact⟨c,Yo _ x,A,P,R,rfl⟩
      all_goals exact⟨⟨d+1,by go_num,by omega,a0,Z (b0.j B.j),trivial⟩,by simp[intOf];omega⟩
     .have d1:¬((d:Int)<(a.length:Int)):=by omega
      clear D;go_wp2;go_meet;case rel=>
       obtain⟨c,x,A,P,R⟩:=hW.j (λg=>by omega);exact⟨c,Yo _ x,A,P,R,rfl⟩
  case rest=>
  obtain⟨c,rfl,u,a8,e1,rfl⟩:=hcut;have hcut:(⟨a.toArray⟩:Za).extract b (b+c.length)=⟨c.toArray⟩:=by rw[GE,a8]
  have c5:(b:Int)<=((b+c.length:Nat):Int):=by omega
  have c6:((b+c.length:Nat):Int)<=(a.length:Int):=by omega
  clear a8;cases w with
  |true=>
   have b3:=Z (Jn ⟨c.toArray⟩);have l:ac (fL a f=sL b (Mar.et c b)):=by show _=_;rw[r.j,u.j];rfl
   clear r u;go_wp2_with fail;refine(b3.j _).mono ?_;rintro i s ⟨rfl,rfl⟩;cases p:Mar.d2 c with
   |true=>
    have h:ac (fL a f=⟨2,c,b,b+c.length,0,0⟩):=by show _=_;rw[l.j];unfold Mar.et;rw[Y2 (Jo p),Y9 p];rfl
    clear p l;go_wp2;refine bodyPost_ret (v:=.agg (fx ⟨2,c,b,b+c.length,0,0⟩)) (by simp[results,results80,go_sem]) rfl ⟨by rw[h.j],(ak [] k).B _⟩
   |false=>
    by_cases a2:16<c.length
    .have h:ac (fL a f=⟨5,[],b,0,0,7⟩):=by show _=_;rw[l.j];unfold Mar.et;rw[Y9 a2];rfl
     have c4:(16:Int)<(c.length:Int):=by omega
     clear p l;go_wp2;refine bodyPost_ret (v:=.agg (fx ⟨5,[],b,0,0,7⟩)) (by simp[results,results80,go_sem]) rfl ⟨by rw[h.j],(ak [] k).B _⟩
    .have h:ac (fL a f=⟨1,c,b,b+c.length,0,0⟩):=by show _=_;rw[l.j];unfold Mar.et;rw[Y2 a2,Y2 (by rw[p];simp)];rfl
     have c4:¬((16:Int)<(c.length:Int)):=by omega
     clear p l;go_wp2;refine bodyPost_ret (v:=.agg (fx ⟨1,c,b,b+c.length,0,0⟩)) (by simp[results,results80,go_sem]) rfl ⟨by rw[h.j],(ak [] k).B _⟩
  |false=>
   cases t:(o||e)with
   |true=>
    obtain⟨O,q⟩:=a1.j.2;have M:c=m::O:=by rw[u.j,Y9 (by simpa using t)];exact q
    have a7:Mar.fd c=fN (if e then c.tail else c) e:=by
     cases e with
     |true=>rw[M,a9.j rfl];exact LX O
     |false=>rw[M];exact LZ (b1.j.2.trans (by simpa using t))
    have J:(⟨c.toArray⟩:Za).extract 1 c.length=⟨c.tail.toArray⟩:=by
     have i:=GB c 1;rw[List.drop_one]at i;exact i
    have e0:(1:Int)<=(c.length:Int):=by rw[M];simp;omega
    have n:=Ma (if e then c.tail else c) e (by split<;>(try simp)<;>omega)
    have l:ac (fL a f=match fN (if e then c.tail else c) e with|some N=>⟨3,c,b,b+c.length,N,0⟩|none=>⟨5,[],b,0,0,4⟩):=by
     show _=_;rw[r.j];have g:=u.j;rw[Y9 (by simpa using t)]at g;rw[Y2 (by simp),Y9 t,<-g];unfold Mar.f1;rw[a7];cases fN (if e then c.tail else c) e<;>rfl
    clear a7 M r u q;cases q:fN (if e then c.tail else c) e with
    |none=>
     rw[q]at n;have h:ac (fL a f=⟨5,[],b,0,0,4⟩):=by show _=_;rw[l.j,q]
     replace n:=Z n;clear q l;have c3:(none:Option Int).isSome=false:=rfl;cases e<;>cases o<;>(try cases t)<;>(go_wp2_with (refine(n.j _).mono ?_;rintro i s ⟨rfl,N,rfl,L⟩;clear n L);exact bodyPost_ret (v:=.agg (fx ⟨5,[],b,0,0,4⟩)) (by simp[results,results80,go_sem]) rfl ⟨by rw[h.j],(ak [] k).B _⟩)
    |some v=>
     rw[q]at n;have h:ac (fL a f=⟨3,c,b,b+c.length,v,0⟩):=by show _=_;rw[l.j,q]
     replace n:=Z n;clear q l;have c3:∀d0:Int,(some d0).isSome=true:=λ_=>rfl;cases e<;>cases o<;>(try cases t)<;>(go_wp2_with (refine(n.j _).mono ?_;rintro i s ⟨rfl,N,rfl,L⟩;obtain rfl:=L v rfl;clear n L);exact bodyPost_ret (v:=.agg (fx ⟨3,c,b,b+c.length,N,0⟩)) (by simp[results,results80,go_sem]) rfl ⟨by rw[h.j],(ak [] k).B _⟩)
   |false=>
    obtain⟨rfl,rfl⟩:o=false/\e=false:=by simpa using t
    obtain rfl:c=[m]:=u.j;simp only[List.length_singleton]at hcut c5 c6 ⊢;cases C:Mar.f0 m with
    |true=>
     have h:ac (fL a f=⟨4,[m],b,b+1,0,0⟩):=by show _=_;rw[r.j,C];rfl
     clear r;go_wp2;all_goals
      first
       |(exfalso;have g:=F.j;rw[C]at g;simp only[*, Bool.or_self]at g;done)
       |(exfalso;have g:=F.j;rw[C]at g;simp only[*, Bool.or_self, Bool.true_eq_false, reduceCtorEq]at g;done)
       |exact bodyPost_ret (v:=.agg (fx ⟨4,[m],b,b+1,0,0⟩)) (by simp[results,results80,go_sem]) rfl ⟨by rw[h.j],(ak [] k).B _⟩
    |false=>
     have h:ac (fL a f=⟨5,[],b,0,0,2⟩):=by show _=_;rw[r.j,C];rfl
     have g:=F.j;rw[C]at g;simp only[Bool.false_eq,Bool.or_eq_false_iff]at g;obtain⟨⟨⟨⟨⟨⟨⟨⟨⟨⟨⟨⟨e2,e7⟩,e8⟩,e9⟩,f0⟩,f1⟩,f2⟩,f3⟩,f4⟩,e3⟩,e4⟩,e5⟩,e6⟩:=g;clear r F;go_wp2;refine bodyPost_ret (v:=.agg (fx ⟨5,[],b,0,0,2⟩)) (by simp[results,results80,go_sem]) rfl ⟨by rw[h.j],(ak [] k).B _⟩
 .have h:ac (fL a f=⟨0,[],a.length,a.length,0,0⟩):=by
   show _=_;rw[E,show b=a.length by omega,List.drop_length];rfl
  obtain rfl:b=a.length:=by omega
  clear E;go_in;go_wp2_with fail;refine(H.j _).mono ?_;rintro i s ⟨rfl,rfl⟩;go_wp2;refine bodyPost_ret (v:=.agg (fx ⟨0,[],a.length,a.length,0,0⟩)) (by simp[results,results80,go_sem]) rfl ⟨by rw[h.j],(ak [] k).B _⟩
end Go.Proofs.YtjdhaegijjednaaGreatDoor
namespace Go.Proofs.YtjdhaegijjednaaGreatDoor
open Go.RowKit
open Go.MapKept
open Go.Proofs.Tryz
section
variable {a:Ad}{f h:Nat}{g d:List Nat}{l:List (Int×Int)}{b:List (Zb×Nat×Int)}{c:Zb×Nat}{i:Zv}{u w:Zw}{e j k:St}
def xn(w:Zw)(f:Nat):Nat:=match w.cell? (Zd f 2)with
 |some (.slice _ c _)=>c
 |_=>0
def Ja:(prog.info? 223).map (λa=>(a.zero,a.size,a.bytes))=some (some (.pointer none),1,8):=by kernel_rfl
def jC.fe{m:Za}(k:jC a m w f h c b d g l i e u):∃ad j,i=.slice ad b.length j:=by
 rcases k.row.2 with⟨rfl,p⟩|⟨o,j,n,rfl,_⟩;all_goals simp_all
def Kl{b:Ad}(k:ew b a){d:Za}(c:Nat)(j:Rd b d e w)(n:cT b h)(m:cQ h l w) :
  Calls prog 193 #[Zp a.R,U c,.map (some h)] w (we [a.R,a.S,a.N,h] b d w h (hE d c l e)):=by
 obtain⟨f,g,i,o⟩:=k;rw[<-f,<-g,<-i];exact Kk c j n m
def Km{d:Za}{c:Nat}{g:List (Int×Int)}{h:Zb×Nat×Int}(a:hE d c l e=.ok (h,g,j)):c<12:=by
 rcases Yj c 12 with b|b
 .omega
 .exfalso;unfold hE at a;cases f:ft d e with
  |error n=>simp_all[bm,cB]
  |ok i=>
   obtain⟨k,m⟩:=i;rw[aQ (bf f),bm (cB (show dS c 12 k.m m=_ from Y9 b))]at a;cases a
def AR{a e:Nat}{c d:Zv}{ad:Option Addr}{b:TypeId}(g:u.heap[f]? = some (.cells #[c,d,.slice ad a e] b)):xn u f=a:=by
 obtain⟨_,_,h,_⟩:=dJ g;unfold xn;rw[h]
def jC.b5{o:Za}{p:Zw}(t:Rd a o k w)(m:jC a o w f h c b d g l i e u)(n:am [a.S] u p)(q:Rd (a.ab g) o j p) :
  jC a o w f h c b d g l i j p:=by
 obtain⟨x,y,z,A⟩:=t.lt;have B:=m.ao _ m.aj.1;have C:=m.ao _ m.aj.2.1;refine⟨m.kp.u (n.K (by simp)),q,m.aj,m.ao,m.bD.F n (by grind),(n.G _ (ap m.ai) (by grind)).trans m.ai,bi m.row n ?_,m.a6,m.a2,m.cI.F n (by intro D r;simp only[Yc]at r;subst r;exact q.aj.2.1)⟩;intro s v;have:=m.ao _ (m.a6 s v).1;grind
theorem jC.fin{v:Za}(t:Rd a v k w)(n:jC a v w f h c b d g l i e u)(P:b.length<=12)
  {B:Except Mar.aw (aB×St)} (A:B=.ok (.enum c.1 c.2 b,e)):ga [a.R,a.S,a.N] a v w B (.returned (Zp f)) u:=by
 have C:∀r,w.heap.size<=r->r ∉ a.X:=λr I E=>by have:=t.aY _ E;omega
 have F:bv a.X ((d.zip b).map λj=>(j.1,jU j.2)) u:=n.cI.b9 (λa0 G=>Ym _ G);have H:u.heap[f]? = some (.cells #[.string ⟨c.1.toArray⟩,U c.2,i] 253)/\f ∉ a.X:=⟨n.ai,C _ (n.ao _ n.aj.1)⟩;have z:∀m (o:m<b.length) (q:m<d.length),(d[m],jU b[m])∈((d.zip b).map λj=>(j.1,jU j.2)):=by
  intro m o q;rw[YE];exact⟨(d[m],b[m]),by grind [List.mem_iff_getElem],rfl⟩
 refine⟨n.kp,Y8 ⟨.enum c.1 c.2 b,e,f,?_⟩⟩;rcases n.row.2 with⟨rfl,o⟩|⟨s,x,y,rfl,J,K,D,L,M,O⟩
 .refine⟨(f,.cells #[.string ⟨c.1.toArray⟩,U c.2,.slice none 0 0] 253)::((d.zip b).map λj=>(j.1,jU j.2)),A,rfl,jj t.aj n.rd,⟨.slice none 0 0,d,Yb,n.a2,Y8 ⟨rfl,o,?_⟩,λm o q=>Y5 _ (z m o q)⟩,?_⟩
  .grind [a2]
  .intro j p;simp_all
 .refine⟨(f,.cells #[.string ⟨c.1.toArray⟩,U c.2,.slice (some ⟨s,0,none⟩) b.length x] 253)::(s,.cells y 223)::((d.zip b).map λj=>(j.1,jU j.2)),A,rfl,jj t.aj n.rd,⟨_,d,Yb,n.a2,Ya ⟨s,x,y,rfl,⟨D,by omega⟩,by simp,?_⟩,λm o q=>Y5 _ (Y5 _ (z m o q))⟩,?_⟩
  .grind
  .intro j p;rcases Yg.1 p with rfl|p
   .omega
   .rcases Yg.1 p with rfl|p
    .grind
    .exact F j p
def Hz{k:Za}(s:Nat)(y:Rd a k e w) :
  Calls prog 121 #[Zp a.R,U s] w (ga [a.R,a.S,a.N] a k w (gX k s e)):=by
 have j7:=iT;have j8:=jr;obtain⟨h7,g0,h3,h4,h5⟩:=info_parts Ja;go_in;go_wp2_with fail;refine(uN s y).mono ?_;rintro z k8 ⟨b0,⟨u,l2,F,rfl,d9⟩|⟨q,F,m,n,rfl,o⟩⟩;rotate_left
 .exact aC (dr (b0.K (by simp)) (ak [] _) (bl F) n o)
 have P:=b0.K (M':=[a.R,a.S,a.N]) (by simp);clear b0;go_wp2_with fail;refine(sH d9).mono ?_;rintro z C ⟨b1,⟨c,l3,J,rfl,b5⟩|⟨q,J,m,n,rfl,o⟩⟩;rotate_left
 .exact aC (dr (P.u (b1.K (by simp))) P ((aE F).trans (bl J)) n o)
 have a5:=P.u (b1.K (M':=[a.R,a.S,a.N]) (by simp));clear b1 P;dsimp only[fY];have c7:=b5.aY;have j6:=b5.lt.2.1;have e0:=b5.a6 (.cells #[.string ⟨c.1.toArray⟩,U c.2,.slice none 0 0] 253);have b6:=aS (w:=C) (o:=.cells #[.string ⟨c.1.toArray⟩,U c.2,.slice none 0 0] 253) rfl;have a0:=a5.B (.cells #[.string ⟨c.1.toArray⟩,U c.2,.slice none 0 0] 253);have g9:C.heap.size ∉ [a.S]:=by simp;omega
 go_wp2_with fail;refine(ff (ex a _) _ e0).mono ?_;rintro z r ⟨a1,⟨k9,c0,a2,rfl,e1⟩|⟨q,a2,m,n,rfl,o⟩⟩;rotate_left
 .exact aC (dr (a0.u (a1.K (by simp))) a0 ((aE F).trans ((aE J).trans (bl a2))) n o)
 have b7:=(a1.G _ (ap b6) g9).trans b6;have g6:=ap b7;have a6:=a0.u (a1.K (M':=[a.R,a.S,a.N]) (by simp));have c6:gX k s e=gL k c 13 [] [] c0:=(aE F).trans ((aE J).trans (aE a2));have d5:jC a k w C.heap.size r.heap.size c [] [] [r.heap.size,C.heap.size] [] (.slice none 0 0) c0 (r.alloc (.map #[] 0)):=by
  have g2:am [] r (r.alloc (.map #[] 0)):=(ak [] r).B _;refine⟨a6.B _,e1.a6 _,⟨by simp,by simp,by omega⟩,?_,aS (w:=r) rfl,(g2.G _ g6 (by simp)).trans b7,⟨rfl,Y8 ⟨rfl,rfl⟩⟩,(by intro A H;cases H),rfl,(by intro k5 h0;cases h0)⟩;intro L h2;have k6:=a5.ar;have k7:=a6.ar;simp at h2;omega
 have c2:=Z d5;have c1:=Z c6;have j1:=Z c7;clear a1 b6 a0 e0 d5 c6 b7 a6 e1 F J a2 d9 a5 c7;go_wp2;go_loopw [7] (λm u=>∃(L:Bool) (b:List (Zb×Nat×Int)) (d g:List Nat) (l:List (Int×Int)) (i:Zv) (j:St),m=.bool L/\b.length<=12/\ac (jC a k w C.heap.size r.heap.size c b d g l i j u)/\
   ac (gX k s e=(if L then gL k c (13-b.length) b l else oe k c b) j)) (λ_ u=>13-xn u C.heap.size)
 case atStart=>exact⟨true,[],[],_,[],_,c0,rfl,by simp,c2,c1⟩
 case round=>
  obtain⟨L,b,d,g,l,i,j,rfl,g7,f,M⟩:=hrel;clear c2 c1;cases L with
  |false=>
   go_wp2_with fail;refine(ff (cJ a g) _ f.j.rd).mono ?_;rintro z h ⟨p,⟨l0,i9,x,rfl,I⟩|⟨q,x,m,n,rfl,o⟩⟩;rotate_left
   .exact aC (dr (f.j.kp.u (p.K (by simp))) f.j.kp (M.j.trans (bl x)) n o)
   have O:=Z (f.j.b5 y p I);clear p I;go_wp2_with fail;refine(ff (cJ a g) _ O.j.rd).mono ?_;rintro z G ⟨b3,⟨l1,l4,b8,rfl,e2⟩|⟨q,b8,m,n,rfl,o⟩⟩;rotate_left
   .exact aC (dr (O.j.kp.u (b3.K (by simp))) O.j.kp (M.j.trans ((aE x).trans (bl b8))) n o)
   have D:=Z (O.j.b5 y b3 e2);clear b3 e2;go_wp2;go_ret;exact D.j.fin y g7 (M.j.trans ((aE x).trans (aE b8)))
  |true=>
   obtain⟨ad,E,rfl⟩:=f.j.fe;obtain⟨k2,k3,k4,j5⟩:=dJ f.j.ai;have d0:Below wr.heap.size wr wr.drew:=(Below.refl _ _).drew;have f0:=Z (Kl (cJ a g) b.length (f.j.rd.au d0) (f.j.bB y) ((d0.block _ (ap f.j.bD)).trans f.j.bD));have j0:ac (13-b.length=(12-b.length)+1):=by show _=_;omega
   have a4:ac (gX k s e=gL k c ((12-b.length)+1) b l j):=by
    grind
   clear M;have d2:∀(q:Mar.aw) (m:Nat) (a3:Zw),hE k b.length l j=.error q->wr.heap.size<=m->am [a.R,a.S,a.N,r.heap.size] wr.drew a3->a3.heap[m]? = some (.cells #[U q.no,U q.m] 179)->
     ga [a.R,a.S,a.N] a k w (gX k s e) (.panicked [{ v:=.iface 143 (Zp m),recovered:=false }]) a3:=by
    intro q m a3 f7 f5 g1 f6;have k1:=f.j.ao _ f.j.aj.2.1;refine dr (f.j.kp.b4 (((ak _ wr).aq).u g1) ?_) f.j.kp (a4.j.trans (ux f7)) f5 f6;simp_all
   have f1:=Z d2;have h1:∀A,(Value.slice ad b.length E).ownBlock=some A->A ∉ [a.R,a.S,a.N,r.heap.size]:=by
    intro A H;have c4:=f.j.a6 A H;have f4:=f.j.ao _ c4.1;obtain⟨h8,h9,i0,i1⟩:=y.lt;grind
   have a7:∀h,am [a.R,a.S,a.N,r.heap.size] wr.drew h->(∀B,(h.alloc B).ownsRow w.heap.size 223 1 (.slice ad b.length E) b.length (d.map λm=>Zp m))/\
     h.heap[C.heap.size]? = some (.cells #[.string ⟨c.1.toArray⟩,U c.2,.slice ad b.length E] 253)/\w.heap.size<=h.heap.size:=by
    intro h p;have b2:=((ak _ wr).aq).u p;have c4:=f.j.ao _ f.j.aj.1;obtain⟨h8,h9,i0,i1⟩:=y.lt;have f4:=f.j.aj.2.2;refine⟨λB=>bi (bi f.j.row b2 h1) ((ak [] h).B B) (by simp),(b2.G _ (ap f.j.ai) (by simp;omega)).trans f.j.ai,Yz f.j.kp.ar b2.ar⟩
   have e8:=Z a7;have c9:∀h B G,am [a.R,a.S,a.N,r.heap.size] wr.drew h->(h.alloc B).grownBy G (Value.slice ad b.length E).ownBlock->G.heap[C.heap.size]? = some (.cells #[.string ⟨c.1.toArray⟩,U c.2,.slice ad b.length E] 253):=by
    intro h B G p H;obtain⟨_,c5,_⟩:=a7 h p;have g3:=ap c5;exact(H.block _ (by simp;omega) (λz=>(f.j.a6 _ z.symm).2.1 rfl)).trans ((((ak [] h).B B).G _ g3 (by simp)).trans c5)
   have e9:=Z c9;have h6:(Value.pointer none).cells.size=1:=rfl;have g4:b.length+1<=maxLen:=by unfold maxLen;omega
   have g5:(b.length+1)*8<=140737488355328:=by omega
   clear d2 a7 c9;go_wp2_with fail;go_region_law (first
    |(go_simp;go_at_call 193;refine f0.j.mono ?_;rintro z h ⟨p,⟨K,e4,i9,m,x,rfl,I,d6,d3⟩|⟨q,x,m,n,rfl,o⟩⟩;rotate_left;exact(show bodyPost prog Tryz.f121 (ga [a.R,a.S,a.N] a k w (gX k s e)) (Exit.panic _) _ h from aC (f1.j q m h x n p o));dsimp only;obtain⟨d7,a8,k0⟩:=e8.j h p;obtain⟨i3,i4,i5,f8⟩:=dJ a8;have g8:=ap a8;have j9:=Nat.ne_of_lt g8)
    |(refine step_append_lies _ (by rfl) _ _ _ (by rfl) w.heap.size 223 h7 _ 1 8 underlying251 g0 h3 h4 h5 h6 (by omega) (.slice ad b.length E) b.length (d.map λm=>Value.pointer (some ⟨m,0,none⟩)) (by rfl) (d7 _) ⟨h.heap.size,0,none⟩ 1 1 [.pointer (some ⟨m,0,none⟩)] (by rfl) (by rfl) (World.news_of_block (cs:=#[.pointer (some ⟨m,0,none⟩)]) (t:=223) (fr:=(0,0)) (heap_alloc_new h _)) (by simp[Value.oneCell']) (by omega) g4 g5 (by simp;omega) (h.heap.size+1) (by simp) ?_;intro A j3 G d8 a9 c8 d4;have d1:=e9.j h _ G p a9;obtain⟨i6,i7,i8,f9⟩:=dJ d1))
   all_goals
    have j4:=Km x
    have D:=Z (Ef y f.j (((ak _ wr).aq).u p) I d6 d3 ((Below.refl h.heap.size h).alloc (Y4 _) _) d8 a9 (by simpa using c8) d4)
    clear p I d6 d3 d8 a9 c8 d4 d1 i6 i7 i8 f9 a8 i3 i4 i5 f8 d7
    go_wp2_with fail
    refine(mN (cJ a (A::g)) _ D.j.rd).mono ?_
    rintro z i2 ⟨b4,⟨e5,e6,b9,rfl,e3⟩|⟨q,b9,j2,n,rfl,o⟩⟩
    rotate_left
    .exact(show bodyPost prog Tryz.f121 (ga [a.R,a.S,a.N] a k w (gX k s e)) (Exit.panic _) _ i2 from aC (dr (D.j.kp.u (b4.K (by simp))) D.j.kp (a4.j.trans ((sB x).trans (bl b9))) n o))
    have c3:=Z (D.j.b5 y b4 e3)
    have e7:ac (gX k s e=(if e5=true then gL k c (13-(b++[K]).length) (b++[K]) e4 else oe k c (b++[K])) e6):=by
     refine a4.j.trans ((sB x).trans ((aE b9).trans ?_));have:13-(b++[K]).length=12-b.length:=by simp
     rw[this]
    have f2:=AR f.j.ai
    have f3:=AR c3.j.ai
    clear b4 e3
    go_wp2
    refine⟨⟨e5,b++[K],d++[m],A::g,e4,_,e6,rfl,by simp;omega,c3,e7⟩,?_⟩
    rw[f2,f3]
    omega
end
section
variable {b:Ad}{c:Zw}{a:St}{d:Type}
def jE(b:Ad)(c:Zw)(j:List Nat->d->St->Zw->Prop)(g:Except Mar.aw (Unit×d×St))(f:Ending)(e:Zw):Prop:=
 (∃k h i,g=.ok ((),h,i)/\f=.returned (.tuple #[])/\j k h i e)\/(∃a,g=.error a/\am [b.R,b.S,b.N] c e/\fa c a.no a.m f e)
def lN{M':List Nat}{w1 e:Zw}{h:List Nat->d->St->Zw->Prop}{g:Except Mar.aw (Unit×d×St)}{f:Mar.aw}{a:Nat}
  (k:am [b.R,b.S,b.N] c e) (l:am M' c w1) (m:g=.error f) (i:w1.heap.size<=a) (j:e.heap[a]? = some (.cells #[U f.no,U f.m] 179)) :
  jE b c h g (.panicked [{ v:=.iface 143 (Zp a),recovered:=false }]) e:=
 Ya ⟨f,m,k,a,Yz l.ar i,rfl,j⟩
structure tG(d:Type)(b:Ad)(text:Za)(c:Zw)(lz:Nat) where
 f:Nat
 i2:Array Zv
 a4:PX d Unit
 J:Nat->List Nat->d->St->Zw->Prop
 fq:∀(args:Array Zv) (u:Zw),(callFunc f args).run prog u=.ok (.enter f args) u
 rd:∀{n Y t a u},J n Y t a u->Rd (b.ab Y) text a u
 kp:∀{n Y t a u},J n Y t a u->am [b.R,b.S,b.N] c u
 b5:∀{n Y t a σ' u u'},J n Y t a u->am [b.S] u u'->Rd (b.ab Y) text σ' u'->J n Y t σ' u'
 call:∀{n Y t a u},n<lz->J n Y t a u->Calls prog f i2 u (jE b c (J (n+1)) (a4 t a))
def hR(b:Za)(lz:Nat)(c:PX d Unit):Nat->Nat->PX d Unit
 |0,_=>lift (fi 0 0)
 |k+1,a=>aG (if a=0 then cX false else lift (cZ b [125])) λf=>if f then cX ()else
   aG (lift (ft b)) λe=>aG (lift (dS a lz e.m)) λ_=>aG c λ_=>hR b lz c k (a+1)
def ei(a:Za)(lz:Nat)(b:PX d Unit):PX d Unit:=aG (lift (bY a [123])) λ_=>hR a lz b (lz+2) 0
def xS{d:Ad}(h:ew d b){e:Za}(g:Rd d e a c) :
  Calls prog 72 #[Zp b.S] c (dx [b.S] d e c (ft e a) cL):=by
 obtain⟨i,f,j,k⟩:=h;rw[<-f];exact xT g
def mb(c:Za)(lz:Nat)(b:PX d Unit)(e a:Nat):PX d Unit:=
 aG (lift (ft c)) λf=>aG (lift (dS a lz f.m)) λ_=>aG b λ_=>hR c lz b e (a+1)
def wu{h:Za}(lz:Nat)(e:tG d b h c lz){i:List Nat}{g:d}{j:Zw}(c4:lz<=1000)(G:e.J 0 i g a j) :
  Calls prog 195 #[Zp b.R,U lz,.func (.func e.f) #[] e.i2] j (jE b c (λi g a j=>∃f≤lz,e.J f i g a j) (ei h lz e.a4 g a)):=by
 have c2:=e.fq;have c3:=Al;go_in;go_wp2_with fail;refine(ff (cJ b i) _ (e.rd G)).mono ?_;rintro o c5 ⟨a3,⟨c6,b8,M,rfl,b5⟩|⟨p,M,n,k,rfl,l⟩⟩;rotate_left
 .exact aC (lN ((e.kp G).u (a3.K (by simp))) (e.kp G) (bm (cB M)) k l)
 have c1:=Z (e.b5 G a3 b5);have c0:ac (ei h lz e.a4 g a=hR h lz e.a4 (lz+2) 0 g b8):=aQ (bf M);dsimp only[cL];go_wp2;go_loopw [6] (λN b7=>∃(f:Nat) (y:List Nat) (s:d) (D:St),N=U f/\f<=lz/\ac (e.J f y s D b7)/\ac (ei h lz e.a4 g a=hR h lz e.a4 (lz+2-f) f s D)) (λN _=>lz+1-(intOf N).toNat)
 case atStart=>grind
 case round=>
  obtain⟨f,y,s,D,rfl,b4,v,b9⟩:=hrel;have H:ac (ei h lz e.a4 g a=hR h lz e.a4 ((lz+1-f)+1) f s D):=by
   grind
  by_cases a2:f=0
  .have b2:wr.cell? (Zd b.R 0)=some (Zp b.S):=(e.rd v.j).al.1;have E:ac (ei h lz e.a4 g a=mb h lz e.a4 (lz+1-f) f s D):=by
    refine H.j.trans ?_;simp only[hR,Y9 a2];rfl
   have F:=v;have b3:((f:Int)==0)=true:=by grind
   go_wp2_with fail;refine(xS (cJ b y) (e.rd F.j)).mono ?_;rintro o P ⟨A,⟨t,u,m,rfl,L⟩|⟨p,m,n,k,rfl,l⟩⟩;rotate_left
   .exact(show bodyPost prog Tryz.f195 (jE b c (λi g a j=>∃f≤lz,e.J f i g a j) (ei h lz e.a4 g a)) (Exit.panic _) _ P from aC (lN ((e.kp F.j).u (A.K (by simp))) (e.kp F.j) (E.j.trans (bm (cB m))) k l))
   have q:=Z (e.b5 F.j A L);dsimp only[cL];go_wp2_with fail;by_cases z:lz<=f
   .refine(pJ _ _ _ _ (by omega)).mono ?_;rintro o C ⟨⟨n,k,rfl,l⟩,J⟩;exact(show bodyPost prog Tryz.f195 (jE b c (λi g a j=>∃f≤lz,e.J f i g a j) (ei h lz e.a4 g a)) (Exit.panic _) _ C from aC (lN (f:=⟨5,t.m⟩) ((e.kp q.j).u (bh _ J)) (e.kp q.j) (E.j.trans ((aQ (bf m)).trans (bm (cB (show dS f lz t.m u=_ from Y9 z))))) k l))
   have B:dS f lz t.m u=.ok ((),u):=Y2 z;refine(pK _ _ _ _ (by omega)).mono ?_;rintro o C ⟨rfl,rfl⟩;go_wp2_with fail;refine(e.call (by omega) q.j).mono ?_;rintro o a0 (⟨b1,O,a1,r,rfl,I⟩|⟨p,r,K,n,k,rfl,l⟩);rotate_left
   .exact(show bodyPost prog Tryz.f195 (jE b c (λi g a j=>∃f≤lz,e.J f i g a j) (ei h lz e.a4 g a)) (Exit.panic _) _ a0 from aC (Ya ⟨p,E.j.trans ((aQ (bf m)).trans ((aQ (bf B)).trans (bm r))),K,n,k,rfl,l⟩))
   have b0:=Z I;have a9:ac (ei h lz e.a4 g a=hR h lz e.a4 (lz+2-(f+1)) (f+1) O a1):=by
    refine E.j.trans ((aQ (bf m)).trans ((aQ (bf B)).trans ((aQ r).trans ?_)));simp
   go_wp2;grind [intOf]
  .have b3:((f:Int)==0)=false:=by simp_all
   go_wp2_with fail;refine(mN (cJ b y) _ (e.rd v.j)).mono ?_;rintro o a6 ⟨a4,⟨a7,a8,a5,rfl,b6⟩|⟨p,a5,n,k,rfl,l⟩⟩;rotate_left
   .refine(show bodyPost prog Tryz.f195 (jE b c (λi g a j=>∃f≤lz,e.J f i g a j) (ei h lz e.a4 g a)) (Exit.panic _) _ a6 from aC (lN ((e.kp v.j).u (a4.K (by simp))) (e.kp v.j) (H.j.trans ?_) k l));simp_all[hR,bm,cB]
   have w:=Z (e.b5 v.j a4 b6);have x:ac (ei h lz e.a4 g a=(if a7=true then cX ()else mb h lz e.a4 (lz+1-f) f) s a8):=by
    refine H.j.trans ?_;simp only[hR,Y2 a2];exact aQ (bf a5)
   have b2:a6.cell? (Zd b.R 0)=some (Zp b.S):=(e.rd w.j).al.1;cases a7 with
   |true=>
    go_wp2;go_end0;exact Y8 ⟨_,s,a8,x.j,rfl,f,b4,w.j⟩
   |false=>
    go_wp2_with fail;refine(xS (cJ b y) (e.rd w.j)).mono ?_;rintro o P ⟨A,⟨t,u,m,rfl,L⟩|⟨p,m,n,k,rfl,l⟩⟩;rotate_left
    .exact(show bodyPost prog Tryz.f195 (jE b c (λi g a j=>∃f≤lz,e.J f i g a j) (ei h lz e.a4 g a)) (Exit.panic _) _ P from aC (lN ((e.kp w.j).u (A.K (by simp))) (e.kp w.j) (x.j.trans (bm (cB m))) k l))
    have q:=Z (e.b5 w.j A L);dsimp only[cL];go_wp2_with fail;by_cases z:lz<=f
    .refine(pJ _ _ _ _ (by omega)).mono ?_;rintro o C ⟨⟨n,k,rfl,l⟩,J⟩;exact(show bodyPost prog Tryz.f195 (jE b c (λi g a j=>∃f≤lz,e.J f i g a j) (ei h lz e.a4 g a)) (Exit.panic _) _ C from aC (lN (f:=⟨5,t.m⟩) ((e.kp q.j).u (bh _ J)) (e.kp q.j) (x.j.trans ((aQ (bf m)).trans (bm (cB (show dS f lz t.m u=_ from Y9 z))))) k l))
    have B:dS f lz t.m u=.ok ((),u):=Y2 z;refine(pK _ _ _ _ (by omega)).mono ?_;rintro o C ⟨rfl,rfl⟩;go_wp2_with fail;refine(e.call (by omega) q.j).mono ?_;rintro o a0 (⟨b1,O,a1,r,rfl,I⟩|⟨p,r,K,n,k,rfl,l⟩);rotate_left
    .exact(show bodyPost prog Tryz.f195 (jE b c (λi g a j=>∃f≤lz,e.J f i g a j) (ei h lz e.a4 g a)) (Exit.panic _) _ a0 from aC (Ya ⟨p,x.j.trans ((aQ (bf m)).trans ((aQ (bf B)).trans (bm r))),K,n,k,rfl,l⟩))
    have b0:=Z I;have a9:ac (ei h lz e.a4 g a=hR h lz e.a4 (lz+2-(f+1)) (f+1) O a1):=by
     refine x.j.trans ((aQ (bf m)).trans ((aQ (bf B)).trans ((aQ r).trans ?_)));simp
    go_wp2;grind [intOf]
end
def tQ(w:Zw):Calls prog 194 #[] w λd c=>∃b a,d=.returned (bb b a).v/\w.heap.size<=b/\w.heap.size<=a/\b≠a/\(bb b a).I [] c/\Below w.heap.size w c/\c.heap[a]? = some (.cells #[.map (some b)] 103):=by
 have h:=jr;have g:=iT;go_in;go_wp2;go_ret;have e:(w.alloc (.map #[] 0)).heap.size=w.heap.size+1:=by simp
 refine⟨w.heap.size,w.heap.size+1,rfl,by omega,by omega,by omega,?_,((Below.refl w.heap.size w).alloc (Y4 _) _).alloc (by omega) _,?_⟩
 .have f:((w.alloc (.map #[] 0)).alloc (.cells #[.map (some w.heap.size)] 103)).heap[w.heap.size]? = some (.map #[] 0):=
   (((ak [] (w.alloc (.map #[] 0))).B _).G _ (by omega) (by simp)).trans (aS (w:=w) rfl)
  exact⟨by simp,[],rfl,f⟩
 .rw[<-e];exact aS (w:=w.alloc (.map #[] 0)) rfl
section
variable {c:Ad}{f:List Nat}{h:List aO}{l:Zb×Nat}{k:Zv}{m:Zc}{e j:Zw}{n o p:St}
structure dy where
 D:Nat
 rb:Nat
 db:Nat
 cb:Nat
 q:Nat
 bx:Nat
def dy.b8(a:dy):List Nat:=[a.D,a.rb,a.db,a.cb,a.q]
structure jH(c:Ad)(text:Za)(j:Zw)(a:dy)(l:Zb×Nat)(h:List aO)(f:List Nat)(m:Zc)(k:Zv)(n:St)(e:Zw):Prop where
 kp:am [c.R,c.S,c.N] j e
 rd:Rd (c.ab f) text n e
 aj:∀b∈a.b8,b∈f
 nd:a.b8.Nodup
 ao:∀y∈f,j.heap.size<=y
 a6:∀g,k.ownBlock=some g->g∈f/\g ∉ a.b8
 a9:dp a.q m e
 cl:bv (c.ab f).X (bb a.q a.bx).bs e
 ai:e.heap[a.D]? = some (.cells #[.string ⟨l.1.toArray⟩,U l.2,k] 353)
 vr:e.heap[a.rb]? = some (.cells #[Zp c.R] 145)
 vd:e.heap[a.db]? = some (.cells #[Zp a.D] 229)
 vc:e.heap[a.cb]? = some (.cells #[(bb a.q a.bx).v] 341)
 row:e.ownsRow j.heap.size 242 3 k h.length (h.flatMap ek)
def jH.b5{g:Za}{r:Zw}{i:dy}(v:Rd c g p j)(a:jH c g j i l h f m k n e)(b:am [c.S] e r)(s:Rd (c.ab f) g o r) :
  jH c g j i l h f m k o r:=by
 obtain⟨y,z,A,B⟩:=v.lt;have d:∀q∈i.b8,q ∉ [c.S]:=λq w=>by have:=a.ao _ (a.aj q w);grind
 refine⟨a.kp.u (b.K (by simp)),s,a.aj,a.nd,a.ao,a.a6,a.a9.F b (d _ (by simp[dy.b8])),a.cl.F b (by intro C t;simp only[Yc]at t;subst t;exact s.aj.2.1),(b.G _ (ap a.ai) (d _ (by simp[dy.b8]))).trans a.ai,
  (b.G _ (ap a.vr) (d _ (by simp[dy.b8]))).trans a.vr,(b.G _ (ap a.vd) (d _ (by simp[dy.b8]))).trans a.vd,(b.G _ (ap a.vc) (d _ (by simp[dy.b8]))).trans a.vc,bi a.row b ?_⟩
 intro u x;have:=a.ao _ (a.a6 u x).1;grind
def EO{C:Za}{w E t:Zw}{b:dy}{g x:Nat}{a4:Zc}{d:aO}(F:Rd c C p j)
  (s:jH c C j b l h f m k n e) (z:am [c.S,b.q] e w) (R:Rd (c.ab f) C o w) (b0:dp b.q a4 w) (r:Below w.heap.size w E)
  (O:t.ownsRow j.heap.size 242 3 (.slice (some ⟨g,0,none⟩) (h.length+1) x) (h.length+1) (h.flatMap ek++ek d))
  (y:E.grownBy t k.ownBlock) (G:k.ownBlock=some g\/g=E.heap.size) (a9:g<t.heap.size) :
  jH c C j b l (h++[d]) (g::f) a4 (.slice (some ⟨g,0,none⟩) (h.length+1) x) o (t.setCell ⟨b.D,2,none⟩ (.slice (some ⟨g,0,none⟩) (h.length+1) x)):=by
 obtain⟨b9,_⟩:=hn O (g:=g) rfl;have B:b.D∈b.b8:=by simp[dy.b8]
 have b4:b.rb∈b.b8:=by simp[dy.b8]
 have b3:b.db∈b.b8:=by simp[dy.b8]
 have b2:b.cb∈b.b8:=by simp[dy.b8]
 have a1:b.q∈b.b8:=by simp[dy.b8]
 have b1:=s.nd;simp only[dy.b8,List.nodup_cons,Yg,List.not_mem_nil,or_false,not_or]at b1;have a6:∀a∈b.b8,j.heap.size<=a:=λa r=>s.ao _ (s.aj a r);have M:∀a∈b.b8,a<e.heap.size:=λa r=>by
  have:=s.rd.aY a (Yf _ (s.aj a r));omega
 have c0:=z.ar;have c1:=r.size;have c2:=y.size;have b6:g ∉ b.b8:=by
  rcases G with K|K
  .exact(s.a6 g K).2
  grind
 have a0:∀a,k.ownBlock=some a->j.heap.size<=a/\a∈(c.ab f).X:=λa r=>⟨s.ao _ (s.a6 a r).1,Yf _ (s.a6 a r).1⟩;have H:=fs y;have v:am [b.D] t (t.setCell ⟨b.D,2,none⟩ (.slice (some ⟨g,0,none⟩) (h.length+1) x)):=(ak [b.D] t).ay (by simp) _;have A:am [] w E:=bh _ r;obtain⟨c3,c4,c5,c6⟩:=F.lt;have a3:∀a∈b.b8,a ∉ k.ownBlock.toList:=by
  intro a r N;exact(s.a6 a (by simp_all)).2 r
 have a5:∀a∈b.b8,a≠b.q->t.heap[a]? = e.heap[a]?:=by
  intro a r P;have L:=M a r;have b7:=a6 a r;exact(H.G _ (by omega) (a3 a r)).trans ((A.G _ (by omega) (by simp)).trans (z.G _ L (by grind)))
 have J:∀a∈b.b8,a≠b.q->a≠b.D->(t.setCell ⟨b.D,2,none⟩ (.slice (some ⟨g,0,none⟩) (h.length+1) x)).heap[a]? = e.heap[a]?:=by
  intro a r P b8;have L:=M a r;exact(v.G _ (by omega) (by simp_all)).trans (a5 a r P)
 have a8:∀a2∈[c.S,b.q],a2∈(c.ab f).X:=by
  intro a7 u;simp at u;rcases u with rfl|rfl
  .exact R.aj.2.1
  .exact Yf _ (s.aj _ a1)
 refine⟨?_,?_,λa r=>Y5 _ (s.aj a r),s.nd,?_,?_,?_,?_,?_,?_,?_,?_,?_⟩
 .refine(((s.kp.b4 z ?_).b4 A (by simp)).b4 H ?_).b4 v ?_
  .intro a2 N;simp at N ⊢;grind
  .grind
  grind
 .exact F.b4 (cJ c (g::f)) (qp F (cJ c f) (R.au r) y a0 G a9) v (by
   intro a7 u;simp only[Yc]at u;subst u;exact⟨a6 _ B,Yf _ (Y5 _ (s.aj _ B))⟩)
 .intro b5 I;rcases Yg.1 I with rfl|I
  .omega
  .exact s.ao b5 I
 .grind [Value.ownBlock]
 .exact((b0.F A (by simp)).F H (a3 _ a1)).F v (by grind)
 .exact(((s.cl.F z a8).F A (by simp)).bo y (λa r=>(a0 a r).2) G).F v (by
   intro a7 u;simp only[Yc]at u;subst u;exact Y5 _ (Yf _ (s.aj _ B)))
 .exact bu (i:=2) ((a5 _ B (by omega)).trans s.ai) _
 .exact(J _ b4 (by omega) (by omega)).trans s.vr
 .exact(J _ b3 (by omega) (by omega)).trans s.vd
 .exact(J _ b2 (by omega) (by omega)).trans s.vc
 .have:=bi O v (by
   grind [Value.ownBlock])
  simpa using this
end
end Go.Proofs.YtjdhaegijjednaaGreatDoor
namespace Go.Proofs.YtjdhaegijjednaaGreatDoor
open Go.Proofs.Tryz
section
variable {L i c:Nat}
section
variable {d : Program} {a : Array Oper} {Q : Exit -> Act -> Zw -> Prop} {b : Region.Mode} {S : Zw -> Prop}
abbrev oX(d:Program)(a:Array Oper)(Q:Exit->Act->Zw->Prop)(L:Nat):Exit->Act->Zw->Prop:=λg b c=>match g with
 |.normal=>wpOp d a Q L (λe j=>Q .normal e j) b c
 |.exit i=>Q (.exit i) b c
 |.goto h=>Q (.goto h) b c
 |.ret=>Q .ret b c
 |.panic f=>Q (.panic f) b c
 |.outgrown=>Q .outgrown b c
def JK(b:LetsOut (oX d a Q L)):LetsOut Q:=b
def Ml{e:Oper}{c:Act}{f:Zw}{g:Act->Zw->Prop}(b:e.wp d c f g (oX d a Q L)):e.wp d c f g Q:=by
 unfold Oper.wp at *
 generalize (execOp c.eval e).run d f=i at *
 cases i with
 |ok h j=>cases h<;>simp only[Oper.upon]at b ⊢<;>exact b
 |halt k j=>cases k<;>simp only[Oper.upon]at b ⊢<;>exact b
def SF{e:Act}{f:Zw}{c:Act->Zw->Prop}(b:wpOp d a (oX d a Q L) i c e f):wpOp d a Q i c e f:=by
 unfold wpOp at *
 split
 .simp_all
 .rename_i l j;simp only[j]at b;split
  .rename_i k;simp only[k,if_true]at b
   rcases b with b|⟨g,h⟩
   .exact Y8 (Ml b)
   .exact Ya ⟨g,JK h⟩
  simp_all
def pb(b:Region.Mode)(a:Array Oper):Bool:=(List.range a.size).all λc=>match a[c]? with
 |some e=>e.after.all λd=>!Region.binds b d||decide (d.on<c)
 |none=>true
def qD(b:Region.Mode)(a:Array Oper)(L:Nat):Bool:=(List.range L).all λc=>(List.range a.size).any λe=>match a[e]? with
 |some f=>f.after.any λd=>Region.binds b d&&d.on==c
 |none=>false
def zw(f:pb b a=true){e:Oper}(i:a[c]? = some e){d:_}(h:d∈e.after)(g:Region.binds b d=true):d.on<c:=by
 grind [pb,Array.all_eq_true_iff_forall_mem]
def GA(f:qD b a L=true)(h:c<L):∃g:Nat,∃e:Oper,a[g]? = some e/\∃d∈e.after,Region.binds b d=true/\d.on=c:=by
 simp only[qD,List.all_eq_true,List.mem_range]at f;grind
def qd(b:Region.Mode)(a:Array Oper)(e:Array Bool):Prop:=
 ∀c f,a[c]? = some f->e.getD c false=true->∀d∈f.after,Region.binds b d=true->e.getD d.on false=true
def qd.ds{d:Array Bool}(g:qd b a d)(n:i∈Region.ready b a d):qd b a (d.setIfInBounds i true):=by
 intro c m l e f j h;refine getD_set_true ?_;by_cases k:i=c
 .grind [mem_ready]
 .rw[getD_set_ne false k]at e;exact g c m l e f j h
def CL(i:pb b a=true){d:Array Bool}(q:d.size=a.size):∀c,c<a.size->d.getD c true=false->Region.ready b a d≠[]:=by
 intro c;induction c using Nat.strongRecOn with
 |ind c r=>
  intro m k p;by_cases f:∀g,a[c]? = some g->∀e∈g.after,Region.binds b e=true->d.getD e.on false=true
  .have:c∈Region.ready b a d:=mem_ready.2 ⟨k,a[c],by simp,f _ (by simp)⟩;simp_all
  .simp only[Classical.not_forall]at f;obtain⟨g,l,e,j,h,o⟩:=f;have n:=zw i l j h;grind
def Ff(l:pb b a=true)(u:a.size=L+1)(n:qD b a L=true){e:Array Bool}(z:e.size=a.size)(m:qd b a e)(r:L∈Region.ready b a e) :
  ∀f c,L-c=f->c<L->e.getD c false=true:=by
 intro f;induction f using Nat.strongRecOn with
 |ind f s=>
  intro c x o;obtain⟨d,t,g,k,i,h,j⟩:=GA n o;have p:=zw l g i h;have w:=(Array.getElem?_eq_some_iff.1 g).1;rw[j]at p;by_cases q:d=L
  .subst q;obtain⟨_,A,y,v⟩:=mem_ready.1 r;grind
  .have:=s (L-d) (by omega) d rfl (by omega);rw[<-j];exact m d t g this k i h
def BB(g:pb b a=true)(f:a.size=L+1)(i:qD b a L=true){d:Array Bool}(n:d.size=a.size)(h:qd b a d)(m:L∈Region.ready b a d) :
  Region.ready b a (d.setIfInBounds L true)=[]:=by
 cases o:Region.ready b a (d.setIfInBounds L true)with
 |nil=>rfl
 |cons c rest=>
  exfalso;have j:c∈Region.ready b a (d.setIfInBounds L true):=by simp_all
  obtain⟨e,q,l,_⟩:=mem_ready.1 j;have p:=(Array.getElem?_eq_some_iff.1 l).1;by_cases k:L=c
  .simp_all
  .rw[getD_set_ne true k]at e;have:=Ff g f i n h m (L-c) c rfl (by omega);simp_all
def SC(m:pb b a=true)(s:a.size=L+1)(t:qD b a L=true):∀(j:Nat) (e:Array Bool) (l:Act) (o:Zw),
  e.size=a.size->qd b a e->e.getD L true=false->wpAnyH d b a (oX d a Q L) S j (e.setIfInBounds L true) l o->wpAny d b a Q (j+1) e l o:=by
 intro j;induction j with
 |zero=>
  intro e l o k n q h;refine⟨λc=>absurd c (CL m k L (by omega) q),λi f=>?_⟩;by_cases g:i=L
  .subst g;exact wpOp_mono (λp r c=>⟨BB m s t k n f,c⟩) h.2
  .have:=ready_mono f g;rw[h.1]at this;grind
 |succ j v=>
  intro e l o k n q h;refine⟨λc=>absurd c (CL m k L (by omega) q),λi f=>?_⟩;by_cases g:i=L
  .subst g;have u:=BB m s t k n f;refine wpOp_mono (λp r c=>⟨λ_=>c,?_⟩) (h.1 u);simp_all
  .refine wpOp_mono (λp r c=>?_) (SF (h.2 i (ready_mono f g)));refine v (e.setIfInBounds i true) p r (by grind) (n.ds f) (by simp_all) ?_;rw[Array.setIfInBounds_comm _ _ g];exact c.2
def cx(S:Zw->Prop){id:Nat}{e:Act}{b:Zw}(m:d.follows .mixedOrders=true)(f:a.size=L+1)(j:pb .any a=true)(k:qD .any a L=true)(i:S b.drew)
  (g:S b.drew->wpAnyH d .any a (oX d a Q L) S L ((Array.replicate (L+1) false).setIfInBounds L true) e b.drew):(Code.region id a true).wp d Q e b:=by
 refine wp_region_any m ?_;have h:=g i;rw[f];refine SC j f k L _ e _ (by grind) ?_ (by simp) h;intro c o _ n;exfalso;rcases Yj c (L+1)with l|l;all_goals simp_all
def nh{f:Oper}{b:Act}{c:Zw}(i:a[L]? = some f)
  (g:∀e:Act->Zw->Prop,Shut (∀b c,Q .normal b c->e b c)->if Region.wanted f (yielded a b.tmps)=true then Oper.wp d f b c e Q else e (b.put f.dst undef) c) :
  oX d a Q L .normal b c:=wpOp_step i (λe h=>g e (λb c j=>h b c j))
def tk{f:Oper}{v:Zv}{l:Nat}{h:Array Bool}{c:Act}{e:Zw}(p:a[i]? = some f)(g:(Region.noSelect a&&Region.free b a h i&&(Region.ready b a h).contains i)=true)
  (n:∀k c e,Q (.panic k) (c.put f.dst v) e->Q (.panic k) c e) (q:Region.wanted f (yielded a c.tmps)=true) (o:S e) (r:∀j,S j->(execOp c.eval f).run d j=.ok (.value v) j)
  (m:wpAnyH d b a Q S l (h.setIfInBounds i true) (c.put f.dst v) e):wpAnyH d b a Q S (l+1) h c e:=by
 simp only[Bool.and_eq_true]at g;exact wpAnyH_take p g.1.1 g.1.2 g.2 n (Y8 ⟨q,r⟩) o m
def aJ(c:Zl)(a:List Deferred)(b:Nat)(v:Zv):Act.put ⟨c.toArray,a⟩ (some b) v=⟨(c.set b v).toArray,a⟩:=by simp[Act.put]
def aK(a:Act)(v:Zv):Act.put a none v=a:=rfl
end
end
section
variable {h : Program} {c : Array Oper} {Q : Exit -> Act -> World -> Prop} {f : Region.Mode} {S : World -> Prop} {d : Nat} {j : List Nat} {g : Oper} {v : Value} {i : Nat} {e : Array Bool} {a : Act} {b : World}
def qe(_:List Nat)(a:Prop):Prop:=a
def bH(j:List Nat){a:Prop}(b:qe j a):a:=b
def bI{a:Prop}(b:a):qe [] a:=b
def bK(q:c[d]? = some g)(p:(Region.noSelect c&&Region.free f c e d&&(Region.ready f c e).contains d)=true)(n:∀l a b,Q (.panic l) (a.put g.dst v) b->Q (.panic l) a b)(r:Region.wanted g (yielded c a.tmps)=true)(o:S b)(s:∀k,S k->(execOp a.eval g).run h k=.ok (.value v) k)(m:qe j (wpAnyH h f c Q S i (e.setIfInBounds d true) (a.put g.dst v) b)):qe (d::j) (wpAnyH h f c Q S (i+1) e a b):=tk q p n r o s m
def Pz(p:c[d]? = some g)(k:(Region.noSelect c&&Region.free f c e d&&(Region.ready f c e).contains d)=true)(n:∀l a b,Q (.panic l) (a.put g.dst undef) b->Q (.panic l) a b)(q:Region.wanted g (yielded c a.tmps)=false)(o:S b)(m:qe j (wpAnyH h f c Q S i (e.setIfInBounds d true) (a.put g.dst undef) b)):qe (d::j) (wpAnyH h f c Q S (i+1) e a b):=by
 simp only[Bool.and_eq_true]at k;exact wpAnyH_take p k.1.1 k.1.2 k.2 n (Ya ⟨q,rfl⟩) o m
def bF(d:Nat)(m:Region.ready f c e=[d])(l:c[d]? = some g)
  (k:∀j:Act->World->Prop,Shut (∀a b,S b->(S b->wpAnyH h f c Q S i (e.setIfInBounds d true) a b)->j a b)->if Region.wanted g (yielded c a.tmps)=true then Oper.wp h g a b j Q else j (a.put g.dst undef) b) :
  wpAnyH h f c Q S (i+1) e a b:=wpAnyH_ready m (by simp) (AllReadyH.cons l k AllReadyH.nil)
def cR{j:Nat}{d:Oper}(m:Region.ready f c e=[])(l:c[j]? = some d)
  (k:∀g:Act->World->Prop,Shut (∀a b,Q .normal a b->g a b)->if Region.wanted d (yielded c a.tmps)=true then Oper.wp h d a b g Q else g (a.put d.dst undef) b) :
  wpAnyH h f c (oX h c Q j) S i e a b:=wpAnyH_done m (nh l k) _
end
end Go.Proofs.YtjdhaegijjednaaGreatDoor
namespace Go.Proofs.YtjdhaegijjednaaGreatDoor
open Go.RowKit
open Go.Proofs.Tryz
section
variable {a g:Nat}{j:TypeId}{c:Int}{h:Array Zv}{e:Zb}{d f:Zw}{b:dO}
structure lQ where
 rv:Zv
 nv:Zv
 pv:Zv
 j:Zb
 av:Int
 L:Int
 gv:Zv
abbrev lD(e:Zb)(b:dO)(d c:Int)(a:lQ):Obj:=.cells #[Zs e,U b.C,Zs b.text,U b.m,U b.fin,U b.n,U b.e,a.rv,a.nv,a.pv,Zs a.j,U d,U c,U a.av,U a.L,a.gv] 114
def aU{a:Nat}{v:Zv}(b:f.heap[g]? = some (.cells h j))(c:h[a]? = some v):f.cell? (Zd g a)=some v:=by
 simp[World.cell?,b,c]
def cK(b:f.heap[g]? = some (.cells h j)):∀a,f.frozen? ⟨g,a,none⟩=false:=by
 grind [World.frozen?]
def OR{d:dO}{h:Int}{g:lQ}(j:f.heap[a]? = some (lD e b h c g)):((((((f.setCell ⟨a,1,none⟩ (U d.C)).setCell ⟨a,2,none⟩ (Zs d.text)).setCell ⟨a,3,none⟩ (U d.m)).setCell ⟨a,4,none⟩ (U d.fin)).setCell ⟨a,5,none⟩ (U d.n)).setCell ⟨a,6,none⟩ (U d.e)).heap[a]? = some (lD e d h c g):=by
 have k:(f.setCell ⟨a,1,none⟩ (U d.C)).heap[a]? = some (.cells #[Zs e,U d.C,Zs b.text,U b.m,U b.fin,U b.n,U b.e,g.rv,g.nv,g.pv,Zs g.j,U h,U c,U g.av,U g.L,g.gv] 114):=bu (i:=1) j _;have l:((f.setCell ⟨a,1,none⟩ (U d.C)).setCell ⟨a,2,none⟩ (Zs d.text)).heap[a]? = some (.cells #[Zs e,U d.C,Zs d.text,U b.m,U b.fin,U b.n,U b.e,g.rv,g.nv,g.pv,Zs g.j,U h,U c,U g.av,U g.L,g.gv] 114):=bu (i:=2) k _;have m:(((f.setCell ⟨a,1,none⟩ (U d.C)).setCell ⟨a,2,none⟩ (Zs d.text)).setCell ⟨a,3,none⟩ (U d.m)).heap[a]? = some (.cells #[Zs e,U d.C,Zs d.text,U d.m,U b.fin,U b.n,U b.e,g.rv,g.nv,g.pv,Zs g.j,U h,U c,U g.av,U g.L,g.gv] 114):=bu (i:=3) l _;have o:((((f.setCell ⟨a,1,none⟩ (U d.C)).setCell ⟨a,2,none⟩ (Zs d.text)).setCell ⟨a,3,none⟩ (U d.m)).setCell ⟨a,4,none⟩ (U d.fin)).heap[a]? = some (.cells #[Zs e,U d.C,Zs d.text,U d.m,U d.fin,U b.n,U b.e,g.rv,g.nv,g.pv,Zs g.j,U h,U c,U g.av,U g.L,g.gv] 114):=bu (i:=4) m _;have p:(((((f.setCell ⟨a,1,none⟩ (U d.C)).setCell ⟨a,2,none⟩ (Zs d.text)).setCell ⟨a,3,none⟩ (U d.m)).setCell ⟨a,4,none⟩ (U d.fin)).setCell ⟨a,5,none⟩ (U d.n)).heap[a]? = some (.cells #[Zs e,U d.C,Zs d.text,U d.m,U d.fin,U d.n,U b.e,g.rv,g.nv,g.pv,Zs g.j,U h,U c,U g.av,U g.L,g.gv] 114):=bu (i:=5) o _;have q:((((((f.setCell ⟨a,1,none⟩ (U d.C)).setCell ⟨a,2,none⟩ (Zs d.text)).setCell ⟨a,3,none⟩ (U d.m)).setCell ⟨a,4,none⟩ (U d.fin)).setCell ⟨a,5,none⟩ (U d.n)).setCell ⟨a,6,none⟩ (U d.e)).heap[a]? = some (.cells #[Zs e,U d.C,Zs d.text,U d.m,U d.fin,U d.n,U d.e,g.rv,g.nv,g.pv,Zs g.j,U h,U c,U g.av,U g.L,g.gv] 114):=bu (i:=6) p _;omega
def hk(a c d b:Int):Int×Int:=if a=0 then (d,b)else (a,c)
def ue{f:Int}{n:lQ}(j:d.heap[a]? = some (lD e b f c n))(h g:Int) :
  Calls prog 51 #[Zp a,U h,U g] d λq o=>q=.returned (.tuple #[])/\o.heap[a]? = some (lD e b (hk f c h g).1 (hk f c h g).2 n)/\am [a] d o:=by
 have s:d.cell? (Zd a 11)=some (U f):=aU j rfl;have t:d.cell? (Zd a 12)=some (U c):=aU j rfl;have v:=cK j;have w:=ap j;have m:=Z j;by_cases l:f=0
 .have k:ac (hk f c h g=(h,g)):=Y9 l;subst l;go_in;go_wp2;go_end0;rw[k.j];have r:=bu (i:=11) m.j (U h);refine⟨rfl,bu (i:=12) r (U g),((ak [a] d).ay (p:=⟨a,11,none⟩) (by simp) _).ay (p:=⟨a,12,none⟩) (by simp) _⟩
 .have k:ac (hk f c h g=(f,c)):=Y2 l;have u:(f==0)=false:=by simp_all
  go_in;go_wp2;go_end0;rw[k.j];exact⟨rfl,m.j,ak _ _⟩
def ma(b:dO)(a c:Int):Int×Int:=if b.C=5 then hk a c b.e b.m else hk a c 3 b.m
def tR{h:Int}{n:lQ}(g:d.heap[a]? = some (lD e b h c n)) :
  Calls prog 84 #[Zp a] d λm p=>m=.returned (.tuple #[])/\p.heap[a]? = some (lD e b (ma b h c).1 (ma b h c).2 n)/\am [a] d p:=by
 have A:d.cell? (Zd a 1)=some (U b.C):=aU g rfl;have B:d.cell? (Zd a 3)=some (U b.m):=aU g rfl;have C:d.cell? (Zd a 6)=some (U b.e):=aU g rfl;have E:=cK g;have F:=ap g;have x:d.drew.heap[a]? = some (lD e b h c n):=g;have r:=Z (ue x b.e b.m);have s:=Z (ue g 3 b.m);by_cases o:b.C=5
 .have l:ac (ma b h c=hk h c b.e b.m):=Y9 o;have w:((b.C:Int)==5)=true:=by simp_all
  go_in;go_wp2_with fail;refine cx (λq=>q.cell? (Zd a 3)=some (U b.m)/\q.cell? (Zd a 6)=some (U b.e)) (L:=11) (by kernel_rfl) rfl (by kernel_rfl) (by kernel_rfl) ?_ (λD=>?_)
  .go_keep
  refine bH [0,1,2,3,4,5,6,7,8,9,10] ?_;iterate 11 (refine bK (v:=?_) rfl (by kernel_rfl) (λ_ _ _ g=>g) (by kernel_rfl) (by assumption) ?_ ?_;rotate_left;focus (intro f u;(try dsimp only at u);go_simp;(try with_reducible rfl));(try simp only[aJ,aK,List.set]))
  refine bI ?_;refine cR (by kernel_rfl) rfl λz t=>?_;(go_simp;refine r.j.mono ?_;rintro m y ⟨rfl,j,k⟩;have i:=Z (Yp j (((ak [a] d).aq).u k));clear j k);refine t.out _ _ ?_;(try simp only[aJ,aK,List.set]);go_wp2;refine bodyPost_ret (v:=.tuple #[]) (by simp[results,results84]) rfl ?_;rw[l.j];exact⟨rfl,i.j.1,i.j.2⟩
 .have l:ac (ma b h c=hk h c 3 b.m):=Y2 o;have w:((b.C:Int)==5)=false:=by grind
  go_in;go_wp2_with fail;refine s.j.mono ?_;rintro m y ⟨rfl,j,k⟩;have i:=Z (Yp j k);go_wp2;go_end0;rw[l.j];exact⟨rfl,i.j.1,i.j.2⟩
def uS{q:Int}{s:lQ}(h:d.heap[a]? = some (lD e b q c s))(C:b.fin<=e.length)(B:e.length<=2000) :
  Calls prog 47 #[Zp a] d λr t=>r=.returned (.tuple #[])/\t.heap[a]? = some (lD e (fL e b.fin) q c s)/\am [a] d t:=by
 have y:d.cell? (Zd a 0)=some (Zs e):=aU h rfl;have z:d.cell? (Zd a 4)=some (U b.fin):=aU h rfl;have I:=cK h;have M:=ap h;have x:=Z (Ez e b.fin C B d.drew);have m:=Z h;generalize fL e b.fin=N at *
 go_in;go_wp2_with fail;refine cx (λu=>u.cell? (Zd a 0)=some (Zs e)/\u.cell? (Zd a 4)=some (U b.fin)) (L:=13) (by kernel_rfl) rfl (by kernel_rfl) (by kernel_rfl) ?_ (λA=>?_)
 .go_keep
 refine bH [0,1,2,3,4,5,6,7,8,9] ?_;iterate 10 (refine bK (v:=?_) rfl (by kernel_rfl) (λ_ _ _ h=>h) (by kernel_rfl) (by assumption) ?_ ?_;rotate_left;focus (intro f k;(try dsimp only at k);go_simp;(try with_reducible rfl));(try simp only[aJ,aK,List.set]))
 refine bI ?_;refine bF 10 (by kernel_rfl) rfl λw j=>?_;(go_simp;go_at_call 80;refine x.j.mono ?_;rintro r i ⟨rfl,l⟩;have g:i.heap[a]? = _:=(l.G _ (ap m.j) (by simp)).trans m.j;have y:i.cell? (Zd a 0)=some (Zs e):=aU g rfl;have D:i.cell? (Zd a 1)=some (U b.C):=aU g rfl;have E:i.cell? (Zd a 2)=some (Zs b.text):=aU g rfl;have F:i.cell? (Zd a 3)=some (U b.m):=aU g rfl;have z:i.cell? (Zd a 4)=some (U b.fin):=aU g rfl;have G:i.cell? (Zd a 5)=some (U b.n):=aU g rfl;have H:i.cell? (Zd a 6)=some (U b.e):=aU g rfl;have J:=cK g;have K:=ap g;have o:=Z (Yp g ((((ak [] d).aq).u l)));clear g l);refine j.out _ _ ?_ (λA=>?_)
 .go_keep
 (try simp only[aJ,aK,List.set]);refine bH [11,12] ?_;iterate 2 (refine bK (v:=?_) rfl (by kernel_rfl) (λ_ _ _ h=>h) (by kernel_rfl) (by assumption) ?_ ?_;rotate_left;focus (intro f k;(try dsimp only at k);go_simp;(try with_reducible rfl));(try simp only[aJ,aK,List.set]))
 refine bI ?_;refine cR (by kernel_rfl) rfl λw j=>?_;go_simp;refine j.out _ _ ?_;(try simp only[aJ,aK,List.set]);go_end0;exact⟨rfl,OR o.j.1,(((((((o.j.2.K (by simp)).ay (p:=⟨a,1,none⟩) (by simp) _).ay (p:=⟨a,2,none⟩) (by simp) _).ay (p:=⟨a,3,none⟩) (by simp) _).ay (p:=⟨a,4,none⟩) (by simp) _).ay (p:=⟨a,5,none⟩) (by simp) _).ay (p:=⟨a,6,none⟩) (by simp) _)⟩
def hB(b:dO)(a:Int)(c:Nat)(d:Zb):Bool:=(a==0)&&((b.C==c)&&(b.text==d))
def xg{g:Int}{o:lQ}(j:d.heap[a]? = some (lD e b g c o))(f:Nat)(h:Zb) :
  Calls prog 81 #[Zp a,U f,Zs h] d λn p=>n=.returned (.bool (hB b g f h))/\p=d:=by
 have r:d.cell? (Zd a 11)=some (U g):=aU j rfl;have q:d.cell? (Zd a 1)=some (U b.C):=aU j rfl;have s:d.cell? (Zd a 2)=some (Zs b.text):=aU j rfl;have t:=cK j;have u:=ap j;by_cases k:g=0
 .subst k;by_cases l:b.C=f
  .have i:ac (hB b 0 f h=(b.text==h)):=by show _=_;simp[hB,l]
   have m:((b.C:Int)==(f:Int))=true:=by simp_all
   go_in;go_wp2;all_goals
    go_ret
    refine⟨kU ?_,rfl⟩
    rw[i.j]
    try (first|rfl|simp_all)
  .have i:ac (hB b 0 f h=false):=by show _=_;simp[hB,l]
   have m:((b.C:Int)==(f:Int))=false:=by grind
   go_in;go_wp2;go_ret;exact⟨by rw[i.j];rfl,rfl⟩
 .have i:ac (hB b g f h=false):=by show _=_;simp[hB,k]
  have m:(g==0)=false:=by simp_all
  go_in;go_wp2;go_ret;exact⟨by rw[i.j];rfl,rfl⟩
end
section
variable {f b:Nat}{h:TypeId}{r q o m l j d0 d1 d2 d3 d4 d5:Zv}{k:lQ}{d:Zb}{c g:Zw}
def uQ{a:Nat}(c:a<=d.length):(fL d a).fin<=d.length:=by
 have f:=Ao c;unfold fL;cases b:Mar.c5 (d.drop (eJ d a)) (eJ d a)with
 |error e=>simp
 |ok g=>
  have:=wY b;grind
structure im where
 x:dO
 e:Int
 a:Int
def cp:dO:=⟨0,[],0,0,0,0⟩
def pF(d:Zb)(a:im):im:={ a with x:=fL d a.x.fin }
def jQ(b:im):im:=⟨b.x,(ma b.x b.e b.a).1,(ma b.x b.e b.a).2⟩
def mE(d:Zb)(a:im)(b:Nat)(c:Zb):im:=if hB a.x a.e b c then pF d a else jQ a
def ig(d:Zb)(a:im):dO×im:=if a.e≠0 then (cp,a)else if a.x.C=1 then (a.x,pF d a)else (cp,jQ a)
abbrev lC(d:Zb)(b:im)(k:lQ):Obj:=lD d b.x b.e b.a k
def za(f:Nat)(d:Zb)(a:im)(k:lQ)(v:Zv)(c:Zw)(e:Ending)(b:Zw):Prop:=e=.returned v/\b.heap[f]? = some (lC d a k)/\am [f] c b/\a.x.fin<=d.length
def DJ{a:im}(n:c.heap[f]? = some (lC d a k))(s:a.x.fin<=d.length)(t:d.length<=2000)(g:Nat)(h:Zb) :
  Calls prog 141 #[Zp f,U g,Zs h] c (za f d (mE d a g h) k (.tuple #[]) c):=by
 have b:=Z (xg n g h);have p:=Z (tR n);have q:=Z (uS n s t);clear n;cases l:hB a.x a.e g h with
 |true=>
  have o:ac (mE d a g h=pF d a):=Y9 l;rw[l]at b;clear l p;go_in;go_wp2_with fail;refine b.j.mono ?_;rintro r u ⟨rfl,rfl⟩;go_wp2_with fail;refine q.j.mono ?_;rintro r w ⟨rfl,j,m⟩;have i:=Z (Yp j m);clear j m q b;go_wp2;go_end0;rw[o.j];exact⟨rfl,i.j.1,i.j.2,uQ s⟩
 |false=>
  have o:ac (mE d a g h=jQ a):=Y2 (by simp_all);rw[l]at b;clear l q;go_in;go_wp2_with fail;refine b.j.mono ?_;rintro r u ⟨rfl,rfl⟩;go_wp2_with fail;refine p.j.mono ?_;rintro r w ⟨rfl,j,m⟩;have i:=Z (Yp j m);clear j m p b;go_wp2;refine bodyPost_ret (v:=.tuple #[]) (by simp_all[results]) rfl ?_;rw[o.j];exact⟨rfl,i.j.1,i.j.2,s⟩
def dP(a:g.heap[b]? = some (.cells #[r,q,o,m,l,j] h)) :
  g.cell? (Zd b 0)=some r/\g.cell? (Zd b 1)=some q/\g.cell? (Zd b 2)=some o/\g.cell? (Zd b 3)=some m/\g.cell? (Zd b 4)=some l/\g.cell? (Zd b 5)=some j/\(∀c,g.frozen? ⟨b,c,none⟩=false)/\b<g.heap.size:=by
 refine⟨?_,?_,?_,?_,?_,?_,?_,ap a⟩<;>simp[World.cell?,World.frozen?,a]
def sY(a:g.heap[b]? = some (.cells #[r,q,o,m,l,j] h)):((((((g.setCell ⟨b,0,none⟩ d0).setCell ⟨b,1,none⟩ d1).setCell ⟨b,2,none⟩ d2).setCell ⟨b,3,none⟩ d3).setCell ⟨b,4,none⟩ d4).setCell ⟨b,5,none⟩ d5).heap[b]? = some (.cells #[d0,d1,d2,d3,d4,d5] h):=by
 have c:(g.setCell ⟨b,0,none⟩ d0).heap[b]? = some (.cells #[d0,q,o,m,l,j] h):=bu (i:=0) a d0;have d:((g.setCell ⟨b,0,none⟩ d0).setCell ⟨b,1,none⟩ d1).heap[b]? = some (.cells #[d0,d1,o,m,l,j] h):=bu (i:=1) c d1;have e:(((g.setCell ⟨b,0,none⟩ d0).setCell ⟨b,1,none⟩ d1).setCell ⟨b,2,none⟩ d2).heap[b]? = some (.cells #[d0,d1,d2,m,l,j] h):=bu (i:=2) d d2;have f:((((g.setCell ⟨b,0,none⟩ d0).setCell ⟨b,1,none⟩ d1).setCell ⟨b,2,none⟩ d2).setCell ⟨b,3,none⟩ d3).heap[b]? = some (.cells #[d0,d1,d2,d3,l,j] h):=bu (i:=3) e d3;have k:(((((g.setCell ⟨b,0,none⟩ d0).setCell ⟨b,1,none⟩ d1).setCell ⟨b,2,none⟩ d2).setCell ⟨b,3,none⟩ d3).setCell ⟨b,4,none⟩ d4).heap[b]? = some (.cells #[d0,d1,d2,d3,d4,j] h):=bu (i:=4) f d4;have n:((((((g.setCell ⟨b,0,none⟩ d0).setCell ⟨b,1,none⟩ d1).setCell ⟨b,2,none⟩ d2).setCell ⟨b,3,none⟩ d3).setCell ⟨b,4,none⟩ d4).setCell ⟨b,5,none⟩ d5).heap[b]? = some (.cells #[d0,d1,d2,d3,d4,d5] h):=bu (i:=5) k d5;omega
def By{d:List Nat}(e:am d c g)(a:c.heap.size<=b):am d c ((((((g.setCell ⟨b,0,none⟩ d0).setCell ⟨b,1,none⟩ d1).setCell ⟨b,2,none⟩ d2).setCell ⟨b,3,none⟩ d3).setCell ⟨b,4,none⟩ d4).setCell ⟨b,5,none⟩ d5):=
 (((((e.b2 (p:=⟨b,0,none⟩) a d0).b2 (p:=⟨b,1,none⟩) a d1).b2 (p:=⟨b,2,none⟩) a d2).b2 (p:=⟨b,3,none⟩) a d3).b2 (p:=⟨b,4,none⟩) a d4).b2 (p:=⟨b,5,none⟩) a d5
def BS{a:Obj}(c:g.heap[f]? = some a)(d:f≠b):((((((g.setCell ⟨b,0,none⟩ d0).setCell ⟨b,1,none⟩ d1).setCell ⟨b,2,none⟩ d2).setCell ⟨b,3,none⟩ d3).setCell ⟨b,4,none⟩ d4).setCell ⟨b,5,none⟩ d5).heap[f]? = some a:=by
 simp_all[Below.heap_setCell]
def Sv{a:im}(w:c.heap[f]? = some (lC d a k))(D:a.x.fin<=d.length)(a4:d.length<=2000) :
  Calls prog 152 #[Zp f] c (za f d (ig d a).2 k (.agg (fx (ig d a).1)) c):=by
 have a5:=ap w;have G:∀g,am [] c (c.alloc g):=λg=>(ak [] c).B g;have h:∀g,(c.alloc g).heap[f]? = some (lC d a k):=λg=>(Below.heap_alloc _ _ _ a5).trans w;have q:∀g,(c.alloc g).cell? (Zd f 1)=some (U a.x.C):=λg=>aU (h g) rfl;have o:∀g,(c.alloc g).cell? (Zd f 2)=some (Zs a.x.text):=λg=>aU (h g) rfl;have m:∀g,(c.alloc g).cell? (Zd f 3)=some (U a.x.m):=λg=>aU (h g) rfl;have l:∀g,(c.alloc g).cell? (Zd f 4)=some (U a.x.fin):=λg=>aU (h g) rfl;have j:∀g,(c.alloc g).cell? (Zd f 5)=some (U a.x.n):=λg=>aU (h g) rfl;have c5:∀g,(c.alloc g).cell? (Zd f 6)=some (U a.x.e):=λg=>aU (h g) rfl;have c4:∀g,(c.alloc g).cell? (Zd f 11)=some (U a.e):=λg=>aU (h g) rfl;have S:=Z h;by_cases F:a.e=0
 .have a2:(a.e != 0)=false:=by simp_all
  by_cases R:a.x.C=1
  .have s:ac (ig d a=(a.x,pF d a)):=by simp_all[ig]
   have a3:((a.x.C:Int) != 1)=false:=by simp_all
   have P:=Z (λ(z H:Obj)=>uS ((Below.heap_alloc (c.alloc z) H _ (by grind)).trans (h z)) D a4);clear w h F R;go_in;go_wp2_with fail;refine(P.j _ _).mono ?_;rintro a1 r ⟨rfl,y,i⟩;have p:r.heap[c.heap.size]? = some (.cells #[U 0,.string ⟨#[]⟩,U 0,U 0,U 0,U 0] 112):=(i.G _ (by simp;omega) (by grind)).trans ((Below.heap_alloc _ _ _ (by simp)).trans (aS rfl));have u:r.heap[c.heap.size+1]? = some (.cells (fx a.x) 112):=(i.G _ (by simp) (by grind)).trans (aS (by simp));obtain⟨a6,a7,a8,a9,b0,b1,b2,b3⟩:=dP p;obtain⟨b4,b5,b6,b7,b8,b9,c0,c1⟩:=dP u;have E:=Z p;have t:=Z (Yp y (((((G _).K (by simp)).u ((ak [f] _).B _)).u i)));clear y i p u P;go_wp2;have C:=sY (d0:=U a.x.C) (d1:=Zs a.x.text) (d2:=U a.x.m) (d3:=U a.x.fin) (d4:=U a.x.n) (d5:=U a.x.e) E.j;have B:=BS (d0:=U a.x.C) (d1:=Zs a.x.text) (d2:=U a.x.m) (d3:=U a.x.fin) (d4:=U a.x.n) (d5:=U a.x.e) t.j.1 (show f≠c.heap.size by omega);have A:=By (b:=c.heap.size) (d0:=U a.x.C) (d1:=Zs a.x.text) (d2:=U a.x.m) (d3:=U a.x.fin) (d4:=U a.x.n) (d5:=U a.x.e) t.j.2 (Y4 _);generalize ((((((r.setCell ⟨c.heap.size,0,none⟩ (U a.x.C)).setCell ⟨c.heap.size,1,none⟩ (Zs a.x.text)).setCell ⟨c.heap.size,2,none⟩ (U a.x.m)).setCell ⟨c.heap.size,3,none⟩ (U a.x.fin)).setCell ⟨c.heap.size,4,none⟩ (U a.x.n)).setCell ⟨c.heap.size,5,none⟩ (U a.x.e))=a0 at C B A ⊢;obtain⟨I,J,K,L,M,N,c2,c3⟩:=dP C;refine bodyPost_ret (v:=.agg (fx a.x)) (by simp[results,results152,go_sem,I,J,K,L,M,N,cp]) rfl ?_;rw[s.j];exact⟨rfl,B,A,uQ D⟩
  .have s:ac (ig d a=(cp,jQ a)):=by simp_all[ig]
   have a3:((a.x.C:Int) != 1)=true:=by grind
   have O:=Z (λ(z H:Obj)=>tR ((Below.heap_alloc (c.alloc z) H _ (by grind)).trans (h z)));clear w h F R;go_in;go_wp2_with fail;refine(O.j _ _).mono ?_;rintro a1 r ⟨rfl,y,i⟩;have p:r.heap[c.heap.size]? = some (.cells #[U 0,.string ⟨#[]⟩,U 0,U 0,U 0,U 0] 112):=(i.G _ (by simp;omega) (by grind)).trans ((Below.heap_alloc _ _ _ (by simp)).trans (aS rfl));have u:r.heap[c.heap.size+1]? = some (.cells (fx a.x) 112):=(i.G _ (by simp) (by grind)).trans (aS (by simp));obtain⟨a6,a7,a8,a9,b0,b1,b2,b3⟩:=dP p;obtain⟨b4,b5,b6,b7,b8,b9,c0,c1⟩:=dP u;have E:=Z p;have t:=Z (Yp y (((((G _).K (by simp)).u ((ak [f] _).B _)).u i)));clear y i p u O;go_wp2;have C:=sY (d0:=U 0) (d1:=.string ⟨#[]⟩) (d2:=U 0) (d3:=U 0) (d4:=U 0) (d5:=U 0) E.j;have B:=BS (d0:=U 0) (d1:=.string ⟨#[]⟩) (d2:=U 0) (d3:=U 0) (d4:=U 0) (d5:=U 0) t.j.1 (show f≠c.heap.size by omega);have A:=By (b:=c.heap.size) (d0:=U 0) (d1:=.string ⟨#[]⟩) (d2:=U 0) (d3:=U 0) (d4:=U 0) (d5:=U 0) t.j.2 (Y4 _);generalize ((((((r.setCell ⟨c.heap.size,0,none⟩ (U 0)).setCell ⟨c.heap.size,1,none⟩ (.string ⟨#[]⟩)).setCell ⟨c.heap.size,2,none⟩ (U 0)).setCell ⟨c.heap.size,3,none⟩ (U 0)).setCell ⟨c.heap.size,4,none⟩ (U 0)).setCell ⟨c.heap.size,5,none⟩ (U 0))=a0 at C B A ⊢;obtain⟨I,J,K,L,M,N,c2,c3⟩:=dP C;refine bodyPost_ret (v:=.agg (fx cp)) (by simp[results,results152,go_sem,I,J,K,L,M,N,cp]) rfl ?_;rw[s.j];exact⟨rfl,B,A,D⟩
 .have s:ac (ig d a=(cp,a)):=by simp_all[ig]
  have a2:(a.e != 0)=true:=by simp_all
  clear w h F;go_in;go_wp2;refine bodyPost_ret (v:=.agg (fx cp)) (by simp[results,results152,go_sem,cp]) rfl ?_;rw[s.j];exact⟨rfl,S.j _,(G _).K (by simp),D⟩
end
section
variable {l:Zc}{a:Zw}
def oP(a:Zw)(v:Zv)(d g:Nat)(f:Nat->Zv):Prop:=∃ad e,v=.slice ad d e/\∀b,b<d->∃c,ad=some ⟨c,0,none⟩/\a.cell? ⟨c,b*g,none⟩=some (f b)
def sr{v:Zv}{l:List Int}(h:oP a v l.length 1 λf=>U (l.getD f 0))(D:l.length<=1000000000)(c:Int) :
  Calls prog 149 #[v,U c] a λp w=>p=.returned (.bool (l.contains c))/\w=a:=by
 obtain⟨ad,x,rfl,h⟩:=h;have o:=Z h;go_in;go_wp2;go_loopw [5] (λf u=>∃b:Nat,f=U b/\b<=l.length/\ac (∀e∈l.take b,e≠c)/\u=a) (λf _=>l.length-(intOf f).toNat)
 case atStart=>exact⟨0,rfl,by omega,(by intro e d;grind),rfl⟩
 case round=>
  obtain⟨b,rfl,B,i,rfl⟩:=hrel;rcases Yj b l.length with g|A
  .obtain⟨y,rfl,t⟩:=o.j b g;rw[Nat.mul_one,show l.getD b 0=l[b] by grind]at t;have C:(0:Int)<=↑b:=by omega
   have r:(↑b:Int) < ↑l.length:=by omega
   by_cases z:l[b]=c
   .have q:(l[b]==c)=true:=by grind
    have k:ac (l.contains c=true):=by show _=_;grind
    go_wp2;go_ret;exact⟨by rw[k.j];rfl,rfl⟩
   .have q:(l[b]==c)=false:=by simp_all
    have n:ac (∀e∈l.take (b+1),e≠c):=by
     intro e d;rw[Yt g,Yn]at d;rcases d with d|d
     .exact i.j e d
     simp_all
    go_wp2;exact⟨⟨b+1,by rfl,g,n,trivial⟩,by simp[intOf];omega⟩
  .have s:b=l.length:=by omega
   subst s;have k:ac (l.contains c=false):=by
    have:=i.j;grind
   have r:¬((l.length:Int)<(l.length:Int)):=by omega
   have j:c ∉ l:=by grind [ac.j]
   have m:=Z j;go_wp2;go_ret;refine⟨kU ?_,rfl⟩;have j:=m.j;grind
def IH{v:Zv}(i:oP a v l.length 1 λf=>.string ⟨(l.getD f []).toArray⟩)(D:l.length<=1000000000)(c:Zb) :
  Calls prog 257 #[v,Zs c] a λq w=>q=.returned (.bool (l.contains c))/\w=a:=by
 obtain⟨ad,x,rfl,i⟩:=i;have p:=Z i;go_in;go_wp2;go_loopw [5] (λf u=>∃b:Nat,f=U b/\b<=l.length/\ac (∀e∈l.take b,e≠c)/\u=a) (λf _=>l.length-(intOf f).toNat)
 case atStart=>exact⟨0,rfl,by omega,(by intro e d;grind),rfl⟩
 case round=>
  obtain⟨b,rfl,B,j,rfl⟩:=hrel;rcases Yj b l.length with h|A
  .obtain⟨y,rfl,m⟩:=p.j b h;rw[Nat.mul_one,show l.getD b []=l[b] by grind]at m;have C:(0:Int)<=↑b:=by omega
   have s:(↑b:Int) < ↑l.length:=by omega
   by_cases r:l[b]=c
   .have k:ac (l.contains c=true):=by show _=_;grind
    rw[r]at m;go_wp2;go_ret;exact⟨by rw[k.j];rfl,rfl⟩
   .have o:ac (∀e∈l.take (b+1),e≠c):=by
     intro e d;rw[Yt h,Yn]at d;rcases d with d|d
     .exact j.j e d
     simp_all
    have z:(l[b]==c)=false:=by simp_all
    generalize l[b]=E at *
    go_wp2;exact⟨⟨b+1,by rfl,h,o,trivial⟩,by simp[intOf];omega⟩
  .have t:b=l.length:=by omega
   subst t;have k:ac (l.contains c=false):=by
    have:=j.j;grind
   have s:¬((l.length:Int)<(l.length:Int)):=by omega
   have g:c ∉ l:=by grind [ac.j]
   have n:=Z g;go_wp2;go_ret;refine⟨kU ?_,rfl⟩;have g:=n.j;simp[g]
def lq(l:Zc)(a:Zb):Int:=if l.contains a then (l.idxOf a:Int)else -1
def HY{v:Zv}(k:oP a v l.length 4 λf=>.string ⟨(l.getD f []).toArray⟩)(D:l.length<=1000000000)(c:Zb) :
  Calls prog 90 #[v,Zs c] a λh w=>h=.returned (U (lq l c))/\w=a:=by
 obtain⟨ad,x,rfl,k⟩:=k;have o:=Z k;go_in;go_wp2;go_loopw [5] (λf u=>∃b:Nat,f=U b/\b<=l.length/\ac (∀e∈l.take b,e≠c)/\u=a) (λf _=>l.length-(intOf f).toNat)
 case atStart=>exact⟨0,rfl,by omega,(by intro e d;grind),rfl⟩
 case round=>
  obtain⟨b,rfl,B,g,rfl⟩:=hrel;rcases Yj b l.length with j|A
  .obtain⟨y,rfl,m⟩:=o.j b j;rw[show l.getD b []=l[b] by grind]at m;have C:(0:Int)<=↑b:=by omega
   have s:(↑b:Int) < ↑l.length:=by omega
   by_cases r:l[b]=c
   .have i:ac (lq l c=b):=by
     show _=_;have q:l.contains c=true:=by grind
     unfold lq;rw[Y9 q];congr 1;have h:l=l.take b++c::l.drop (b+1):=by
      grind [List.drop_eq_getElem_cons,List.take_append_drop]
     rw[h,List.idxOf_append];have E:c ∉ l.take b:=λp=>g.j c p rfl;grind
    rw[r]at m;go_wp2;go_ret;exact⟨by rw[i.j];rfl,rfl⟩
   .have n:ac (∀e∈l.take (b+1),e≠c):=by
     intro e d;rw[Yt j,Yn]at d;rcases d with d|d
     .exact g.j e d
     simp_all
    have z:(l[b]==c)=false:=by simp_all
    generalize l[b]=F at *
    go_wp2;exact⟨⟨b+1,by rfl,j,n,trivial⟩,by simp[intOf];omega⟩
  .have t:b=l.length:=by omega
   subst t;have i:ac (lq l c = -1):=by
    have:=g.j;rw[YG]at this;show _=_;unfold lq;grind
   have s:¬((l.length:Int)<(l.length:Int)):=by omega
   go_wp2;go_ret;exact⟨by rw[i.j];rfl,rfl⟩
end
end Go.Proofs.YtjdhaegijjednaaGreatDoor
namespace Go.Proofs.YtjdhaegijjednaaGreatDoor
open Go.RowKit
open Go.Lib (decDigits)
open Go.Proofs.Tryz
theorem tZ{a:Nat}(b:a<10):decDigits a=[UInt8.ofNat (48+a)]:=by rw[Lib.decDigits,dif_pos b]
def zL{a:Nat}(b:¬a<10):decDigits a=decDigits (a / 10)++decDigits (a % 10):=by
 rw[Lib.decDigits,dif_neg b,tZ (Nat.mod_lt a (by omega))]
def sd:∀(a b:Nat),b<10 ^ (a+1)->(decDigits b).length<=a+1:=by
 intro a;induction a with
 |zero=>grind [tZ]
 |succ a e=>
  intro b d;by_cases c:b<10
  .grind
  .rw[zL c,Yq,tZ (Nat.mod_lt b (by omega))];grind
def hS(a b:Zb):(⟨a.toArray⟩:Za)++(⟨b.toArray⟩:Za)=⟨(a++b).toArray⟩:=by
 rfl
def zS:∀(a:Nat),a<=10000000000->∀(b:Zw),Calls prog 144 #[U a] b λd s=>d=.returned (.string ⟨(decDigits a).toArray⟩)/\am [] b s:=by
 intro a;induction a using Nat.strongRecOn with
 |_ a f=>
  intro A b;have D:¬((a:Int)<0):=by omega
  by_cases e:a<10
  .have c:ac (decDigits a=[UInt8.ofNat (48+a)]):=tZ e;have r:¬((9:Int)<(a:Int)):=by omega
   have x:IntKind.u8.wrap (48+(a:Int))=48+(a:Int):=by rw[IntKind.wrap_u8];omega
   have l:ac (∀b:Zw,(convert 97 9 (.slice (some ⟨b.heap.size,0,none⟩) 1 1)).run prog (b.alloc (.cells #[.int .u8 (48+(a:Int))] 5))=.ok (.string ⟨#[UInt8.ofNat (48+a)]⟩) (b.alloc (.cells #[.int .u8 (48+(a:Int))] 5))):=by
    intro b;refine run_convert_bytes_back (b.alloc _) 97 9 5 ⟨b.heap.size,0,none⟩ 1 [UInt8.ofNat (48+a)] underlying97 underlying5 underlying9 λo m=>?_;have n:o=0:=by simp_all
    subst n;have k:(⟨b.heap.size,0,none⟩:Addr).add 0=⟨b.heap.size,0,none⟩:=by rfl
    rw[k,aU (aS rfl) rfl];simp;omega
   have y:=l.j b;go_in;go_wp2;go_ret;refine⟨?_,(ak _ _).B _⟩;rw[c.j];simp
  .have c:ac (decDigits a=decDigits (a / 10)++decDigits (a % 10)):=zL e;have i:=Z (f (a / 10) (by omega) (by omega));have j:=Z (f (a % 10) (by omega) (by omega));have r:(9:Int)<(a:Int):=by omega
   have v:(a:Int).tdiv 10=((a / 10:Nat):Int):=by
    rfl
   have w:(a:Int).tmod 10=((a % 10:Nat):Int):=by
    rfl
   have B:=sd 10 (a / 10) (by omega);have C:=sd 10 (a % 10) (by omega);have z:¬(9223372036854775807<(decDigits (a / 10)).length+(decDigits (a % 10)).length):=by omega
   have m:=hS (decDigits (a / 10)) (decDigits (a % 10));generalize decDigits (a / 10)=t at *
   generalize decDigits (a % 10)=u at *
   go_in;go_wp2_with fail;refine(i.j _).mono ?_;rintro d E ⟨rfl,p⟩;have g:=Z p;go_wp2_with fail;refine(j.j _).mono ?_;rintro d F ⟨rfl,q⟩;have h:=Z (g.j.u q);go_wp2;go_ret;exact⟨by rw[c.j];rfl,h.j⟩
def kH(b:Int)(m:-10000000000<=b)(n:b<=10000000000)(d:Zw):Calls prog 144 #[U b] d λe j=>e=.returned (.string ⟨(Lib.itoa b).toArray⟩)/\am [] d j:=by
 by_cases l:b<0
 .obtain⟨a,rfl⟩:∃a:Nat,b = -(a:Int):=⟨b.natAbs,by omega⟩;have c:ac (Lib.itoa (-(a:Int))=45::decDigits a):=by
   show _=_;simp_all[Lib.itoa]
  have h:=Z (zS a (by omega));have k:IntKind.i64.wrap (a:Int)=a:=by rw[IntKind.wrap_i64];omega
  have q:=sd 10 a (by omega);have o:=hS [45] (decDigits a);generalize decDigits a=f at *
  go_in;go_wp2_with fail;refine(h.j _).mono ?_;rintro e r ⟨rfl,i⟩;have g:=Z i;have p:¬(9223372036854775807<1+f.length):=by omega
  go_wp2;go_ret;exact⟨by rw[c.j];rfl,g.j⟩
 .obtain⟨a,rfl⟩:∃a:Nat,b=(a:Int):=⟨b.toNat,by omega⟩;have c:Lib.itoa (a:Int)=decDigits a:=by
   rfl
  rw[c];exact zS a (by omega) d
end Go.Proofs.YtjdhaegijjednaaGreatDoor
namespace Go.Proofs.YtjdhaegijjednaaGreatDoor
open Go.RowKit
open Go.MapKept
open Go.Proofs.Tryz
section
variable {c:Ad}{g:List Nat}{a:dy}{b:List aO}{f:Zb×Nat}{h:Zv}{t:Zc}{u d:Zw}{e i:St}
def IX:(prog.info? 242).map (λa=>(a.zero,a.size,a.bytes))=some (some (.agg #[.string ⟨#[]⟩,U 0,.nilIface]),3,40):=by kernel_rfl
def iB(c:Za)(a:dy):PX (List aO×Zc) Unit:=λb e=>match dW c (bb a.q a.bx) b.2 e with
 |.ok (d,g,h)=>aG (lift (bY c [59])) (λ_=>cX ()) (b.1++[d],g) h
 |.error f=>.error f
def yk{c:Za}{f:Zc}{g:St}{d:aO}(h:dW c (bb a.q a.bx) t e=.ok (d,f,g)) :
  iB c a (b,t) e=aG (lift (bY c [59])) (λ_=>cX ()) (b++[d],f) g:=by simp only[iB,h]
theorem CO{d:Za}{c:Mar.aw}(f:dW d (bb a.q a.bx) t e=.error c):iB d a (b,t) e=.error c:=by simp only[iB,f]
def vB(c:Ad)(j:Za)(d:Zw)(a:dy)(f:Zb×Nat)(i:Nat)(g:List Nat)(b:List aO×Zc)(e:St)(u:Zw):Prop:=b.1.length=i/\∃h,jH c j d a f b.1 g b.2 h e u
def jH.fe{k:Za}(j:jH c k d a f b g t h e u):∃ad i,h=.slice ad b.length i:=by
 rcases j.row.2 with⟨rfl,n⟩|⟨m,i,l,rfl,_⟩;all_goals simp_all
def jH.bB{l:Za}(m:Rd c l i d)(k:jH c l d a f b g t h e u):cT (c.ab g) a.q:=by
 obtain⟨o,p,r,s⟩:=m.lt;have j:=k.aj a.q (by simp[dy.b8]);have n:=k.ao _ j;refine⟨Yf _ j,?_,?_,?_,?_⟩<;>simp only[Ad.ab]<;>omega
def bX{a:Nat}{b:Zv}{c:TypeId}(e:d.heap[a]? = some (.cells #[b] c)):d.cell? (Zd a 0)=some b:=by simp[World.cell?,e]
def BR(a:aO):∀u∈ek a,u.oneCell'=true:=by
 intro u b;simp only[Yg,List.not_mem_nil,or_false]at b;rcases b with rfl|rfl|rfl
 .rfl
 .rfl
 .cases a.H<;>rfl
theorem Qz{J:Za}{b2:Nat}(F:Rd c J i d)(h1:b2<1000)(l:vB c J d a f b2 g (b,t) e u) :
  Calls prog 196 #[Zp a.db,Zp a.rb,Zp a.cb] u (jE c d (vB c J d a f (b2+1)) (iB J a (b,t) e)):=by
 obtain⟨b0,h,j⟩:=l;dsimp only at b0 j;have d2:=Z b0;have g9:b.length<1000:=by omega
 clear b0;obtain⟨ad,w,rfl⟩:=j.fe;obtain⟨f3,e3,e9,f0,f1⟩:=info_parts IX;have y:=Z j;obtain⟨h5,h6,h7,h0⟩:=dJ j.ai;have j1:=bX j.vr;have j0:=bX j.vd;have f7:=bX j.vc;have a4:Below u.heap.size u u.drew:=(Below.refl _ _).drew;have d1:=Z (zO (cJ c g) (wE (j.bB F)) (j.rd.au a4) (show (bb a.q a.bx).I t u.drew from j.a9.F (bh [] a4) (by simp)) (j.cl.F (bh [] a4) (by simp)));have e8:=j.nd;simp only[dy.b8,List.nodup_cons,Yg,List.not_mem_nil,or_false,not_or]at e8;have i8:a.rb≠a.D:=by omega
 have i7:a.db≠a.D:=by omega
 have i6:a.cb≠a.D:=by omega
 have a1:∀k,am [c.S,a.q] u.drew k->(∀s,(k.alloc s).ownsRow d.heap.size 242 3 (.slice ad b.length w) b.length (b.flatMap ek))/\
   k.heap[a.D]? = some (.cells #[.string ⟨f.1.toArray⟩,U f.2,.slice ad b.length w] 353)/\d.heap.size<=k.heap.size/\
   k.heap[a.rb]? = some (.cells #[Zp c.R] 145)/\k.heap[a.db]? = some (.cells #[Zp a.D] 229)/\k.heap[a.cb]? = some (.cells #[(bb a.q a.bx).v] 341):=by
  intro k o;have x:=((ak _ u).aq).u o;obtain⟨h8,h9,i0,i1⟩:=F.lt;have E:∀n∈a.b8,n≠a.q->n ∉ [c.S,a.q]:=λn a2 h3=>by have:=j.ao _ (j.aj n a2);grind
  refine⟨λs=>bi (bi j.row x ?_) ((ak [] k).B s) (by simp),(x.G _ (ap j.ai) (E _ (by simp[dy.b8]) (by omega))).trans j.ai,Yz j.kp.ar x.ar,
   (x.G _ (ap j.vr) (E _ (by simp[dy.b8]) (by omega))).trans j.vr,(x.G _ (ap j.vd) (E _ (by simp[dy.b8]) (by omega))).trans j.vd,(x.G _ (ap j.vc) (E _ (by simp[dy.b8]) (by omega))).trans j.vc⟩
  intro B a7;have b9:=j.a6 B a7;have g7:=j.ao _ b9.1;have g8:B≠a.q:=λA=>b9.2 (by rw[A];simp[dy.b8]);grind
 have c9:=Z a1;have c1:∀k s p,am [c.S,a.q] u.drew k->(k.alloc s).grownBy p (Value.slice ad b.length w).ownBlock->p.heap[a.D]? = some (.cells #[.string ⟨f.1.toArray⟩,U f.2,.slice ad b.length w] 353)/\
   p.heap[a.rb]? = some (.cells #[Zp c.R] 145)/\p.heap[a.db]? = some (.cells #[Zp a.D] 229)/\p.heap[a.cb]? = some (.cells #[(bb a.q a.bx).v] 341):=by
  intro k s p o a7;obtain⟨_,d7,_,d8,d9,e0⟩:=a1 k o;have H:∀n∈a.b8,∀b3,k.heap[n]? = some b3->p.heap[n]? = some b3:=λn a2 b3 l=>by
   have e4:=ap l;exact(a7.block _ (by simp;omega) (λA=>(j.a6 _ A.symm).2 a2)).trans ((((ak [] k).B s).G _ e4 (by simp)).trans l)
  exact⟨H _ (by simp[dy.b8]) _ d7,H _ (by simp[dy.b8]) _ d8,H _ (by simp[dy.b8]) _ d9,H _ (by simp[dy.b8]) _ e0⟩
 have d0:=Z c1;have e5:b.length+1<=maxLen:=by unfold maxLen;omega
 have e6:(b.length+1)*40<=140737488355328:=by omega
 have f2:(Value.agg #[.string ⟨#[]⟩,U 0,.nilIface]).cells.size=3:=by rfl
 clear j a1 c1;dsimp only[cP.v,bb]at f7;go_in;go_wp2_with fail;refine cx (λK=>K.cell? (Zd a.db 0)=some (Zp a.D)/\K.cell? (Zd a.rb 0)=some (Zp c.R)/\K.cell? (Zd a.cb 0)=some (.func (.func 251) #[] #[Zp a.bx])/\K.cell? (Zd a.D 2)=some (.slice ad b.length w)) (L:=12) (by kernel_rfl) rfl (by kernel_rfl) (by kernel_rfl) ?_ (λP=>?_)
 .go_keep
 refine bH [0,1,2,3,4,5,6] ?_;iterate 7 (refine bK (v:=?_) rfl (by kernel_rfl) (λ_ _ _ l=>l) (by rfl) (by assumption) ?_ ?_;rotate_left;focus (intro d a0;(try dsimp only at a0);go_simp;(try with_reducible rfl));(try simp only[aJ,aK,List.set]))
 refine bI ?_;refine bF 7 (by kernel_rfl) rfl λr m=>?_;(go_simp;go_at_call 191;refine d1.j.mono ?_;rintro A k ⟨o,⟨C,f6,j4,G,rfl,c7,c4⟩|⟨d6,G,n,a3,rfl,a6⟩⟩;rotate_left;exact aC (lN ((y.j.kp.b4 (((ak _ u).aq).u o) (by intro i5 j;simp[bb]at j ⊢;rcases j with l|l;exact Y8 (Ya (Y8 l));exact Ya (by have:=y.j.ao _ (y.j.aj a.q (by simp[dy.b8]));omega)))) y.j.kp (CO G) a3 a6);obtain⟨c5,a5,h4,O,N,M⟩:=c9.j k o;obtain⟨f8,f9,g0,e1⟩:=dJ a5;have e7:=ap a5;have h2:=Nat.ne_of_lt e7;have f4:=bX O;have d4:=bX N;have b7:=bX M;dsimp only[cP.v,bb]at b7;have i4:=ap O;have i3:=ap N;have i2:=ap M;dsimp only[iR]);refine m.out _ _ ?_ (λP=>?_)
 .go_keep
 clear m r;(try simp only[aJ,aK,List.set]);refine bF 8 (by kernel_rfl) rfl λr m=>?_;go_simp;refine m.out _ _ ?_ (λP=>?_)
 .go_keep
 clear m r;(try simp only[aJ,aK,List.set]);refine bF 9 (by kernel_rfl) rfl λr m=>?_;(refine step_append_lies _ (by rfl) _ _ _ (by rfl) d.heap.size 242 f3 _ 3 40 underlying351 e3 e9 f0 f1 f2 (by omega) (.slice ad b.length w) b.length (b.flatMap ek) (by rfl) (c5 _) ⟨k.heap.size,0,none⟩ 1 1 (ek C) (by rfl) (by rfl) (World.news_of_block (cs:=(ek C).toArray) (t:=242) (fr:=(0,0)) (heap_alloc_new k _)) (BR C) (by omega) e5 e6 (by simp;omega) (k.heap.size+1) (by simp) ?_;intro B g6 p c6 a8 c0 c3;obtain⟨c2,b6,b5,b4⟩:=d0.j k _ p o a8;obtain⟨g1,g2,g3,e2⟩:=dJ c2;have f5:=bX b6;have d5:=bX b5;have b8:=bX b4;dsimp only[cP.v,bb]at b8);refine m.out _ _ ?_ (λP=>?_)
 .go_keep
 clear m r;(try simp only[aJ,aK,List.set]);refine bH [10,11] ?_;iterate 2 (refine bK (v:=?_) rfl (by kernel_rfl) (λ_ _ _ l=>l) (by rfl) (by assumption) ?_ ?_;rotate_left;focus (intro d a0;(try dsimp only at a0);go_simp;(try with_reducible rfl));(try simp only[aJ,aK,List.set]))
 refine bI ?_;refine cR (by kernel_rfl) rfl λr m=>?_;go_simp;refine m.out _ _ ?_;clear m r;(try simp only[aJ,aK,List.set]);have z:=Z (EO F y.j (((ak _ u).aq).u o) c7 c4 ((Below.refl k.heap.size k).alloc (Y4 _) _) c6 a8 (by simpa using c0) c3);have i9:=bX z.j.vr;clear o c7 c4 c6 a8 c0 c3 c2 b6 b5 b4 g1 g2 g3 e2 f5 d5 b8 a5 O N M f8 f9 g0 e1 c5 f4 d4 b7;go_wp2_with fail;refine(ff (cJ c (B::g)) _ z.j.rd).mono ?_;rintro A j2 ⟨a9,⟨j3,g4,b1,rfl,c8⟩|⟨d6,b1,g5,a3,rfl,a6⟩⟩;rotate_left
 .exact aC (lN (z.j.kp.u (a9.K (by simp))) z.j.kp ((yk G).trans (bm (cB b1))) a3 a6)
 have d3:=Z (z.j.b5 F a9 c8);clear a9 c8;go_wp2;go_end0;exact Y8 ⟨B::g,(b++[C],f6),g4,(yk G).trans (aQ (bf b1)),rfl,by simp[d2.j],_,d3.j⟩
end
section
variable {a d:Ad}{w:Zw}{b e:St}{c:Type}
theorem jH.fin{k:Za}{l:Zw}{d:dy}{c:Zb×Nat}{g:List aO}{r:List Nat}{z:Zc}{q:Zv}(j:Rd a k e w)(f:jH a k w d c g r z q b l)(I:g.length<=12)
  {p:Except Mar.aw (aB×St)} (o:p=.ok (.struct c.1 c.2 g,b)):ga [a.R,a.S,a.N] a k w p (.returned (Zp d.D)) l:=by
 have s:∀h,w.heap.size<=h->h ∉ a.X:=λh B v=>by have:=j.aY _ v;omega
 have A:l.heap[d.D]? = some (.cells #[.string ⟨c.1.toArray⟩,U c.2,q] 353)/\d.D ∉ a.X:=⟨f.ai,s _ (f.ao _ (f.aj _ (by simp[dy.b8])))⟩;refine⟨f.kp,Y8 ⟨.struct c.1 c.2 g,b,d.D,?_⟩⟩;rcases f.row.2 with⟨rfl,t⟩|⟨i,m,n,rfl,C,E,u,F,G,H⟩
 .have:g=[]:=Yv.1 t;subst this;refine⟨[(d.D,.cells #[.string ⟨c.1.toArray⟩,U c.2,.slice none 0 0] 353)],o,rfl,jj j.aj f.rd,⟨.slice none 0 0,Yb,Y8 ⟨rfl,rfl,rfl⟩⟩,?_⟩;intro y x;simp_all
 .refine⟨[(d.D,.cells #[.string ⟨c.1.toArray⟩,U c.2,.slice (some ⟨i,0,none⟩) g.length m] 353),(i,.cells n 242)],o,rfl,jj j.aj f.rd,⟨_,Yb,Ya ⟨i,m,n,rfl,⟨u,by omega⟩,by simp,?_⟩⟩,?_⟩
  .grind
  .intro y x;grind
def QA(args:Array Zv)(a:Zw):(callFunc 196 args).run prog a=.ok (.enter 196 args) a:=by
 kernel_rfl
def PI{d:Za}(h:Rd a d e w)(b:dy)(k:Zb×Nat):tG (List aO×Zc) a d w 12 where
 f:=196
 i2:=#[Zp b.db,Zp b.rb,Zp b.cb]
 a4:=iB d b
 J:=vB a d w b k
 fq:=QA
 rd:=by rintro _ _ _ _ _ ⟨_,_,c⟩;exact c.rd
 kp:=by rintro _ _ _ _ _ ⟨_,_,c⟩;exact c.kp
 b5:=by rintro _ _ _ _ _ _ _ ⟨g,l,c⟩ i j;exact⟨g,l,c.b5 h i j⟩
 call:=by
  grind [Qz]
def iz(d:PX c Unit)(e:c):PM c:=λb=>match d e b with
 |.ok (_,f,g)=>.ok (f,g)
 |.error a=>.error a
def pL{a:PX c Unit}{d e:c}{f:St}(g:a d b=.ok ((),e,f)):iz a d b=.ok (e,f):=by simp only[iz,g]
theorem vu{d:PX c Unit}{e:c}{a:Mar.aw}(f:d e b=.error a):iz d e b=.error a:=by simp only[iz,f]
def iX(a:Za)(c:Nat):PM aB:=aF (hK c) λ_=>aF (gf a) λb=>aF (iz (ei a 12 (iB a ⟨0,0,0,0,0,0⟩)) ([],[])) λd=>aF (bY a [59]) λ_=>ret (.struct b.1 b.2 d.1)
def LJ(g:ew d a){e:Za}(c:Nat)(f:Rd d e b w) :
  Calls prog 190 #[Zp a.R,U c] w (dx [a.R] d e w (hK c b) oI):=by
 have:=uN c f;rw[g.1]at this;exact this
def Bs(c:ew d a){e:Za}(f:Rd d e b w) :
  Calls prog 185 #[Zp a.R,.func (.func 186) #[Zp a.R] #[]] w (dx [a.S,a.N] d e w (gf e b) fY):=by
 have:=sH f;rw[c.1,c.2.1,c.2.2.1]at this;exact this
def Rd.i9{i:Za}{f:Zw}{e:Nat}(g:Rd a i b w)(h:Below w.heap.size w f)(j:w.heap.size<=e)(p:e<f.heap.size):Rd (a.aI e) i b f:=by
 have c:=g.au h;obtain⟨k,l,m,n⟩:=c.aj;refine⟨c.me,c.sc,(g.nm.aI j).au h,⟨Y5 _ k,Y5 _ l,Y5 _ m,Y5 _ n⟩,?_,c.pr,c.np,c.gl,c.ev,c.bp⟩;intro o d;rcases Yg.1 d with rfl|d
 .omega
 .exact c.aY o d
def QB{s:Za}(z:Nat)(k:Rd a s b w) :
  Calls prog 122 #[Zp a.R,U z] w (ga [a.R,a.S,a.N] a s w (iX s z b)):=by
 have e6:=iT;have d2:=k.a6 (.cells #[Zp a.R] 145);have E:=aS (w:=w) (o:=.cells #[Zp a.R] 145) rfl;obtain⟨f2,f3,f4,f5⟩:=k.lt;have e0:=bX E;go_in;go_wp2_with fail;refine(LJ (ex a _) z d2).mono ?_;rintro u d9 ⟨C,⟨f9,g4,l,rfl,d3⟩|⟨x,l,m,h,rfl,i⟩⟩;rotate_left
 .exact aC (dr (((ak _ w).B _).u (C.K (by simp))) ((ak [] w).B _) (bl l) h i)
 have A:am [a.R,a.S,a.N] w d9:=((ak _ w).B _).u (C.K (by simp));have F:=(C.G _ (ap E) (by grind)).trans E;have e1:=bX F;go_wp2_with fail;refine(Bs (ex a _) d3).mono ?_;rintro u c ⟨D,⟨d,b2,r,rfl,d4⟩|⟨x,r,m,h,rfl,i⟩⟩;rotate_left
 .exact aC (dr (A.u (D.K (by simp))) A ((aE l).trans (bl r)) h i)
 have K:=A.u (D.K (M':=[a.R,a.S,a.N]) (by simp));have a8:=(D.G _ (ap F) (by grind)).trans F;have c9:=ap a8;dsimp only[fY];go_wp2_with fail;obtain⟨g,p⟩:∃g,g=(c.alloc (.cells #[.string ⟨d.1.toArray⟩,U d.2,.slice none 0 0] 353)).alloc (.cells #[Zp c.heap.size] 229):=⟨_,rfl⟩;rw[<-p];have a7:(c.alloc (.cells #[.string ⟨d.1.toArray⟩,U d.2,.slice none 0 0] 353)).heap.size=c.heap.size+1:=by simp
 have a6:=(d4.a6 (.cells #[.string ⟨d.1.toArray⟩,U d.2,.slice none 0 0] 353)).a6 (.cells #[Zp c.heap.size] 229);rw[a7,<-p]at a6;have e8:g.heap.size=c.heap.size+2:=by simp_all
 have a1:am [] c g:=by rw[p];exact((ak [] c).B _).B _
 have H:g.heap[c.heap.size]? = some (.cells #[.string ⟨d.1.toArray⟩,U d.2,.slice none 0 0] 353):=by
  rw[p];exact(((ak [] _).B _).G _ (by omega) (by simp)).trans (aS rfl)
 have P:g.heap[c.heap.size+1]? = some (.cells #[Zp c.heap.size] 229):=by
  rw[p];exact aS a7.symm
 have a9:=(a1.G _ c9 (by simp)).trans a8;have c3:=K.u (a1.K (M':=[a.R,a.S,a.N]) (by simp));refine(tQ _).mono ?_;rintro u e ⟨f,j,rfl,d1,e4,e7,J,O,b1⟩;have c8:f<e.heap.size:=by
  obtain⟨_,_,_,a4⟩:=id J;grind
 have d0:=ap b1;have d5:=a6.i9 O d1 c8;have q:am [] g e:=bh [] O;have f0:=q.ar;have b0:=(q.G _ (ap a9) (by simp)).trans a9;have I:=(q.G _ (ap H) (by simp)).trans H;have a0:=(q.G _ (ap P) (by simp)).trans P;have c4:=c3.u (q.K (M':=[a.R,a.S,a.N]) (by simp));have n:=(ak [] e).B (.cells #[(bb f j).v] 341);have e9:=K.ar;have B:jH a s w ⟨c.heap.size,w.heap.size,c.heap.size+1,e.heap.size,f,j⟩ d [] [e.heap.size,f,c.heap.size+1,c.heap.size,w.heap.size] [] (.slice none 0 0) b2 (e.alloc (.cells #[(bb f j).v] 341)):=by
  have d7:=(n.G _ (ap b0) (by simp)).trans b0;have c1:=(n.G _ (ap I) (by simp)).trans I;have c6:=(n.G _ (ap a0) (by simp)).trans a0;refine⟨c4.B _,d5.a6 _,?_,?_,?_,?_,?_,?_,c1,d7,c6,aS rfl,⟨rfl,Y8 ⟨rfl,rfl⟩⟩⟩
  .intro m c5;simp[dy.b8]at c5 ⊢;omega
  .simp[dy.b8];omega
  .intro g3 d8;simp at d8;omega
  .intro e3 c7;cases c7
  .have c2:dp f [] e:=J;exact c2.F n (by simp)
  .intro f6 a5;simp only[bb,Yc]at a5;subst a5;refine⟨(n.G _ d0 (by simp)).trans b1,?_⟩;simp[Ad.ab];refine⟨by omega,by omega,by omega,by omega,by omega,?_⟩;intro a4;have:=k.aY _ a4;omega
 have b7:=bX B.vr;have b9:=bX B.vd;have b4:=Z B;dsimp only[cP.v,bb]at b7 b9 ⊢;go_wp2_with fail;have b3:vB a s w ⟨c.heap.size,w.heap.size,c.heap.size+1,e.heap.size,f,j⟩ d 0 [e.heap.size,f,c.heap.size+1,c.heap.size,w.heap.size] ([],[]) b2 (e.alloc (.cells #[(bb f j).v] 341)):=⟨rfl,_,b4.j⟩;refine(wu 12 (PI k ⟨c.heap.size,w.heap.size,c.heap.size+1,e.heap.size,f,j⟩ d) (by omega) b3).mono ?_;rintro u g0 (⟨b6,⟨e2,f8⟩,g5,y,rfl,f1,a2,e5,f7,L⟩|⟨x,y,a2,m,h,rfl,i⟩);rotate_left
 .exact aC ⟨a2,Ya ⟨x,(aE l).trans ((aE r).trans (bl (vu y))),m,h,rfl,i⟩⟩
 have b8:=bX L.vr;have t:=Z L;dsimp only at b8;go_wp2_with fail;refine(ff (cJ a b6) _ t.j.rd).mono ?_;rintro u g1 ⟨a3,⟨g2,g6,G,rfl,d6⟩|⟨x,G,m,h,rfl,i⟩⟩;rotate_left
 .exact aC (dr (t.j.kp.u (a3.K (by simp))) t.j.kp ((aE l).trans ((aE r).trans ((aE (pL y)).trans (bl G)))) h i)
 have M:=t.j.b5 k a3 d6;have c0:=bX M.vd;have b5:=Z M;dsimp only at c0;go_wp2;go_ret;exact b5.j.fin k (by omega) ((aE l).trans ((aE r).trans ((aE (pL y)).trans (aE G))))
end
end Go.Proofs.YtjdhaegijjednaaGreatDoor
