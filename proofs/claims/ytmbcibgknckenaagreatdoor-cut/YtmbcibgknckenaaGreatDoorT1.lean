import Derived.Shelf.Strings.Builder1
import Derived.Shelf.Small.Strs
import Derived.Shelf.Small.Wraps
import Derived.Shelf.Strings.BuilderF
import Derived.Shelf.Strings.BuilderK
import Derived.Shelf.Strconv.Itoa0
import Derived.Shelf.Strconv.Itoa1
import Derived.Shelf.LaysM
import Derived.Shelf.Strconv.Itoa2
import Derived.Shelf.Strconv.Itoa3
import Derived.Shelf.Strconv.Itoa4
import Derived.Shelf.Strconv.ParseIntEmpty
import Derived.Shelf.Strconv.Clone
import Derived.Shelf.Strconv.SyntaxError
import Derived.Shelf.LaysC
import Derived.Shelf.Strconv.ToError
import Derived.Shelf.Strconv.Lower
import Derived.Shelf.Strconv.ParseUint10
import Derived.Shelf.Strconv.ParseUint10Empty
import Derived.Shelf.Strconv.ParseUint10Any
import Derived.Shelf.Strconv.ParseInt10
import Derived.Shelf.Strconv.RangeError
import Derived.Shelf.Strconv.ToErrorRange
import Derived.Shelf.Strconv.ParseUintEmpty
import Derived.Shelf.Strconv.ParseUint10b64
import Derived.Shelf.Strconv.ParseUint10b32
import Derived.Shelf.Strconv.ParseUint10b16
import Derived.Shelf.Strconv.ParseUint10b8
import Derived.Shelf.Strconv.ParseUint10At
import Derived.Shelf.Strconv.ParseInt10At64
import Derived.Shelf.Strconv.ParseInt10At32
import Derived.Shelf.Strconv.ParseInt10At16
import Derived.Shelf.Strconv.ParseInt10At8
import Derived.Shelf.Strconv.ParseInt10All
import Derived.Shelf.Strconv.ParseIntPublic10
import Derived.Shelf.Strconv.ErrVarParseInt
import Derived.Shelf.Strings.Search1
import Derived.Shelf.Strings.Search2
import Derived.Shelf.Strings.Cut
import Derived.Shelf.Strings.Shaped
import Derived.Shelf.Strings.Prefix
import Derived.Test.YtmbcibgknckenaaGreatDoorProg
import GoSem.Claim
import Derived.Lib.IndexMore
import Derived.Lib.Strings
import Derived.Lib.ParseIntBCases
import Derived.WalkKit
import Derived.WalkSpells
import Derived.WalkSmall
import Derived.Lib.AtoiErrMem
import Derived.Lib.ConvBytes
import Derived.Lib.Hide
import Derived.Lib.AtoiAllMem
import Derived.BigCall
import Derived.BigGuard
import Derived.Deep.RegionHeld3
import Derived.Deep.RegionHeld2
import Derived.Deep.DeepCutAuto
import Derived.Deep.QuietTactic
import Derived.BigQuiet
set_option linter.all false
set_option maxRecDepth 100000
set_option maxHeartbeats 4000000
namespace Go.Proofs
open Go.Shelf
def Tryz.lays169_ren:Go.Shelf.Ren:=⟨fun | 169=>45 | n=>n,fun | 70=>89 | 9=>9 | 0=>0 | 72=>92 | 37=>90 | 127=>173 | 3=>3 | 5=>5 | n=>n,fun | n=>n⟩
theorem Tryz.lays169:Go.Proofs.Lays.n169 Tryz.prog Tryz.lays169_ren:={
 mixed:=by kernel_rfl
 f169:=Tryz.func45.trans (congrArg some (by kernel_rfl))
 t0:=Tryz.underlying0
 a0:=Tryz.isAgg0
 z0:=Tryz.sizeOf0
 v0:=Tryz.zeroValue0
 t3:=Tryz.underlying3
 a3:=Tryz.isAgg3
 z3:=Tryz.sizeOf3
 v3:=Tryz.zeroValue3
 t9:=Tryz.underlying9
 a9:=Tryz.isAgg9
 z9:=Tryz.sizeOf9
 v9:=Tryz.zeroValue9
 t37:=Tryz.underlying90
 a37:=Tryz.isAgg90
 z37:=Tryz.sizeOf90
 v37:=Tryz.zeroValue90
 t70:=Tryz.underlying89
 a70:=Tryz.isAgg89
 z70:=Tryz.sizeOf89
 v70:=Tryz.zeroValue89
 t72:=Tryz.underlying92
 a72:=Tryz.isAgg92
 z72:=Tryz.sizeOf92
 v72:=Tryz.zeroValue92
 t127:=Tryz.underlying173
 a127:=Tryz.isAgg173
 z127:=Tryz.sizeOf173
 v127:=Tryz.zeroValue173 }
theorem Tryz.Builder_Extra_169:Builder.Extra Tryz.prog Tryz.lays169_ren:={
 sizeBuilder:=by kernel_rfl
 liesBuilder:=by kernel_rfl
 t5:=Tryz.underlying5
 a5:=Tryz.isAgg5
 z5:=Tryz.sizeOf5
 v5:=Tryz.zeroValue5
 infoByte:=by kernel_rfl
 cellsByte:=by kernel_rfl
 sizeByte:=by kernel_rfl
 neB5:=by decide }
def Tryz.lays137_ren:Go.Shelf.Ren:=⟨fun | 137=>149 | 217=>172 | 266=>182 | n=>n,fun | 9=>9 | 5=>5 | 3=>3 | n=>n,fun | n=>n⟩
theorem Tryz.lays137:Go.Proofs.Lays.n137 Tryz.prog Tryz.lays137_ren:={
 mixed:=by kernel_rfl
 f137:=Tryz.func149.trans (congrArg some (by kernel_rfl))
 f217:=Tryz.func172.trans (congrArg some (by kernel_rfl))
 f266:=Tryz.func182.trans (congrArg some (by kernel_rfl))
 t3:=Tryz.underlying3
 a3:=Tryz.isAgg3
 z3:=Tryz.sizeOf3
 v3:=Tryz.zeroValue3
 t5:=Tryz.underlying5
 a5:=Tryz.isAgg5
 z5:=Tryz.sizeOf5
 v5:=Tryz.zeroValue5
 t9:=Tryz.underlying9
 a9:=Tryz.isAgg9
 z9:=Tryz.sizeOf9
 v9:=Tryz.zeroValue9 }
open Go.RowKit in
theorem Tryz.strings_IndexByte (s:ByteArray) (c:Int) (w:World) :
  Calls Tryz.prog 149 #[.string s,.int .u8 c] w fun e w'=>e = .returned (.int .i64 (Lib.indexByte s.data.toList c.toNat.toUInt8))∧w'=w:=Any.strings_IndexByte Tryz.lays137 s c w
def Tryz.lays210_ren:Go.Shelf.Ren:=⟨fun | 210=>180 | 206=>186 | n=>n,fun | 9=>9 | 4=>4 | 3=>3 | n=>n,fun | n=>n⟩
def Tryz.lays103_ren:Go.Shelf.Ren:=⟨fun | 103=>170 | 210=>180 | 206=>186 | n=>n,fun | 9=>9 | 4=>4 | 24=>347 | 3=>3 | n=>n,fun | n=>n⟩
theorem Tryz.lays103:Go.Proofs.Lays.n103 Tryz.prog Tryz.lays103_ren:={
 mixed:=by kernel_rfl
 f103:=Tryz.func170.trans (congrArg some (by kernel_rfl))
 f206:=Tryz.func186.trans (congrArg some (by kernel_rfl))
 f210:=Tryz.func180.trans (congrArg some (by kernel_rfl))
 t3:=Tryz.underlying3
 a3:=Tryz.isAgg3
 z3:=Tryz.sizeOf3
 v3:=Tryz.zeroValue3
 t4:=Tryz.underlying4
 a4:=Tryz.isAgg4
 z4:=Tryz.sizeOf4
 v4:=Tryz.zeroValue4
 t9:=Tryz.underlying9
 a9:=Tryz.isAgg9
 z9:=Tryz.sizeOf9
 v9:=Tryz.zeroValue9
 t24:=Tryz.underlying347
 a24:=Tryz.isAgg347
 z24:=Tryz.sizeOf347
 v24:=Tryz.zeroValue347 }
open Go.RowKit in
theorem Tryz.strings_CutPrefix (s p:ByteArray) (w:World) :
  Calls Tryz.prog 170 #[.string s,.string p] w fun e w'=>e = .returned (.tuple #[.string ⟨(Lib.trimPrefix s.data.toList p.data.toList).toArray⟩,.bool (Lib.hasPrefix s.data.toList p.data.toList)])∧w'=w:=Any.strings_CutPrefix Tryz.lays103 s p w
def Tryz.laysM316_ren:Go.Shelf.Ren:=⟨fun | 316=>176 | n=>n,fun | 9=>9 | 3=>3 | 4=>4 | 37=>90 | 0=>0 | 127=>173 | 5=>5 | n=>n,fun | n=>n⟩
theorem Tryz.laysM316:Go.Proofs.LaysM.n316 Tryz.prog Tryz.laysM316_ren:={
 mixed:=by kernel_rfl
 f316:=Tryz.func176.trans (congrArg some (by kernel_rfl))
 t0:=Tryz.underlying0
 a0:=Tryz.isAgg0
 z0:=Tryz.sizeOf0
 v0:=Tryz.zeroValue0
 t3:=Tryz.underlying3
 a3:=Tryz.isAgg3
 z3:=Tryz.sizeOf3
 v3:=Tryz.zeroValue3
 t4:=Tryz.underlying4
 a4:=Tryz.isAgg4
 z4:=Tryz.sizeOf4
 v4:=Tryz.zeroValue4
 t9:=Tryz.underlying9
 a9:=Tryz.isAgg9
 z9:=Tryz.sizeOf9
 v9:=Tryz.zeroValue9
 t37:=Tryz.underlying90
 a37:=Tryz.isAgg90
 z37:=Tryz.sizeOf90
 v37:=Tryz.zeroValue90
 t127:=Tryz.underlying173
 a127:=Tryz.isAgg173
 z127:=Tryz.sizeOf173
 v127:=Tryz.zeroValue173
 t5:=Tryz.underlying5
 a5:=Tryz.isAgg5
 z5:=Tryz.sizeOf5
 v5:=Tryz.zeroValue5
 i0:=by kernel_rfl
 i3:=by kernel_rfl
 i4:=by kernel_rfl
 i5:=by kernel_rfl
 i9:=by kernel_rfl
 i37:=by kernel_rfl
 i127:=by kernel_rfl }
open Go.RowKit in
theorem Tryz.stringslite_Clone (s:ByteArray) (w:World) (hlim:s.size≤281474976710656) :
  Calls Tryz.prog 176 #[.string s] w fun e w'=>e = .returned (.string s)∧Below w.heap.size w w':=Any.stringslite_Clone Tryz.laysM316 s w hlim
def Tryz.laysC245_ren:Go.Shelf.Ren:=⟨fun | 245=>189 | 279=>197 | 280=>198 | 281=>199 | 282=>200 | 316=>176 | 171=>203 | 205=>202 | 243=>204 | 246=>205 | 283=>206 | 284=>207 | 285=>208 | 286=>209 | 129=>211 | 317=>210 | 318=>212 | 319=>213 | 320=>214 | 337=>215 | 338=>216 | n=>n,fun | 9=>9 | 3=>3 | 75=>24 | 167=>363 | 4=>4 | 168=>365 | 210=>371 | 37=>90 | 0=>0 | 127=>173 | 145=>375 | 143=>373 | 2=>2 | 171=>377 | 53=>253 | 5=>5 | 173=>380 | 212=>383 | 51=>161 | 20=>20 | 213=>384 | 46=>328 | 232=>388 | 233=>389 | 80=>27 | n=>n,fun | 15=>3 | 16=>4 | 17=>5 | 18=>6 | 19=>7 | n=>n⟩
theorem Tryz.laysC245:Go.Proofs.LaysC.n245 Tryz.prog Tryz.laysC245_ren:={
 mixed:=by kernel_rfl
 f129:=Tryz.func211.trans (congrArg some (by kernel_rfl))
 f171:=Tryz.func203.trans (congrArg some (by kernel_rfl))
 f205:=Tryz.func202.trans (congrArg some (by kernel_rfl))
 f243:=Tryz.func204.trans (congrArg some (by kernel_rfl))
 f245:=Tryz.func189.trans (congrArg some (by kernel_rfl))
 f246:=Tryz.func205.trans (congrArg some (by kernel_rfl))
 f279:=Tryz.func197.trans (congrArg some (by kernel_rfl))
 f280:=Tryz.func198.trans (congrArg some (by kernel_rfl))
 f281:=Tryz.func199.trans (congrArg some (by kernel_rfl))
 f282:=Tryz.func200.trans (congrArg some (by kernel_rfl))
 f283:=Tryz.func206.trans (congrArg some (by kernel_rfl))
 f284:=Tryz.func207.trans (congrArg some (by kernel_rfl))
 f285:=Tryz.func208.trans (congrArg some (by kernel_rfl))
 f286:=Tryz.func209.trans (congrArg some (by kernel_rfl))
 f316:=Tryz.func176.trans (congrArg some (by kernel_rfl))
 f317:=Tryz.func210.trans (congrArg some (by kernel_rfl))
 f318:=Tryz.func212.trans (congrArg some (by kernel_rfl))
 f319:=Tryz.func213.trans (congrArg some (by kernel_rfl))
 f320:=Tryz.func214.trans (congrArg some (by kernel_rfl))
 f337:=Tryz.func215.trans (congrArg some (by kernel_rfl))
 f338:=Tryz.func216.trans (congrArg some (by kernel_rfl))
 t0:=Tryz.underlying0
 a0:=Tryz.isAgg0
 z0:=Tryz.sizeOf0
 v0:=Tryz.zeroValue0
 t2:=Tryz.underlying2
 a2:=Tryz.isAgg2
 z2:=Tryz.sizeOf2
 v2:=Tryz.zeroValue2
 t3:=Tryz.underlying3
 a3:=Tryz.isAgg3
 z3:=Tryz.sizeOf3
 v3:=Tryz.zeroValue3
 t4:=Tryz.underlying4
 a4:=Tryz.isAgg4
 z4:=Tryz.sizeOf4
 v4:=Tryz.zeroValue4
 t5:=Tryz.underlying5
 a5:=Tryz.isAgg5
 z5:=Tryz.sizeOf5
 v5:=Tryz.zeroValue5
 t9:=Tryz.underlying9
 a9:=Tryz.isAgg9
 z9:=Tryz.sizeOf9
 v9:=Tryz.zeroValue9
 t20:=Tryz.underlying20
 a20:=Tryz.isAgg20
 z20:=Tryz.sizeOf20
 v20:=Tryz.zeroValue20
 t37:=Tryz.underlying90
 a37:=Tryz.isAgg90
 z37:=Tryz.sizeOf90
 v37:=Tryz.zeroValue90
 t46:=Tryz.underlying328
 a46:=Tryz.isAgg328
 z46:=Tryz.sizeOf328
 v46:=Tryz.zeroValue328
 t51:=Tryz.underlying161
 a51:=Tryz.isAgg161
 z51:=Tryz.sizeOf161
 v51:=Tryz.zeroValue161
 t53:=Tryz.underlying253
 a53:=Tryz.isAgg253
 z53:=Tryz.sizeOf253
 v53:=Tryz.zeroValue253
 t75:=Tryz.underlying24
 a75:=Tryz.isAgg24
 z75:=Tryz.sizeOf24
 v75:=Tryz.zeroValue24
 t127:=Tryz.underlying173
 a127:=Tryz.isAgg173
 z127:=Tryz.sizeOf173
 v127:=Tryz.zeroValue173
 t143:=Tryz.underlying373
 a143:=Tryz.isAgg373
 z143:=Tryz.sizeOf373
 v143:=Tryz.zeroValue373
 t145:=Tryz.underlying375
 a145:=Tryz.isAgg375
 z145:=Tryz.sizeOf375
 v145:=Tryz.zeroValue375
 t167:=Tryz.underlying363
 a167:=Tryz.isAgg363
 z167:=Tryz.sizeOf363
 v167:=Tryz.zeroValue363
 t168:=Tryz.underlying365
 a168:=Tryz.isAgg365
 z168:=Tryz.sizeOf365
 v168:=Tryz.zeroValue365
 t171:=Tryz.underlying377
 a171:=Tryz.isAgg377
 z171:=Tryz.sizeOf377
 v171:=Tryz.zeroValue377
 t173:=Tryz.underlying380
 a173:=Tryz.isAgg380
 z173:=Tryz.sizeOf380
 v173:=Tryz.zeroValue380
 t210:=Tryz.underlying371
 a210:=Tryz.isAgg371
 z210:=Tryz.sizeOf371
 v210:=Tryz.zeroValue371
 t212:=Tryz.underlying383
 a212:=Tryz.isAgg383
 z212:=Tryz.sizeOf383
 v212:=Tryz.zeroValue383
 t213:=Tryz.underlying384
 a213:=Tryz.isAgg384
 z213:=Tryz.sizeOf384
 t232:=Tryz.underlying388
 a232:=Tryz.isAgg388
 z232:=Tryz.sizeOf388
 v232:=Tryz.zeroValue388
 t233:=Tryz.underlying389
 a233:=Tryz.isAgg389
 z233:=Tryz.sizeOf389
 v233:=Tryz.zeroValue389
 g15:=by kernel_rfl
 g16:=by kernel_rfl
 g17:=by kernel_rfl
 g18:=by kernel_rfl
 g19:=by kernel_rfl
 t80:=Tryz.underlying27
 a80:=Tryz.isAgg27
 z80:=Tryz.sizeOf27
 v80:=Tryz.zeroValue27
 i0:=by kernel_rfl
 i2:=by kernel_rfl
 i3:=by kernel_rfl
 i4:=by kernel_rfl
 i5:=by kernel_rfl
 i9:=by kernel_rfl
 i20:=by kernel_rfl
 i37:=by kernel_rfl
 i46:=by kernel_rfl
 i51:=by kernel_rfl
 i53:=by kernel_rfl
 i75:=by kernel_rfl
 i80:=by kernel_rfl
 i127:=by kernel_rfl
 i143:=by kernel_rfl
 i145:=by kernel_rfl
 i167:=by kernel_rfl
 i168:=by kernel_rfl
 i171:=by kernel_rfl
 i173:=by kernel_rfl
 i210:=by kernel_rfl
 i212:=by kernel_rfl
 i232:=by kernel_rfl
 i233:=by kernel_rfl
 m15:=by kernel_rfl
 m16:=by kernel_rfl
 m17:=by kernel_rfl
 m18:=by kernel_rfl
 m19:=by kernel_rfl
 c0:=by kernel_rfl
 c2:=by kernel_rfl
 c3:=by kernel_rfl
 c4:=by kernel_rfl
 c5:=by kernel_rfl
 c9:=by kernel_rfl
 c20:=by kernel_rfl
 c37:=by kernel_rfl
 c46:=by kernel_rfl
 c51:=by kernel_rfl
 c53:=by kernel_rfl
 c75:=by kernel_rfl
 c80:=by kernel_rfl
 c127:=by kernel_rfl
 c143:=by kernel_rfl
 c145:=by kernel_rfl
 c167:=by kernel_rfl
 c168:=by kernel_rfl
 c171:=by kernel_rfl
 c173:=by kernel_rfl
 c210:=by kernel_rfl
 c212:=by kernel_rfl
 c213:=by kernel_rfl
 c232:=by kernel_rfl
 c233:=by kernel_rfl }
open Go.RowKit in
theorem Tryz.strconv_toError_syntax (fn s:ByteArray) (base bits:Int) (ev:Value) (w:World) (hlim:s.size≤281474976710656) (hv:w.cell? ⟨3,0,none⟩=some ev) (hev:ev = .nilIface∨∃ te pe,ev = .iface te pe) :
  Calls Tryz.prog 189 #[.string fn,.string s,.int .i64 base,.int .i64 bits,.iface 363 (.int .i64 2)] w fun e w'=>∃ N,e = .returned (.iface 365 (.pointer (some ⟨N,0,none⟩)))∧w.heap.size≤N∧w'.heap[N]? = some (.cells #[.string fn,.string s,ev] 371 (0,0))∧Below w.heap.size w w':=Any.strconv_toError_syntax Tryz.laysC245 fn s base bits ev w hlim hv hev
def Tryz.lays321_ren:Go.Shelf.Ren:=⟨fun | 321=>195 | n=>n,fun | 5=>5 | n=>n,fun | n=>n⟩
theorem Tryz.lays321:Go.Proofs.Lays.n321 Tryz.prog Tryz.lays321_ren:={
 mixed:=by kernel_rfl
 f321:=Tryz.func195.trans (congrArg some (by kernel_rfl))
 t5:=Tryz.underlying5
 a5:=Tryz.isAgg5
 z5:=Tryz.sizeOf5
 v5:=Tryz.zeroValue5 }
open Go.RowKit in
theorem Tryz.internal_strconv_lower (c:Int) (w:World) :
  Calls Tryz.prog 195 #[.int .u8 c] w fun e w'=>e = .returned (.int .u8 (bits .or .u8 c 32))∧w'=w:=Any.internal_strconv_lower Tryz.lays321 c w
def Tryz.lays287_ren:Go.Shelf.Ren:=⟨fun | 287=>188 | 321=>195 | 322=>196 | n=>n,fun | 9=>9 | 3=>3 | 53=>253 | 75=>24 | 4=>4 | 167=>363 | 5=>5 | 46=>328 | 37=>90 | 0=>0 | 21=>21 | 80=>27 | n=>n,fun | n=>n⟩
theorem Tryz.lays287:Go.Proofs.Lays.n287 Tryz.prog Tryz.lays287_ren:={
 mixed:=by kernel_rfl
 f287:=Tryz.func188.trans (congrArg some (by kernel_rfl))
 f321:=Tryz.func195.trans (congrArg some (by kernel_rfl))
 f322:=Tryz.func196.trans (congrArg some (by kernel_rfl))
 t0:=Tryz.underlying0
 a0:=Tryz.isAgg0
 z0:=Tryz.sizeOf0
 v0:=Tryz.zeroValue0
 t3:=Tryz.underlying3
 a3:=Tryz.isAgg3
 z3:=Tryz.sizeOf3
 v3:=Tryz.zeroValue3
 t4:=Tryz.underlying4
 a4:=Tryz.isAgg4
 z4:=Tryz.sizeOf4
 v4:=Tryz.zeroValue4
 t5:=Tryz.underlying5
 a5:=Tryz.isAgg5
 z5:=Tryz.sizeOf5
 v5:=Tryz.zeroValue5
 t9:=Tryz.underlying9
 a9:=Tryz.isAgg9
 z9:=Tryz.sizeOf9
 v9:=Tryz.zeroValue9
 t21:=Tryz.underlying21
 a21:=Tryz.isAgg21
 z21:=Tryz.sizeOf21
 v21:=Tryz.zeroValue21
 t37:=Tryz.underlying90
 a37:=Tryz.isAgg90
 z37:=Tryz.sizeOf90
 v37:=Tryz.zeroValue90
 t46:=Tryz.underlying328
 a46:=Tryz.isAgg328
 z46:=Tryz.sizeOf328
 v46:=Tryz.zeroValue328
 t53:=Tryz.underlying253
 a53:=Tryz.isAgg253
 z53:=Tryz.sizeOf253
 v53:=Tryz.zeroValue253
 t75:=Tryz.underlying24
 a75:=Tryz.isAgg24
 z75:=Tryz.sizeOf24
 v75:=Tryz.zeroValue24
 t167:=Tryz.underlying363
 a167:=Tryz.isAgg363
 z167:=Tryz.sizeOf363
 v167:=Tryz.zeroValue363 }
open Go.RowKit in
theorem Tryz.internal_strconv_ParseUint_empty (base bits:Int) (w:World) :
  Calls Tryz.prog 188 #[.string ⟨#[]⟩,.int .i64 base,.int .i64 bits] w fun e w'=>e = .returned (.tuple #[.int .u64 0,.iface 363 (.int .i64 2)])∧w'=w:=Any.internal_strconv_ParseUint_empty Tryz.lays287 base bits w
def Tryz.laysC174_ren:Go.Shelf.Ren:=⟨fun | 174=>185 | 247=>191 | 245=>189 | 287=>188 | 279=>197 | 280=>198 | 281=>199 | 282=>200 | 321=>195 | 322=>196 | 316=>176 | 171=>203 | 205=>202 | 243=>204 | 246=>205 | 283=>206 | 284=>207 | 285=>208 | 286=>209 | 129=>211 | 317=>210 | 318=>212 | 319=>213 | 320=>214 | 337=>215 | 338=>216 | n=>n,fun | 9=>9 | 3=>3 | 2=>2 | 75=>24 | 85=>358 | 4=>4 | 167=>363 | 5=>5 | 53=>253 | 175=>355 | 46=>328 | 168=>365 | 37=>90 | 0=>0 | 210=>371 | 21=>21 | 127=>173 | 145=>375 | 143=>373 | 171=>377 | 173=>380 | 212=>383 | 51=>161 | 20=>20 | 213=>384 | 232=>388 | 233=>389 | 80=>27 | n=>n,fun | 15=>3 | 16=>4 | 17=>5 | 18=>6 | 19=>7 | n=>n⟩
theorem Tryz.laysC174:Go.Proofs.LaysC.n174 Tryz.prog Tryz.laysC174_ren:={
 mixed:=by kernel_rfl
 f129:=Tryz.func211.trans (congrArg some (by kernel_rfl))
 f171:=Tryz.func203.trans (congrArg some (by kernel_rfl))
 f174:=Tryz.func185.trans (congrArg some (by kernel_rfl))
 f205:=Tryz.func202.trans (congrArg some (by kernel_rfl))
 f243:=Tryz.func204.trans (congrArg some (by kernel_rfl))
 f245:=Tryz.func189.trans (congrArg some (by kernel_rfl))
 f246:=Tryz.func205.trans (congrArg some (by kernel_rfl))
 f247:=Tryz.func191.trans (congrArg some (by kernel_rfl))
 f279:=Tryz.func197.trans (congrArg some (by kernel_rfl))
 f280:=Tryz.func198.trans (congrArg some (by kernel_rfl))
 f281:=Tryz.func199.trans (congrArg some (by kernel_rfl))
 f282:=Tryz.func200.trans (congrArg some (by kernel_rfl))
 f283:=Tryz.func206.trans (congrArg some (by kernel_rfl))
 f284:=Tryz.func207.trans (congrArg some (by kernel_rfl))
 f285:=Tryz.func208.trans (congrArg some (by kernel_rfl))
 f286:=Tryz.func209.trans (congrArg some (by kernel_rfl))
 f287:=Tryz.func188.trans (congrArg some (by kernel_rfl))
 f316:=Tryz.func176.trans (congrArg some (by kernel_rfl))
 f317:=Tryz.func210.trans (congrArg some (by kernel_rfl))
 f318:=Tryz.func212.trans (congrArg some (by kernel_rfl))
 f319:=Tryz.func213.trans (congrArg some (by kernel_rfl))
 f320:=Tryz.func214.trans (congrArg some (by kernel_rfl))
 f321:=Tryz.func195.trans (congrArg some (by kernel_rfl))
 f322:=Tryz.func196.trans (congrArg some (by kernel_rfl))
 f337:=Tryz.func215.trans (congrArg some (by kernel_rfl))
 f338:=Tryz.func216.trans (congrArg some (by kernel_rfl))
 t0:=Tryz.underlying0
 a0:=Tryz.isAgg0
 z0:=Tryz.sizeOf0
 v0:=Tryz.zeroValue0
 t2:=Tryz.underlying2
 a2:=Tryz.isAgg2
 z2:=Tryz.sizeOf2
 v2:=Tryz.zeroValue2
 t3:=Tryz.underlying3
 a3:=Tryz.isAgg3
 z3:=Tryz.sizeOf3
 v3:=Tryz.zeroValue3
 t4:=Tryz.underlying4
 a4:=Tryz.isAgg4
 z4:=Tryz.sizeOf4
 v4:=Tryz.zeroValue4
 t5:=Tryz.underlying5
 a5:=Tryz.isAgg5
 z5:=Tryz.sizeOf5
 v5:=Tryz.zeroValue5
 t9:=Tryz.underlying9
 a9:=Tryz.isAgg9
 z9:=Tryz.sizeOf9
 v9:=Tryz.zeroValue9
 t20:=Tryz.underlying20
 a20:=Tryz.isAgg20
 z20:=Tryz.sizeOf20
 v20:=Tryz.zeroValue20
 t21:=Tryz.underlying21
 a21:=Tryz.isAgg21
 z21:=Tryz.sizeOf21
 v21:=Tryz.zeroValue21
 t37:=Tryz.underlying90
 a37:=Tryz.isAgg90
 z37:=Tryz.sizeOf90
 v37:=Tryz.zeroValue90
 t46:=Tryz.underlying328
 a46:=Tryz.isAgg328
 z46:=Tryz.sizeOf328
 v46:=Tryz.zeroValue328
 t51:=Tryz.underlying161
 a51:=Tryz.isAgg161
 z51:=Tryz.sizeOf161
 v51:=Tryz.zeroValue161
 t53:=Tryz.underlying253
 a53:=Tryz.isAgg253
 z53:=Tryz.sizeOf253
 v53:=Tryz.zeroValue253
 t75:=Tryz.underlying24
 a75:=Tryz.isAgg24
 z75:=Tryz.sizeOf24
 v75:=Tryz.zeroValue24
 t85:=Tryz.underlying358
 a85:=Tryz.isAgg358
 z85:=Tryz.sizeOf358
 v85:=Tryz.zeroValue358
 t127:=Tryz.underlying173
 a127:=Tryz.isAgg173
 z127:=Tryz.sizeOf173
 v127:=Tryz.zeroValue173
 t143:=Tryz.underlying373
 a143:=Tryz.isAgg373
 z143:=Tryz.sizeOf373
 v143:=Tryz.zeroValue373
 t145:=Tryz.underlying375
 a145:=Tryz.isAgg375
 z145:=Tryz.sizeOf375
 v145:=Tryz.zeroValue375
 t167:=Tryz.underlying363
 a167:=Tryz.isAgg363
 z167:=Tryz.sizeOf363
 v167:=Tryz.zeroValue363
 t168:=Tryz.underlying365
 a168:=Tryz.isAgg365
 z168:=Tryz.sizeOf365
 v168:=Tryz.zeroValue365
 t171:=Tryz.underlying377
 a171:=Tryz.isAgg377
 z171:=Tryz.sizeOf377
 v171:=Tryz.zeroValue377
 t173:=Tryz.underlying380
 a173:=Tryz.isAgg380
 z173:=Tryz.sizeOf380
 v173:=Tryz.zeroValue380
 t175:=Tryz.underlying355
 a175:=Tryz.isAgg355
 z175:=Tryz.sizeOf355
 v175:=Tryz.zeroValue355
 t210:=Tryz.underlying371
 a210:=Tryz.isAgg371
 z210:=Tryz.sizeOf371
 v210:=Tryz.zeroValue371
 t212:=Tryz.underlying383
 a212:=Tryz.isAgg383
 z212:=Tryz.sizeOf383
 v212:=Tryz.zeroValue383
 t213:=Tryz.underlying384
 a213:=Tryz.isAgg384
 z213:=Tryz.sizeOf384
 t232:=Tryz.underlying388
 a232:=Tryz.isAgg388
 z232:=Tryz.sizeOf388
 v232:=Tryz.zeroValue388
 t233:=Tryz.underlying389
 a233:=Tryz.isAgg389
 z233:=Tryz.sizeOf389
 v233:=Tryz.zeroValue389
 g15:=by kernel_rfl
 g16:=by kernel_rfl
 g17:=by kernel_rfl
 g18:=by kernel_rfl
 g19:=by kernel_rfl
 t80:=Tryz.underlying27
 a80:=Tryz.isAgg27
 z80:=Tryz.sizeOf27
 v80:=Tryz.zeroValue27
 i0:=by kernel_rfl
 i2:=by kernel_rfl
 i3:=by kernel_rfl
 i4:=by kernel_rfl
 i5:=by kernel_rfl
 i9:=by kernel_rfl
 i20:=by kernel_rfl
 i21:=by kernel_rfl
 i37:=by kernel_rfl
 i46:=by kernel_rfl
 i51:=by kernel_rfl
 i53:=by kernel_rfl
 i75:=by kernel_rfl
 i80:=by kernel_rfl
 i85:=by kernel_rfl
 i127:=by kernel_rfl
 i143:=by kernel_rfl
 i145:=by kernel_rfl
 i167:=by kernel_rfl
 i168:=by kernel_rfl
 i171:=by kernel_rfl
 i173:=by kernel_rfl
 i175:=by kernel_rfl
 i210:=by kernel_rfl
 i212:=by kernel_rfl
 i232:=by kernel_rfl
 i233:=by kernel_rfl
 m15:=by kernel_rfl
 m16:=by kernel_rfl
 m17:=by kernel_rfl
 m18:=by kernel_rfl
 m19:=by kernel_rfl
 c0:=by kernel_rfl
 c2:=by kernel_rfl
 c3:=by kernel_rfl
 c4:=by kernel_rfl
 c5:=by kernel_rfl
 c9:=by kernel_rfl
 c20:=by kernel_rfl
 c21:=by kernel_rfl
 c37:=by kernel_rfl
 c46:=by kernel_rfl
 c51:=by kernel_rfl
 c53:=by kernel_rfl
 c75:=by kernel_rfl
 c80:=by kernel_rfl
 c85:=by kernel_rfl
 c127:=by kernel_rfl
 c143:=by kernel_rfl
 c145:=by kernel_rfl
 c167:=by kernel_rfl
 c168:=by kernel_rfl
 c171:=by kernel_rfl
 c173:=by kernel_rfl
 c175:=by kernel_rfl
 c210:=by kernel_rfl
 c212:=by kernel_rfl
 c213:=by kernel_rfl
 c232:=by kernel_rfl
 c233:=by kernel_rfl }
open Go.RowKit in
theorem Tryz.strconv_ParseInt_10_at64_ok (s:ByteArray) (hmax:s.size≤9223372036854775806) (v:Int) (h:Lib.parseIntB 64 s.data.toList = .ok v) (w:World) :
  Calls Tryz.prog 185 #[.string s,.int .i64 10,.int .i64 64] w fun e w'=>e = .returned (.tuple #[.int .i64 v,.nilIface])∧(w'=w∨∃ t,w'=Lib.bytesWorld w 5 t):=Any.strconv_ParseInt_10_at64_ok Tryz.laysC174 s hmax v h w
open Go.RowKit in
theorem Tryz.strconv_ParseInt_10_at64_syntax (s:ByteArray) (hlim:s.size≤281474976710656) (h:Lib.parseIntB 64 s.data.toList = .«syntax») (ev:Value) (w:World) (hv:w.cell? ⟨3,0,none⟩=some ev) (hev:ev = .nilIface∨∃ te pe,ev = .iface te pe) :
  Calls Tryz.prog 185 #[.string s,.int .i64 10,.int .i64 64] w fun e w'=>∃ N,e = .returned (.tuple #[.int .i64 (0),.iface 365 (.pointer (some ⟨N,0,none⟩))])∧w.heap.size≤N∧w'.heap[N]? = some (.cells #[.string ⟨#[80,97,114,115,101,73,110,116]⟩,.string s,ev] 371 (0,0))∧Below w.heap.size w w':=Any.strconv_ParseInt_10_at64_syntax Tryz.laysC174 s hlim h ev w hv hev
open Go.RowKit in
theorem Tryz.strconv_ParseInt_10_at64_range (s:ByteArray) (hlim:s.size≤281474976710656) (h:Lib.parseIntB 64 s.data.toList = .range) (ev:Value) (w:World) (hv:w.cell? ⟨4,0,none⟩=some ev) (hev:ev = .nilIface∨∃ te pe,ev = .iface te pe) :
  Calls Tryz.prog 185 #[.string s,.int .i64 10,.int .i64 64] w fun e w'=>∃ N,e = .returned (.tuple #[.int .i64 (Lib.intSat 64 s.data.toList),.iface 365 (.pointer (some ⟨N,0,none⟩))])∧w.heap.size≤N∧w'.heap[N]? = some (.cells #[.string ⟨#[80,97,114,115,101,73,110,116]⟩,.string s,ev] 371 (0,0))∧Below w.heap.size w w':=Any.strconv_ParseInt_10_at64_range Tryz.laysC174 s hlim h ev w hv hev
def Tryz.lays219_ren:Go.Shelf.Ren:=⟨fun | 219=>187 | 217=>172 | 225=>192 | 224=>193 | 267=>194 | 266=>182 | 314=>201 | n=>n,fun | 9=>9 | 3=>3 | 4=>4 | 5=>5 | 46=>328 | 146=>368 | 51=>161 | n=>n,fun | 1=>2 | n=>n⟩
def Tryz.lays145_ren:Go.Shelf.Ren:=⟨fun | 145=>171 | 220=>181 | 219=>187 | 217=>172 | 225=>192 | 224=>193 | 267=>194 | 266=>182 | 314=>201 | n=>n,fun | 9=>9 | 4=>4 | 59=>349 | 3=>3 | 5=>5 | 46=>328 | 146=>368 | 51=>161 | n=>n,fun | 1=>2 | n=>n⟩
theorem Tryz.lays145:Go.Proofs.Lays.n145 Tryz.prog Tryz.lays145_ren:={
 mixed:=by kernel_rfl
 f145:=Tryz.func171.trans (congrArg some (by kernel_rfl))
 f217:=Tryz.func172.trans (congrArg some (by kernel_rfl))
 f219:=Tryz.func187.trans (congrArg some (by kernel_rfl))
 f220:=Tryz.func181.trans (congrArg some (by kernel_rfl))
 f224:=Tryz.func193.trans (congrArg some (by kernel_rfl))
 f225:=Tryz.func192.trans (congrArg some (by kernel_rfl))
 f266:=Tryz.func182.trans (congrArg some (by kernel_rfl))
 f267:=Tryz.func194.trans (congrArg some (by kernel_rfl))
 f314:=Tryz.func201.trans (congrArg some (by kernel_rfl))
 t3:=Tryz.underlying3
 a3:=Tryz.isAgg3
 z3:=Tryz.sizeOf3
 v3:=Tryz.zeroValue3
 t4:=Tryz.underlying4
 a4:=Tryz.isAgg4
 z4:=Tryz.sizeOf4
 v4:=Tryz.zeroValue4
 t5:=Tryz.underlying5
 a5:=Tryz.isAgg5
 z5:=Tryz.sizeOf5
 v5:=Tryz.zeroValue5
 t9:=Tryz.underlying9
 a9:=Tryz.isAgg9
 z9:=Tryz.sizeOf9
 v9:=Tryz.zeroValue9
 t46:=Tryz.underlying328
 a46:=Tryz.isAgg328
 z46:=Tryz.sizeOf328
 v46:=Tryz.zeroValue328
 t51:=Tryz.underlying161
 a51:=Tryz.isAgg161
 z51:=Tryz.sizeOf161
 v51:=Tryz.zeroValue161
 t59:=Tryz.underlying349
 a59:=Tryz.isAgg349
 z59:=Tryz.sizeOf349
 v59:=Tryz.zeroValue349
 t146:=Tryz.underlying368
 a146:=Tryz.isAgg368
 z146:=Tryz.sizeOf368
 v146:=Tryz.zeroValue368
 g1:=by kernel_rfl }
open Go.RowKit Go.Lib in
theorem Tryz.strings_Cut (s sep:ByteArray) (m:Int) (w:World) (hs:s.size < 4294967281) (hm:w.cell? ⟨2,0,none⟩=some (.int .i64 m)) :
  Calls Tryz.prog 171 #[.string s,.string sep] w fun e w'=>e = .returned (.tuple #[.string ⟨(Lib.cut s.data.toList sep.data.toList).1.toArray⟩,.string ⟨(Lib.cut s.data.toList sep.data.toList).2.1.toArray⟩,.bool (Lib.cut s.data.toList sep.data.toList).2.2])∧∃ n,w'=w.drewN n:=Any.strings_Cut Tryz.lays145 s sep m w hs hm
def Tryz.lays101_ren:Go.Shelf.Ren:=⟨fun | 101=>184 | 208=>190 | 206=>186 | n=>n,fun | 9=>9 | 4=>4 | 3=>3 | n=>n,fun | n=>n⟩
theorem Tryz.lays101:Go.Proofs.Lays.n101 Tryz.prog Tryz.lays101_ren:={
 mixed:=by kernel_rfl
 f101:=Tryz.func184.trans (congrArg some (by kernel_rfl))
 f206:=Tryz.func186.trans (congrArg some (by kernel_rfl))
 f208:=Tryz.func190.trans (congrArg some (by kernel_rfl))
 t3:=Tryz.underlying3
 a3:=Tryz.isAgg3
 z3:=Tryz.sizeOf3
 v3:=Tryz.zeroValue3
 t4:=Tryz.underlying4
 a4:=Tryz.isAgg4
 z4:=Tryz.sizeOf4
 v4:=Tryz.zeroValue4
 t9:=Tryz.underlying9
 a9:=Tryz.isAgg9
 z9:=Tryz.sizeOf9
 v9:=Tryz.zeroValue9 }
open Go.RowKit Go.Lib in
theorem Tryz.strings_TrimPrefix (s p:ByteArray) (w:World) :
  Calls Tryz.prog 184 #[.string s,.string p] w fun e w'=>e = .returned (.string ⟨(Lib.trimPrefix s.data.toList p.data.toList).toArray⟩)∧w'=w:=Any.strings_TrimPrefix Tryz.lays101 s p w
end Go.Proofs
namespace Go.Proofs.YtmbcibgknckenaaGreatDoor
namespace Mar
def isLetter (c:UInt8):Bool:=(decide (97≤c.toNat) && decide (c.toNat≤122)) || (decide (65≤c.toNat) && decide (c.toNat≤90))
def isDigit (c:UInt8):Bool:=decide (48≤c.toNat) && decide (c.toNat≤57)
def inWord (c:UInt8):Bool:=isLetter c || isDigit c || c.toNat == 95
def run:List UInt8→List UInt8
 | []=>[]
 | c :: t=>c :: t.takeWhile inWord
def keywords:List (List UInt8):=
 [[99,111,110,115,116],[116,121,112,101,100,101,102],[101,110,117,109],[115,116,114,117,99,116],[117,110,105,111,110],
  [115,119,105,116,99,104],[99,97,115,101],[100,101,102,97,117,108,116],[118,111,105,100],[105,110,116],
  [117,110,115,105,103,110,101,100],[104,121,112,101,114],[98,111,111,108],[111,112,97,113,117,101],[115,116,114,105,110,103],
  [112,114,111,103,114,97,109],[118,101,114,115,105,111,110],[84,82,85,69],[70,65,76,83,69]]
def isKeyword (l:List UInt8):Bool:=keywords.contains l
def commentLen (l:List UInt8):Nat:=
 if Lib.hasPrefix l [47,42] then (if 0≤Lib.index (l.drop 2) [42,47] then (Lib.index (l.drop 2) [42,47]).toNat + 4 else 0) else 0
def isBlank (c:UInt8):Bool:=c == 32 || c == 9 || c == 10
def gapLen:List UInt8→Nat
 | []=>0
 | c :: t=>if isBlank c then 1 else commentLen (c :: t)
def spaceF:Nat→List UInt8→Nat
 | 0,_=>0
 | f + 1,l=>if gapLen l=0 then 0 else gapLen l + spaceF f (l.drop (gapLen l))
def spaceLen (l:List UInt8):Nat:=spaceF (l.length + 1) l
theorem index_le (l sub:List UInt8) (h:sub≠[]) (h0:0≤Lib.index l sub):(Lib.index l sub).toNat + sub.length≤l.length:=by
 induction l with
 | nil=>
  cases sub with
  | nil=>exact absurd rfl h
  | cons a t=>simp [Lib.index] at h0
 | cons b l ih=>
  unfold Lib.index at h0 ⊢
  by_cases hp:sub.isPrefixOf (b :: l)=true
  ·simp only [hp,if_true,↓reduceIte]
   have:=(List.isPrefixOf_iff_prefix.1 hp).length_le
   simpa using this
  ·simp only [hp,Bool.false_eq_true,↓reduceIte] at h0 ⊢
   by_cases hn:(Lib.index l sub == -1)=true
   ·simp [hn] at h0
   ·simp only [hn,Bool.false_eq_true,↓reduceIte] at h0 ⊢
    have hge:=Lib.index_ge l sub
    have hne:Lib.index l sub≠-1:=by simpa using hn
    have:=ih (by omega)
    simp only [List.length_cons]
    omega
theorem commentLen_le (l:List UInt8):commentLen l≤l.length:=by
 unfold commentLen
 split
 ·rename_i hp
  have hp':=(List.isPrefixOf_iff_prefix.1 hp).length_le
  simp at hp'
  split
  ·rename_i h0
   have:=index_le (l.drop 2) [42,47] (by simp) h0
   simp at this
   omega
  ·omega
 ·omega
theorem gapLen_le (l:List UInt8):gapLen l≤l.length:=by
 cases l with
 | nil=>simp [gapLen]
 | cons c t=>
  by_cases hb:isBlank c=true
  ·simp [gapLen,hb]
  ·have:=commentLen_le (c :: t)
   simp only [gapLen,hb,Bool.false_eq_true,↓reduceIte]
   exact this
theorem spaceF_le (f:Nat) (l:List UInt8):spaceF f l≤l.length:=by
 induction f generalizing l with
 | zero=>simp [spaceF]
 | succ f ih=>
  unfold spaceF
  split
  ·omega
  ·have h1:=ih (l.drop (gapLen l))
   have h2:=gapLen_le l
   simp at h1
   omega
structure Word where
 kind:Nat
 text:List UInt8
 n:Int
 at':Nat
structure Fault where
 no:Nat
 at':Nat
def nameWord (l:List UInt8) (at':Nat):Except Fault Word:=
 if 16 < l.length then .error ⟨7,at'⟩ else if isKeyword l then .ok ⟨2,l,0,at'⟩ else .ok ⟨1,l,0,at'⟩
def nought (l:List UInt8):Bool:=decide (1 < l.length) && l.getD 0 0 == 48
def decimal (l:List UInt8):Option Int:=
 if nought (Lib.trimPrefix l [45]) then none else
 match Lib.parseIntB 64 l with
 | .ok v=>if -2147483648≤v∧v≤4294967295 then some v else none
 | _=>none
def hexed (c:UInt8):Option Nat:=
 if 48≤c.toNat∧c.toNat≤57 then some (c.toNat - 48)
 else if 97≤c.toNat∧c.toNat≤102 then some (c.toNat - 87)
 else if 65≤c.toNat∧c.toNat≤70 then some (c.toNat - 55)
 else none
def hexF:Nat→List UInt8→Option Nat
 | acc,[]=>some acc
 | acc,c :: t=>match hexed c with
  | some d=>hexF (acc * 16 + d) t
  | none=>none
def hexadecimal (l:List UInt8):Option Int:=
 if 8 < l.length then none else if l=[] then none else (hexF 0 l).map Int.ofNat
def number (l:List UInt8):Option Int:=if Lib.hasPrefix l [48,120] then hexadecimal (l.drop 2) else decimal l
def numberWord (l:List UInt8) (at':Nat):Except Fault Word:=
 match number l with
 | some n=>.ok ⟨3,l,n,at'⟩
 | none=>.error ⟨4,at'⟩
def isSign (c:UInt8):Bool:=[123,125,40,41,91,93,60,62,42,44,59,58,61].contains c
def first (l:List UInt8) (at':Nat):Except Fault Word:=
 match l with
 | []=>.ok ⟨0,[],0,at'⟩
 | c :: t=>
  if isLetter c then nameWord (run (c :: t)) at'
  else if isDigit c || c == 45 then numberWord (run (c :: t)) at'
  else if isSign c then .ok ⟨4,[c],0,at'⟩
  else .error ⟨2,at'⟩
theorem hexed_lt {c:UInt8} {d:Nat} (h:hexed c=some d):d < 16:=by
 unfold hexed at h
 split at h
 ·simp at h;omega
 ·split at h
  ·simp at h;omega
  ·split at h
   ·simp at h;omega
   ·cases h
end Mar
end Go.Proofs.YtmbcibgknckenaaGreatDoor
namespace Go.Proofs.YtmbcibgknckenaaGreatDoor
open Go.RowKit
theorem Q5N {a b:Bool} (h:a=b):Ending.returned (.bool a) = .returned (.bool b):=by rw [h]
theorem Q6N {k:IntKind} {a b:Int} (h:a=b):Ending.returned (.int k a) = .returned (.int k b):=by rw [h]
theorem QdQ {a b:ByteArray} (h:a=b):Ending.returned (.string a) = .returned (.string b):=by rw [h]
theorem Q7L (c:UInt8) (w:World) :
  Calls Tryz.prog 150 #[.int .u8 c.toNat] w fun e w'=>e = .returned (.bool (Mar.isLetter c))∧w'=w:=by
 go_enter Tryz.func150,Tryz.ntmps150
 go_wp2
 all_goals
  go_ret
  refine ⟨Q5N ?_,rfl⟩
  unfold Mar.isLetter
  rw [Bool.eq_iff_iff]
  simp
  try omega
theorem Q8F (c:UInt8) (w:World) :
  Calls Tryz.prog 153 #[.int .u8 c.toNat] w fun e w'=>e = .returned (.bool (Mar.isDigit c))∧w'=w:=by
 go_enter Tryz.func153,Tryz.ntmps153
 go_wp2
 all_goals
  go_ret
  refine ⟨Q5N ?_,rfl⟩
  unfold Mar.isDigit
  rw [Bool.eq_iff_iff]
  simp
  try omega
theorem QaY (s:ByteArray) (w:World) :
  Calls Tryz.prog 173 #[.string s] w fun e w'=>e = .returned (.bool (Mar.isKeyword s.data.toList))∧w'=w:=by
 rw [← ByteArray.toList_eq]
 go_enter Tryz.func173,Tryz.ntmps173
 go_wp2
 all_goals
  first
   | (exfalso;simp_all;done)
   | (go_ret;refine ⟨Q5N ?_, rfl⟩;simp only [Mar.isKeyword, Mar.keywords, List.contains_cons, *, Bool.true_or, Bool.false_or, Bool.or_true, List.contains_nil])
theorem Hid.mk {p:Prop} (h:p):Hid p:=h
theorem Q56 (s:ByteArray) (w:World) (hs:s.size≤281474976710656) :
  Calls Tryz.prog 155 #[.string s] w fun e w'=>e = .returned (.string s)∧Below w.heap.size w w':=by
 go_enter Tryz.func155,Tryz.ntmps155
 go_wp2_with (go_at_call 176;refine (Tryz.stringslite_Clone _ _ hs).mono ?_;rintro e w' ⟨rfl,hb⟩)
 go_ret
 exact ⟨rfl,hb⟩
theorem Qby (s:ByteArray) (k:Nat) (h0:1≤k) (hk:k≤s.size) (ha:∀ j (hj:j < s.size),1≤j→j < k→Mar.inWord s[j]=true)
  (he:∀ hk':k < s.size,Mar.inWord s[k]=false):Mar.run s.data.toList=s.data.toList.take k:=by
 obtain ⟨⟨l⟩⟩:=s
 replace hk:k≤l.length:=hk
 replace ha:∀ j (hj:j < l.length),1≤j→j < k→Mar.inWord l[j]=true:=ha
 replace he:∀ hk':k < l.length,Mar.inWord l[k]=false:=he
 show Mar.run l=l.take k
 cases l with
 | nil=>simp [Mar.run]
 | cons c t=>
  obtain ⟨k,rfl⟩:∃ m,k=m + 1:=⟨k - 1,by omega⟩
  simp only [Mar.run,List.take_succ_cons,List.cons.injEq,true_and]
  simp only [List.length_cons] at hk
  have hpre:∀ x∈t.take k,Mar.inWord x=true:=by
   intro x hx
   obtain ⟨j,hj,rfl⟩:=List.getElem_of_mem hx
   have hj':j < k:=by simp at hj;omega
   have:=ha (j + 1) (by simp at hj ⊢;omega) (by omega) (by omega)
   simpa using this
  conv=>lhs;rw [← List.take_append_drop k t]
  rw [List.takeWhile_append_of_pos hpre]
  have:(t.drop k).takeWhile Mar.inWord=[]:=by
   by_cases hk':k < t.length
   ·rw [List.drop_eq_getElem_cons hk']
    have:=he (by simp;omega)
    simp only [List.getElem_cons_succ] at this
    rw [List.takeWhile_cons_of_neg (by simp [this])]
   ·rw [List.drop_of_length_le (by omega)];rfl
  rw [this,List.append_nil]
theorem QaZ {c:UInt8} (h:Mar.isLetter c=true):Mar.inWord c=true:=by simp [Mar.inWord,h]
theorem Qbz {c:UInt8} (h:Mar.isDigit c=true):Mar.inWord c=true:=by simp [Mar.inWord,h]
theorem Qec {c:UInt8} (h:((c.toNat:Int) == 95)=true):Mar.inWord c=true:=by
 have:c.toNat=95:=by simp at h;omega
 simp [Mar.inWord,this]
theorem Qed {c:UInt8} (h1:¬ Mar.isLetter c=true) (h2:¬ Mar.isDigit c=true) (h3:((c.toNat:Int) == 95)=false):Mar.inWord c=false:=by
 have:¬ c.toNat=95:=by simp at h3;omega
 simp at h1 h2
 simp [Mar.inWord,h1,h2,this]
theorem Q1L (s:ByteArray) (k:Nat):s.extract 0 k=⟨(s.data.toList.take k).toArray⟩:=by
 apply ByteArray.ext
 simp only [ByteArray.data_extract]
 apply Array.ext'
 simp [Array.toList_extract,List.extract]
theorem Qj4 (s:ByteArray) (w:World) (hs:s.size≤281474976710656) (h0:0 < s.size) :
  Calls Tryz.prog 152 #[.string s] w fun e w'=>e = .returned (.string ⟨(Mar.run s.data.toList).toArray⟩)∧Below w.heap.size w w':=by
 go_enter Tryz.func152,Tryz.ntmps152
 go_wp2
 go_loop [3] (fun i=>∃ k:Nat,1≤k∧k≤s.size∧i = .int .i64 k∧∀ j (hj:j < s.size),1≤j→j < k→Mar.inWord s[j]=true) (fun i=>s.size - (intOf i).toNat)
 case atStart=>exact ⟨1,by omega,by omega,rfl,by omega⟩
 case round=>
  obtain ⟨k,hk1,hk2,rfl,hall⟩:=hrel
  have HA:Hid (∀ j (hj:j < s.size),1≤j→j < k→Mar.inWord s[j]=true):=hall
  clear hall
  have hx:(s.extract 0 k).size≤281474976710656:=by simp;omega
  by_cases hlt:k < s.size
  ·have step:Mar.inWord s[k]=true→Hid (∀ j (hj:j < s.size),1≤j→j < k + 1→Mar.inWord s[j]=true):=by
    intro hw j hj h1 h2
    by_cases e:j=k
    ·subst e;exact hw
    ·exact HA.out j hj h1 (by omega)
   have Step:=Hid.mk step
   clear step
   go_wp2_with (first
     | (go_at_call 150;refine (Q7L _ _).mono ?_;rintro e w' ⟨rfl,rfl⟩)
     | (go_at_call 153;refine (Q8F _ _).mono ?_;rintro e w' ⟨rfl,rfl⟩)
     | (go_at_call 155;refine (Q56 _ _ hx).mono ?_;rintro e w'' ⟨rfl,hb⟩))
   ·exact ⟨⟨k + 1,by omega,by omega,by go_num,(Step.out (QaZ ‹_›)).out⟩,by simp [intOf];omega⟩
   ·exact ⟨⟨k + 1,by omega,by omega,by go_num,(Step.out (Qbz ‹_›)).out⟩,by simp [intOf];omega⟩
   ·exact ⟨⟨k + 1,by omega,by omega,by go_num,(Step.out (Qec ‹_›)).out⟩,by simp [intOf];omega⟩
   ·go_ret
    refine ⟨QdQ ?_,hb⟩
    rw [Q1L,Qby s k hk1 hk2 HA.out (fun _=>Qed ‹_› ‹_› ‹_›)]
  ·go_wp2_with (go_at_call 155;refine (Q56 _ _ hx).mono ?_;rintro e w'' ⟨rfl,hb⟩)
   go_ret
   refine ⟨QdQ ?_,hb⟩
   rw [Q1L,Qby s k hk1 hk2 HA.out (fun h=>absurd h hlt)]
theorem Qk5 {l:List UInt8} (h:(!Lib.hasPrefix l [47,42])=true):Mar.commentLen l=0:=by
 simp at h;simp [Mar.commentLen,h]
theorem QbA {l p:List UInt8} (h:(!Lib.hasPrefix l p)=false):Lib.trimPrefix l p=l.drop p.length:=by
 simp at h;simp [Lib.trimPrefix,h]
theorem QhG {l:List UInt8} (h:(!Lib.hasPrefix l [47,42])=false) (h2:(!(Lib.cut (Lib.trimPrefix l [47,42]) [42,47]).snd.snd)=true):Mar.commentLen l=0:=by
 rw [QbA h] at h2
 simp at h
 unfold Lib.cut at h2
 by_cases h0:0≤Lib.index (l.drop 2) [42,47]
 ·simp [h0] at h2
 ·simp [Mar.commentLen,h,h0]
theorem Qj5 {l:List UInt8} (h:(!Lib.hasPrefix l [47,42])=false) (h2:(!(Lib.cut (Lib.trimPrefix l [47,42]) [42,47]).snd.snd)=false) :
  2 + ((Lib.cut (Lib.trimPrefix l [47,42]) [42,47]).fst.length:Int) + 2=(Mar.commentLen l:Int):=by
 rw [QbA h] at h2 ⊢
 simp at h
 unfold Lib.cut at h2 ⊢
 by_cases h0:0≤Lib.index (l.drop 2) [42,47]
 ·have:=Mar.index_le (l.drop 2) [42,47] (by simp) h0
  simp at this
  simp [Mar.commentLen,h,h0]
  omega
 ·simp [h0] at h2
theorem Qj6 (l sep:List UInt8):(Lib.cut l sep).fst.length≤l.length:=by
 unfold Lib.cut;split<;>simp;omega
theorem Q8U (l p:List UInt8):(Lib.trimPrefix l p).length≤l.length:=by
 unfold Lib.trimPrefix;split<;>simp
theorem QcX (s:ByteArray) (m:Int) (w:World) (hs:s.size < 4294967281) (hm:w.cell? ⟨2,0,none⟩=some (.int .i64 m)) :
  Calls Tryz.prog 148 #[.string s] w fun e w'=>e = .returned (.int .i64 (Mar.commentLen s.data.toList))∧∃ n,w'=w.drewN n:=by
 have hz:s.size=s.data.toList.length:=by simp
 have hc:(⟨(Lib.trimPrefix s.data.toList [47,42]).toArray⟩:ByteArray).size < 4294967281:=by
  have:=Q8U s.data.toList [47,42]
  show (Lib.trimPrefix s.data.toList [47,42]).toArray.size < _
  simp only [List.size_toArray]
  omega
 have hl:((Lib.cut (Lib.trimPrefix s.data.toList [47,42]) [42,47]).fst.length:Int)≤4294967281:=by
  have:=Q8U s.data.toList [47,42]
  have:=Qj6 (Lib.trimPrefix s.data.toList [47,42]) [42,47]
  omega
 clear hz
 go_enter Tryz.func148,Tryz.ntmps148
 go_wp2_with (first
  | (go_at_call 170;refine (Tryz.strings_CutPrefix _ _ _).mono ?_;rintro e w' ⟨rfl,rfl⟩)
  | (go_at_call 171;refine (Tryz.strings_Cut _ _ m _ hc hm).mono ?_;rintro e w' ⟨rfl,n,rfl⟩))
 ·go_ret
  exact ⟨Q6N (by rw [Qk5 ‹_›];rfl),0,rfl⟩
 ·go_ret
  exact ⟨Q6N (by rw [QhG ‹_› ‹_›];rfl),n,rfl⟩
 ·go_ret
  exact ⟨Q6N (Qj5 ‹_› ‹_›),n,rfl⟩
theorem QfQ (c:UInt8):(0≤Lib.indexByte [32,9,10] ((c.toNat:Int).toNat.toUInt8))↔Mar.isBlank c=true:=by
 have:((c.toNat:Int).toNat.toUInt8)=c:=by simp
 rw [this]
 unfold Mar.isBlank
 simp only [Lib.indexByte]
 by_cases h1:c=32
 ·subst h1;decide
 ·by_cases h2:c=9
  ·subst h2;decide
  ·by_cases h3:c=10
   ·subst h3;decide
   ·have e1:((32:UInt8) == c)=false:=by simp;exact fun e=>h1 e.symm
    have e2:((9:UInt8) == c)=false:=by simp;exact fun e=>h2 e.symm
    have e3:((10:UInt8) == c)=false:=by simp;exact fun e=>h3 e.symm
    simp [e1,e2,e3,h1,h2,h3]
theorem Q7a (c:UInt8):(0≤Lib.indexByte [32,9,10] c)↔Mar.isBlank c=true:=by
 have:=QfQ c
 have e:((c.toNat:Int).toNat.toUInt8)=c:=by simp
 rwa [e] at this
theorem Q5O (s:ByteArray) (k:Nat):(s.extract k s.size).data.toList=s.data.toList.drop k:=by
 have hz:s.size=s.data.toList.length:=by simp
 simp only [ByteArray.data_extract,Array.toList_extract,List.extract]
 rw [List.take_of_length_le (by simp)]
theorem QfR {l:List UInt8} {k:Nat} (h:k < l.length) (hb:Mar.isBlank l[k]=true):Mar.gapLen (l.drop k)=1:=by
 rw [List.drop_eq_getElem_cons h];simp [Mar.gapLen,hb]
theorem QaB {l:List UInt8} {k:Nat} (h:k < l.length) (hb:¬ Mar.isBlank l[k]=true):Mar.gapLen (l.drop k)=Mar.commentLen (l.drop k):=by
 rw [List.drop_eq_getElem_cons h];simp [Mar.gapLen,hb]
theorem Qee {l:List UInt8} {k f:Nat} (hf:(l.drop k).length < f) (h:Mar.gapLen (l.drop k)=0):Mar.spaceF f (l.drop k)=0:=by
 cases f with
 | zero=>rfl
 | succ f=>simp [Mar.spaceF,h]
theorem Qef {l:List UInt8} {k f g:Nat} (hf:(l.drop k).length < f) (h:Mar.gapLen (l.drop k)=g) (hg:g≠0) :
  ∃ f',(l.drop (k + g)).length < f'∧Mar.spaceF f (l.drop k)=g + Mar.spaceF f' (l.drop (k + g)):=by
 cases f with
 | zero=>omega
 | succ f=>
  have hl:=Mar.gapLen_le (l.drop k)
  rw [h] at hl
  refine ⟨f,?_,?_⟩
  ·simp at hf hl ⊢;omega
  ·simp [Mar.spaceF,h,hg,List.drop_drop]
theorem QfS (s:ByteArray) (m:Int) (w:World) (hs:s.size < 4294967281) (hm:w.cell? ⟨2,0,none⟩=some (.int .i64 m)) :
  Calls Tryz.prog 116 #[.string s] w fun e w'=>e = .returned (.int .i64 (Mar.spaceLen s.data.toList))∧∃ n,w'=w.drewN n:=by
 have HZ:Hid (s.size=s.data.toList.length):=by simp [Hid]
 go_enter Tryz.func116,Tryz.ntmps116
 go_wp2
 go_loopw [3] (fun i w'=>∃ k f n:Nat,k≤s.size∧i = .int .i64 k∧w'=w.drewN n∧(s.data.toList.drop k).length < f∧Mar.spaceLen s.data.toList=k + Mar.spaceF f (s.data.toList.drop k)) (fun i _=>s.size - (intOf i).toNat)
 case atStart=>exact ⟨0,s.data.toList.length + 1,0,by omega,rfl,rfl,by simp,by simp [Mar.spaceLen]⟩
 case round=>
  obtain ⟨k,f,n,hk,rfl,rfl,hf,hsp⟩:=hrel
  have HF:Hid ((s.data.toList.drop k).length < f):=hf
  have HS:Hid (Mar.spaceLen s.data.toList=k + Mar.spaceF f (s.data.toList.drop k)):=hsp
  clear hf hsp
  by_cases hlt:k < s.size
  ·have hkl:k < s.data.toList.length:=by rw [← HZ.out];exact hlt
   have hc:=QcX (s.extract k s.size) m (w.drewN n) (by simp;omega) (by simpa using hm)
   rw [Q5O] at hc
   have hle:=Mar.commentLen_le (s.data.toList.drop k)
   simp only [List.length_drop] at hle
   rw [← HZ.out] at hle
   obtain ⟨cm,Hcm⟩:∃ cm,Hid (Mar.commentLen (s.data.toList.drop k)=cm):=⟨_,rfl⟩
   rw [Hcm.out] at hc hle
   have HC:=Hid.mk hc
   have HK:=Hid.mk hkl
   clear hc hkl
   have fin:∀ g:Nat,Mar.gapLen (s.data.toList.drop k)=g→g≠0→Hid (∃ f',(s.data.toList.drop (k + g)).length < f'∧Mar.spaceLen s.data.toList=(k + g:Nat) + Mar.spaceF f' (s.data.toList.drop (k + g))):=by
    intro g hg h0
    obtain ⟨f',h1,h2⟩:=Qef HF.out hg h0
    exact ⟨f',h1,by rw [HS.out,h2];omega⟩
   have Fin:=Hid.mk fin
   clear fin
   have idx:s[k]=s.data.toList[k]'(HK.out):=by simp;rfl
   have Idx:=Hid.mk idx
   clear idx
   go_wp2_with (first
    | (go_at_call 148;refine HC.out.mono ?_;rintro e w' ⟨rfl,n2,rfl⟩)
    | (go_at_call 149;refine (Tryz.strings_IndexByte _ _ _).mono ?_;rintro e w' ⟨rfl,rfl⟩))
   ·obtain ⟨f',h1,h2⟩:=(Fin.out 1 (QfR HK.out (by rw [← Idx.out];exact (Q7a _).1 ‹_›)) (by omega)).out
    exact ⟨⟨k + 1,f',n + n2,by omega,by go_num,rfl,h1,h2⟩,by simp [intOf];omega⟩
   ·go_ret
    have h0:cm=0:=by have:=beq_iff_eq.1 (‹((cm:Int) == 0)=true›);omega
    have hb:¬ Mar.isBlank s[k]=true:=fun hb=>by have:=(Q7a _).2 hb;omega
    refine ⟨Q6N ?_,n + n2,rfl⟩
    rw [HS.out,Qee HF.out (by rw [QaB HK.out (by rw [← Idx.out];exact hb),Hcm.out,h0])]
    rfl
   ·have h0:cm≠0:=by have:=beq_eq_false_iff_ne.1 (‹((cm:Int) == 0)=false›);omega
    have hb:¬ Mar.isBlank s[k]=true:=fun hb=>by have:=(Q7a _).2 hb;omega
    obtain ⟨f',h1,h2⟩:=(Fin.out cm (by rw [QaB HK.out (by rw [← Idx.out];exact hb),Hcm.out]) h0).out
    exact ⟨⟨k + cm,f',n + n2,by omega,by go_num,rfl,h1,h2⟩,by simp [intOf];omega⟩
  ·go_wp2
   go_ret
   refine ⟨Q6N ?_,n,rfl⟩
   have:s.data.toList.drop k=[]:=List.drop_of_length_le (by rw [← HZ.out];omega)
   rw [HS.out,this]
   have:∀ f,Mar.spaceF f []=0:=by intro f;cases f<;>simp [Mar.spaceF,Mar.gapLen]
   simp [this]
def Q0c (w:World) (no at':Int) (e:Ending) (w':World):Prop:=
 ∃ b,w.heap.size≤b∧e = .panicked [{ v:=.iface 79 (.pointer (some ⟨b,0,none⟩)),recovered:=false }] ∧
  w'.heap[b]? = some (.cells #[.int .i64 no,.int .i64 at'] 83)
theorem Q0c.new (w:World) (no at':Int):Q0c w no at' (.panicked [{ v:=.iface 79 (.pointer (some ⟨w.heap.size,0,none⟩)),recovered:=false }]) (w.alloc (.cells #[.int .i64 no,.int .i64 at'] 83)):=
 ⟨_,Nat.le_refl _,rfl,by show (w.heap.push _)[w.heap.size]? = _;simp⟩
theorem Qg {w:World} {o:Obj} {n:Nat} (h:n=w.heap.size):(w.alloc o).heap[n]? = some o:=by
 subst h;show (w.heap.push _)[w.heap.size]? = _;simp
theorem Qa {P:Program} {fn:Func} {R:Ending→World→Prop} {t:Array Value} {w:World} {chain:List PanicEntry}
  (h:R (.panicked chain) w):bodyPost P fn R (.panic chain) { tmps:=t,defers:=[] } w:=⟨rfl,h⟩
theorem QY (no at':Int) (w:World) :
  Calls Tryz.prog 47 #[.int .i64 no,.int .i64 at'] w fun e w'=>
   e = .returned (.pointer (some ⟨w.heap.size,0,none⟩))∧w'=w.alloc (.cells #[.int .i64 no,.int .i64 at'] 83):=by
 go_enter Tryz.func47,Tryz.ntmps47
 go_wp2
 go_ret
 exact ⟨rfl,rfl⟩
theorem Q3p (have' most at':Int) (w:World) (h:most≤have') :
  Calls Tryz.prog 135 #[.int .i64 have',.int .i64 most,.int .i64 at'] w fun e w'=>Q0c w 5 at' e w'∧Below w.heap.size w w':=by
 go_enter Tryz.func135,Tryz.ntmps135
 go_wp2_with (go_at_call 47;refine (QY _ _ _).mono ?_;rintro e w' ⟨rfl,rfl⟩)
 exact Qa ⟨Q0c.new _ _ _,(Below.refl _ _).alloc (Nat.le_refl _) _⟩
theorem Q4L (have' most at':Int) (w:World) (h:¬ most≤have') :
  Calls Tryz.prog 135 #[.int .i64 have',.int .i64 most,.int .i64 at'] w fun e w'=>e = .returned (.tuple #[])∧w'=w:=by
 go_enter Tryz.func135,Tryz.ntmps135
 go_wp2
 go_end0
 exact ⟨rfl,rfl⟩
abbrev QZ (x:Mar.Word):Value:=.agg #[.int .i64 x.kind,.string ⟨x.text.toArray⟩,.int .i64 x.n,.int .i64 x.at']
def Q0W (w:World) (r:Except Mar.Fault Mar.Word) (e:Ending) (w':World):Prop:=
 match r with
 | .ok x=>e = .returned (QZ x)
 | .error f=>Q0c w f.no f.at' e w'
theorem Q8g (s:ByteArray):(⟨s.data.toList.toArray⟩:ByteArray)=s:=by
 obtain ⟨⟨l⟩⟩:=s;rfl
theorem Q0W.ok {w:World} {x:Mar.Word} {v:Value} {w':World} (h:v=QZ x):Q0W w (.ok x) (.returned v) w':=by
 show Ending.returned v=_;rw [h]
theorem QhH (s:ByteArray) (at':Nat) (w:World) (hs:s.size≤281474976710656) :
  Calls Tryz.prog 151 #[.string s,.int .i64 at'] w fun e w'=>Q0W w (Mar.nameWord s.data.toList at') e w'∧Below w.heap.size w w':=by
 have HZ:Hid (s.size=s.data.toList.length):=by simp [Hid]
 by_cases h16:16 < s.size
 ·go_enter Tryz.func151,Tryz.ntmps151
  go_wp2_with (go_at_call 47;refine (QY _ _ _).mono ?_;rintro e w' ⟨rfl,rfl⟩)
  refine Qa ⟨?_,((Below.refl _ _).alloc (Nat.le_refl _) _).alloc (by simp) _⟩
  have:Mar.nameWord s.data.toList at' = .error ⟨7,at'⟩:=by rw [Mar.nameWord,if_pos (by rw [← HZ.out];exact h16)]
  rw [this]
  exact ⟨_,by omega,rfl,Qg (by simp)⟩
 ·go_enter Tryz.func151,Tryz.ntmps151
  go_wp2_with (go_at_call 173;refine (QaY _ _).mono ?_;rintro e w' ⟨rfl,rfl⟩)
  ·have h:Mar.isKeyword s.data.toList=true:=‹_›
   have e1:Mar.nameWord s.data.toList at' = .ok ⟨2,s.data.toList,0,at'⟩:=by rw [Mar.nameWord,if_neg (by rw [← HZ.out];exact h16),if_pos h]
   refine bodyPost_ret (v:=.agg #[.int .i64 2,.string s,.int .i64 0,.int .i64 at']) (by simp [results,Tryz.results151,go_sem]) rfl ⟨?_,(Below.refl _ _).alloc (Nat.le_refl _) _⟩
   rw [e1]
   exact Q0W.ok (by simp only [QZ,Q8g];rfl)
  ·have h:Mar.isKeyword s.data.toList=false:=‹_›
   have e1:Mar.nameWord s.data.toList at' = .ok ⟨1,s.data.toList,0,at'⟩:=by rw [Mar.nameWord,if_neg (by rw [← HZ.out];exact h16),if_neg (by simp [h])]
   refine bodyPost_ret (v:=.agg #[.int .i64 1,.string s,.int .i64 0,.int .i64 at']) (by simp [results,Tryz.results151,go_sem]) rfl ⟨?_,(Below.refl _ _).alloc (Nat.le_refl _) _⟩
   rw [e1]
   exact Q0W.ok (by simp only [QZ,Q8g];rfl)
structure Gl (w:World):Prop where
 len:∃ m,w.cell? ⟨2,0,none⟩=some (.int .i64 m)
 syn:∃ te pe,w.cell? ⟨3,0,none⟩=some (.iface te pe)
 rng:∃ te pe,w.cell? ⟨4,0,none⟩=some (.iface te pe)
theorem Q1g {w:World} {b o:Nat} {v:Value} (h:w.cell? ⟨b,o,none⟩=some v):b < w.heap.size:=by
 unfold World.cell? at h
 by_cases hb:b < w.heap.size
 ·exact hb
 ·simp [Array.getElem?_eq_none (Nat.le_of_not_lt hb)] at h
theorem Q3D {B:Nat} {w w':World} {b o:Nat} {v:Value} (hb:Below B w w') (hB:B=w.heap.size) (h:w.cell? ⟨b,o,none⟩=some v):w'.cell? ⟨b,o,none⟩=some v:=by
 rw [hb.cell (p:=⟨b,o,none⟩) (by rw [hB];exact Q1g h)];exact h
theorem Gl.below {w w':World} (h:Gl w) (hb:Below w.heap.size w w'):Gl w':=by
 obtain ⟨⟨m,h1⟩,⟨a,b,h2⟩,⟨c,d,h3⟩⟩:=h
 exact ⟨⟨m,Q3D hb rfl h1⟩,⟨a,b,Q3D hb rfl h2⟩,⟨c,d,Q3D hb rfl h3⟩⟩
theorem QbB (s:ByteArray) (w:World) (hg:Gl w) (hs:s.size≤281474976710656) :
  Calls Tryz.prog 185 #[.string s,.int .i64 10,.int .i64 64] w fun e w'=>
   Below w.heap.size w w'∧((∃ v,Lib.parseIntB 64 s.data.toList = .ok v∧e = .returned (.tuple #[.int .i64 v,.nilIface])) ∨
    ((∀ v,Lib.parseIntB 64 s.data.toList≠.ok v)∧∃ (v:Int) (t:TypeId) (p:Value),e = .returned (.tuple #[.int .i64 v,.iface t p]))):=by
 obtain ⟨_,⟨te,pe,h2⟩,⟨tr,pr,h3⟩⟩:=hg
 cases h:Lib.parseIntB 64 s.data.toList with
 | ok v=>
  refine (Tryz.strconv_ParseInt_10_at64_ok s (by omega) v h w).mono ?_
  rintro e w' ⟨rfl,hw⟩
  refine ⟨?_,Or.inl ⟨v,rfl,rfl⟩⟩
  rcases hw with rfl | ⟨t,rfl⟩
  ·exact Below.refl _ _
  ·exact Lib.bytesWorld_below _ _ _
 | «syntax»=>
  refine (Tryz.strconv_ParseInt_10_at64_syntax s hs h _ w h2 (Or.inr ⟨_,_,rfl⟩)).mono ?_
  rintro e w' ⟨N,rfl,_,_,hb⟩
  exact ⟨hb,Or.inr ⟨by simp,_,_,_,rfl⟩⟩
 | range=>
  refine (Tryz.strconv_ParseInt_10_at64_range s hs h _ w h3 (Or.inr ⟨_,_,rfl⟩)).mono ?_
  rintro e w' ⟨N,rfl,_,_,hb⟩
  exact ⟨hb,Or.inr ⟨by simp,_,_,_,rfl⟩⟩
theorem QdR (l:List UInt8) (h:0 < (⟨l.toArray⟩:ByteArray).size):(⟨l.toArray⟩:ByteArray)[0]'h=l.getD 0 0:=by
 cases l with
 | nil=>exact absurd h (by decide)
 | cons c t=>rfl
theorem Qeg {l:List UInt8} (h:1 < (l.length:Int)) (h0:0 < (⟨l.toArray⟩:ByteArray).size) (h2:((((⟨l.toArray⟩:ByteArray)[0]'h0).toNat:Int) == 48)=true):Mar.nought l=true:=by
 rw [QdR] at h2
 have:(l.getD 0 0)=48:=by
  have:=beq_iff_eq.1 h2
  apply UInt8.toNat_inj.1
  simp at this ⊢;omega
 unfold Mar.nought
 rw [this]
 simp;omega
theorem Q7M {l:List UInt8} (h:1 < (l.length:Int)) (h0:0 < (⟨l.toArray⟩:ByteArray).size) (h2:((((⟨l.toArray⟩:ByteArray)[0]'h0).toNat:Int) == 48)=false):Mar.nought l=false:=by
 rw [QdR] at h2
 have:(l.getD 0 0 == 48)=false:=by
  rw [beq_eq_false_iff_ne] at h2 ⊢
  intro e
  rw [e] at h2
  exact h2 rfl
 unfold Mar.nought
 rw [this]
 simp
theorem Q5P {l:List UInt8} (h:(l.length:Int)≤1):Mar.nought l=false:=by
 unfold Mar.nought
 rw [decide_eq_false (by omega)]
 rfl
theorem Qeh {l:List UInt8} (h:Mar.nought (Lib.trimPrefix l [45])=true):Mar.decimal l=none:=by rw [Mar.decimal,if_pos h]
theorem Q9u {l:List UInt8} {v:Int} (h:Mar.nought (Lib.trimPrefix l [45])=false) (hv:Lib.parseIntB 64 l = .ok v) :
  Mar.decimal l=if -2147483648≤v∧v≤4294967295 then some v else none:=by rw [Mar.decimal,if_neg (by simp [h]),hv]
theorem QdS {l:List UInt8} (h:Mar.nought (Lib.trimPrefix l [45])=false) (hv:∀ v,Lib.parseIntB 64 l≠.ok v):Mar.decimal l=none:=by
 rw [Mar.decimal,if_neg (by simp [h])]
 cases e:Lib.parseIntB 64 l with
 | ok v=>exact absurd e (hv v)
 | «syntax»=>rfl
 | range=>rfl
theorem Q8h {l:List UInt8} {v:Int} {b:Bool} (h:Mar.decimal l=if -2147483648≤v∧v≤4294967295 then some v else none)
  (hb:b=decide (-2147483648≤v∧v≤4294967295)) :
  ∃ n:Int,Ending.returned (.tuple #[.int .i64 v,.bool b]) = .returned (.tuple #[.int .i64 n,.bool (Mar.decimal l).isSome])∧∀ u,Mar.decimal l=some u→n=u:=by
 subst hb
 by_cases hc:-2147483648≤v∧v≤4294967295
 ·rw [if_pos hc] at h
  refine ⟨v,by rw [h,decide_eq_true hc];rfl,?_⟩
  rw [h];intro u hu;exact Option.some.inj hu
 ·rw [if_neg hc] at h
  refine ⟨v,by rw [h,decide_eq_false hc];rfl,?_⟩
  rw [h];intro u hu;cases hu
theorem QcY (s:ByteArray) (w:World) (hg:Gl w) (hs:s.size≤281474976710656) :
  Calls Tryz.prog 175 #[.string s] w fun e w'=>
   (∃ n:Int,e = .returned (.tuple #[.int .i64 n,.bool (Mar.decimal s.data.toList).isSome])∧∀ v,Mar.decimal s.data.toList=some v→n=v)∧Below w.heap.size w w':=by
 have hP:=Hid.mk (QbB s w hg hs)
 go_enter Tryz.func175,Tryz.ntmps175
 go_wp2_with (first
  | (go_at_call 184;refine (Tryz.strings_TrimPrefix _ _ _).mono ?_;rintro e w' ⟨rfl,rfl⟩)
  | (go_at_call 185;refine hP.out.mono ?_;rintro e w' ⟨hb,⟨v,hv,rfl⟩ | ⟨hv,v,t,p,rfl⟩⟩))
 ·go_ret2
  have e1:=Qeh (Qeg ‹_› _ ‹_›)
  refine ⟨⟨0,?_,?_⟩,Below.refl _ _⟩
  ·rw [e1];rfl
  ·rw [e1];intro v h;cases h
 ·go_ret2
  have e1:=Q9u (Q7M ‹_› _ ‹_›) hv
  exact ⟨Q8h e1 (by rename_i h;simp [h]),hb⟩
 ·go_ret2
  have e1:=Q9u (Q7M ‹_› _ ‹_›) hv
  exact ⟨Q8h e1 (by simp;omega),hb⟩
 ·go_ret2
  have e1:=QdS (Q7M ‹_› _ ‹_›) hv
  refine ⟨⟨v,?_,?_⟩,hb⟩
  ·rw [e1];rfl
  ·rw [e1];intro v h;cases h
 ·go_ret2
  have e1:=Q9u (Q5P ‹_›) hv
  exact ⟨Q8h e1 (by rename_i h;simp [h]),hb⟩
 ·go_ret2
  have e1:=Q9u (Q5P ‹_›) hv
  exact ⟨Q8h e1 (by simp;omega),hb⟩
 ·go_ret2
  have e1:=QdS (Q5P ‹_›) hv
  refine ⟨⟨v,?_,?_⟩,hb⟩
  ·rw [e1];rfl
  ·rw [e1];intro v h;cases h
def Q8V:Option Nat→Value
 | some v=>.tuple #[.int .u64 v,.nilIface]
 | none=>.tuple #[.int .u64 0,.iface 363 (.int .i64 2)]
theorem Qk6:∀ k:Nat,k < 8→16 ^ (k + 1)≤4294967296
 | 0,_ | 1,_ | 2,_ | 3,_ | 4,_ | 5,_ | 6,_ | 7,_=>by decide
 | k + 8,h=>by omega
theorem QhI (c:UInt8) :
  (∀ d,Mar.hexed c=some d→¬ (48≤c.toNat∧c.toNat≤57)→97≤bits .or .u8 (c.toNat:Int) 32∧bits .or .u8 (c.toNat:Int) 32≤102∧bits .or .u8 (c.toNat:Int) 32=(d:Int) + 87) ∧
  (Mar.hexed c=none→¬ (48≤c.toNat∧c.toNat≤57)→bits .or .u8 (c.toNat:Int) 32 < 97∨102 < bits .or .u8 (c.toNat:Int) 32):=by
 have key:∀ n:Fin 256,bits .or .u8 ((n.val:Nat):Int) 32=((n.val ||| 32:Nat):Int):=by decide +kernel
 have key2:∀ n:Fin 256,¬ (48≤n.val∧n.val≤57)→(97≤n.val∧n.val≤102→(n.val ||| 32)=n.val)∧(65≤n.val∧n.val≤70→(n.val ||| 32)=n.val + 32) ∧
  (¬ (97≤n.val∧n.val≤102)→¬ (65≤n.val∧n.val≤70)→(n.val ||| 32) < 97∨102 < (n.val ||| 32)):=by decide +kernel
 have hc:=c.toNat_lt
 have k1:=key ⟨c.toNat,hc⟩
 simp only at k1
 rw [k1]
 refine ⟨?_,?_⟩
 ·intro d hd hn
  obtain ⟨h1,h2,_⟩:=key2 ⟨c.toNat,hc⟩ hn
  simp only at h1 h2
  unfold Mar.hexed at hd
  rw [if_neg hn] at hd
  split at hd
  ·rename_i h;have:=h1 h;simp at hd;omega
  ·split at hd
   ·rename_i h;have:=h2 h;simp at hd;omega
   ·cases hd
 ·intro hd hn
  obtain ⟨_,_,h3⟩:=key2 ⟨c.toNat,hc⟩ hn
  simp only at h3
  unfold Mar.hexed at hd
  rw [if_neg hn] at hd
  split at hd
  ·cases hd
  ·split at hd
   ·cases hd
   ·rename_i ha hb;have:=h3 ha hb;omega
theorem Q9v (t:ByteArray) (hne:t.size≠0) (hmax:t.size≤8) (w:World) :
  Calls Tryz.prog 188 #[.string t,.int .i64 16,.int .i64 32] w fun e w'=>e = .returned (Q8V (Mar.hexF 0 t.data.toList))∧w'=Lib.bytesWorld w 5 t:=by
 have hemp:t.toList.isEmpty=false:=by
  rw [← decide_eq_emptyBytes]
  exact decide_eq_false (fun h=>hne (by rw [h];rfl))
 have hcv:=Lib.run_convert_string_bytes (P:=Tryz.prog) w 9 90 5 t (u:=.string) (by kernel_rfl) (by kernel_rfl) (by kernel_rfl)
 have hB:∀ j,j < t.size→(Lib.bytesWorld w 5 t).cell? ⟨w.heap.size,j,none⟩=some (.int .u8 (t.data.toList.getD j 0).toNat):=fun j hj=>Lib.bytesWorld_cell w 5 t j hj
 obtain ⟨W1,hW1⟩:∃ W1,W1=Lib.bytesWorld w 5 t:=⟨_,rfl⟩
 rw [← hW1] at hcv hB ⊢
 clear hW1
 obtain ⟨bs,hL⟩:∃ bs,bs=t.data.toList:=⟨_,rfl⟩
 have hLn:bs.length=t.size:=by rw [hL,Lib.size_eq]
 rw [← hL] at hB ⊢
 clear hL
 go_enter Tryz.func188,Tryz.ntmps188
 go_wp2
 go_loop [12,13,101] (fun vu vn vi=>∃ (k acc:Nat) (a:Int),vu = .bool false∧vn = .int .u64 a∧vi = .int .i64 k∧k≤t.size∧Hid (a=(acc:Int)∧acc < 16 ^ k∧Mar.hexF 0 bs=Mar.hexF acc (bs.drop k)))
  (fun _ _ vi=>t.size - (intOf vi).toNat)
 case atStart=>exact ⟨0,0,0,rfl,rfl,rfl,by omega,rfl,by omega,rfl⟩
 case round=>
  obtain ⟨k,acc,a,rfl,rfl,rfl,hk,hh⟩:=hrel
  obtain ⟨ha,hacc,hdec⟩:=hh.out
  clear hh
  by_cases hkn:k < t.size
  ·have hp:16 ^ (k + 1)≤4294967296:=Qk6 k (by omega)
   have hp':16 ^ (k + 1)=16 ^ k * 16:=rfl
   have a0:0≤a:=by omega
   have a1:a * 16 + 15 < 4294967296:=by omega
   have HP:=Hid.mk (And.intro hp hp')
   clear hp hp'
   have hc:=hB k hkn
   have hdrop:bs.drop k=bs[k]'(by omega) :: bs.drop (k + 1):=List.drop_eq_getElem_cons (by omega)
   have hget:bs.getD k 0=bs[k]'(by omega):=by simp [List.getD,List.getElem?_eq_getElem (show k < bs.length by omega)]
   rw [hdrop] at hdec
   rw [hget] at hc
   generalize bs[k]'(by omega)=c at hc hdec
   have hc256:c.toNat < 256:=c.toNat_lt
   clear hB hdrop hget
   by_cases hdig:48≤c.toNat∧c.toNat≤57
   ·obtain ⟨hd0,hd1⟩:=hdig
    have hF:Mar.hexF acc (c :: bs.drop (k + 1))=Mar.hexF (acc * 16 + (c.toNat - 48)) (bs.drop (k + 1)):=by simp [Mar.hexF,Mar.hexed,hd0,hd1]
    have HN:Hid (a * 16 + ((c.toNat:Int) - 48)=((acc * 16 + (c.toNat - 48):Nat):Int)∧acc * 16 + (c.toNat - 48) < 16 ^ (k + 1)∧Mar.hexF 0 bs=Mar.hexF (acc * 16 + (c.toNat - 48)) (bs.drop (k + 1))):=
     Lib.hid ⟨by omega,by have:=HP.out.2;omega,hdec.trans hF⟩
    clear hF hdec ha hacc
    go_wp2
    exact ⟨⟨k + 1,_,a * 16 + ((c.toNat:Int) - 48),rfl,rfl,by go_num,by omega,HN⟩,by simp [intOf];omega⟩
   ·obtain ⟨v,hv⟩:∃ v,bits .or .u8 (c.toNat:Int) 32=v:=⟨_,rfl⟩
    have hv3:=QhI c
    have hnd:(c.toNat:Int) < 48∨57 < (c.toNat:Int):=by omega
    rw [hv] at hv3
    have HV:=Hid.mk hv
    cases hx:Mar.hexed c with
    | some d=>
     have hd:=Mar.hexed_lt hx
     have h95:((c.toNat:Int) == 95)=false:=by
      rw [beq_eq_false_iff_ne]
      intro e
      have e':c=95:=UInt8.toNat_inj.1 (by show c.toNat=95;omega)
      subst e'
      have hn:Mar.hexed 95=none:=by decide
      rw [hn] at hx
      cases hx
     obtain ⟨hv4,hv5,hv6⟩:=hv3.1 d hx hdig
     have hF:Mar.hexF acc (c :: bs.drop (k + 1))=Mar.hexF (acc * 16 + d) (bs.drop (k + 1)):=by simp [Mar.hexF,hx]
     have HN:Hid (a * 16 + (v - 97 + 10)=((acc * 16 + d:Nat):Int)∧acc * 16 + d < 16 ^ (k + 1)∧Mar.hexF 0 bs=Mar.hexF (acc * 16 + d) (bs.drop (k + 1))):=
      Lib.hid ⟨by omega,by have:=HP.out.2;omega,hdec.trans hF⟩
     clear hF hdec ha hacc hx hv3 hv6 hdig
     rcases hnd with hnd | hnd
     all_goals
      go_wp2_with (go_at_call 195;refine (Tryz.internal_strconv_lower _ _).mono ?_;rintro e w' ⟨rfl,rfl⟩)
      exact ⟨⟨k + 1,_,a * 16 + (v - 97 + 10),rfl,rfl,by go_num,by omega,HN⟩,by simp [intOf];omega⟩
    | none=>
     have hv4:=hv3.2 hx hdig
     have hF:Mar.hexF acc (c :: bs.drop (k + 1))=none:=by simp [Mar.hexF,hx]
     rw [hF] at hdec
     have hv0:=bits_lo_u8 .or (c.toNat:Int) 32
     have hv1:=bits_hi_u8 .or (c.toNat:Int) 32
     rw [hv] at hv0 hv1
     have HD:=Hid.mk hdec
     clear hF hdec ha hacc hx hv3 hdig
     rcases hnd with hnd | hnd
     all_goals rcases hv4 with hv4 | hv4
     all_goals
      go_wp2_with (go_at_call 195;refine (Tryz.internal_strconv_lower _ _).mono ?_;rintro e w' ⟨rfl,rfl⟩)
     all_goals go_ret2
     all_goals exact ⟨by rw [HD.out];rfl,rfl⟩
  ·have hkk:k=t.size:=by omega
   subst hkk
   have hF:Mar.hexF acc (bs.drop t.size)=some acc:=by rw [List.drop_eq_nil_of_le (by omega)];rfl
   rw [hF] at hdec
   have HD:=Hid.mk hdec
   subst ha
   clear hacc hF hdec
   go_wp2
   go_ret2
   exact ⟨by rw [HD.out];rfl,rfl⟩
theorem QdT:∀ (l:List UInt8) (acc v:Nat),Mar.hexF acc l=some v→v < (acc + 1) * 16 ^ l.length
 | [],acc,v,h=>by simp [Mar.hexF] at h;simp;omega
 | c :: t,acc,v,h=>by
  unfold Mar.hexF at h
  cases hx:Mar.hexed c with
  | none=>rw [hx] at h;cases h
  | some d=>
   rw [hx] at h
   have hd:=Mar.hexed_lt hx
   have:=QdT t _ _ h
   have e:(acc * 16 + d + 1) * 16 ^ t.length≤(acc + 1) * 16 * 16 ^ t.length:=Nat.mul_le_mul_right _ (by omega)
   have e2:(acc + 1) * 16 ^ (t.length + 1)=(acc + 1) * 16 * 16 ^ t.length:=by rw [Nat.pow_succ,Nat.mul_assoc,Nat.mul_comm 16]
   simp only [List.length_cons]
   omega
theorem Qei {l:List UInt8} {v:Nat} (h:Mar.hexF 0 l=some v) (h8:l.length≤8):v < 4294967296:=by
 have h1:=QdT l 0 v h
 have h2:16 ^ l.length≤16 ^ 8:=Nat.pow_le_pow_right (by omega) h8
 omega
theorem Qb0 (s:ByteArray) (w:World) (hg:Gl w) (h8:s.size≤8) :
  Calls Tryz.prog 183 #[.string s,.int .i64 16,.int .i64 32] w fun e w'=>
   Below w.heap.size w w'∧((∃ v:Nat,s.size≠0∧Mar.hexF 0 s.data.toList=some v∧v < 4294967296∧e = .returned (.tuple #[.int .u64 v,.nilIface])) ∨
    ((s.size=0∨Mar.hexF 0 s.data.toList=none)∧∃ (t:TypeId) (p:Value),e = .returned (.tuple #[.int .u64 0,.iface t p]))):=by
 obtain ⟨_,⟨te,pe,hsyn⟩,_⟩:=hg
 by_cases h0:s.size=0
 ·have:s=⟨#[]⟩:=by
   obtain ⟨⟨l⟩⟩:=s
   have:l=[]:=List.eq_nil_of_length_eq_zero h0
   subst this;rfl
  subst this
  go_enter Tryz.func183,Tryz.ntmps183
  go_wp2_with (first
   | (go_at_call 188;refine (Tryz.internal_strconv_ParseUint_empty _ _ _).mono ?_;rintro e w' ⟨rfl,rfl⟩)
   | (go_at_call 189;refine (Tryz.strconv_toError_syntax _ _ _ _ _ _ (by decide) hsyn (Or.inr ⟨_,_,rfl⟩)).mono ?_;rintro e w' ⟨N,rfl,_,_,hb⟩))
  go_ret2
  exact ⟨hb,Or.inr ⟨Or.inl rfl,_,_,rfl⟩⟩
 ·have hP:=Q9v s h0 h8 w
  have hbw:=Lib.bytesWorld_below w 5 s
  have hsyn':=Q3D hbw rfl hsyn
  obtain ⟨W1,hW1⟩:∃ W1,W1=Lib.bytesWorld w 5 s:=⟨_,rfl⟩
  rw [← hW1] at hP hbw hsyn'
  clear hW1
  have HB:=Hid.mk hbw
  clear hbw
  cases hx:Mar.hexF 0 s.data.toList with
  | some v=>
   rw [hx] at hP
   simp only [Q8V] at hP
   have hlt:=Qei hx (by rw [← Lib.size_eq];exact h8)
   have HP:=Hid.mk hP
   clear hP hx
   go_enter Tryz.func183,Tryz.ntmps183
   go_wp2_with (go_at_call 188;refine HP.out.mono ?_;rintro e w' ⟨rfl,rfl⟩)
   go_ret2
   exact ⟨HB.out,Or.inl ⟨v,h0,rfl,hlt,rfl⟩⟩
  | none=>
   rw [hx] at hP
   simp only [Q8V] at hP
   have HP:=Hid.mk hP
   clear hP hx
   go_enter Tryz.func183,Tryz.ntmps183
   go_wp2_with (first
    | (go_at_call 188;refine HP.out.mono ?_;rintro e w' ⟨rfl,rfl⟩)
    | (go_at_call 189;refine (Tryz.strconv_toError_syntax _ _ _ _ _ _ (by omega) hsyn' (Or.inr ⟨_,_,rfl⟩)).mono ?_;rintro e w' ⟨N,rfl,_,_,hb⟩))
   go_ret2
   exact ⟨HB.out.trans (hb.mono HB.out.size),Or.inr ⟨by simp,_,_,rfl⟩⟩
theorem QfT {l:List UInt8} (h:l.length=0∨Mar.hexF 0 l=none):Mar.hexadecimal l=none:=by
 unfold Mar.hexadecimal
 split
 ·rfl
 ·split
  ·rfl
  ·rename_i hn
   rcases h with h | h
   ·exact absurd (List.eq_nil_of_length_eq_zero h) hn
   ·rw [h];rfl
theorem QfU {l:List UInt8} {v:Nat} (h8:l.length≤8) (h0:l.length≠0) (h:Mar.hexF 0 l=some v):Mar.hexadecimal l=some (v:Int):=by
 unfold Mar.hexadecimal
 rw [if_neg (by omega),if_neg (by intro e;rw [e] at h0;exact h0 rfl),h]
 rfl
theorem Q9w (s:ByteArray) (w:World) (hg:Gl w) (hs:s.size≤281474976710656) :
  Calls Tryz.prog 174 #[.string s] w fun e w'=>
   (∃ n:Int,e = .returned (.tuple #[.int .i64 n,.bool (Mar.hexadecimal s.data.toList).isSome])∧∀ v,Mar.hexadecimal s.data.toList=some v→n=v)∧Below w.heap.size w w':=by
 have HZ:Hid (s.size=s.data.toList.length):=by simp [Hid]
 by_cases h8:8 < s.size
 ·have e1:Mar.hexadecimal s.data.toList=none:=by rw [Mar.hexadecimal,if_pos (by rw [← HZ.out];exact h8)]
  rw [e1]
  go_enter Tryz.func174,Tryz.ntmps174
  go_wp2
  go_ret2
  exact ⟨⟨0,rfl,fun v h=>by cases h⟩,Below.refl _ _⟩
 ·have HP:=Hid.mk (Qb0 s w hg (by omega))
  go_enter Tryz.func174,Tryz.ntmps174
  go_wp2_with (go_at_call 183;refine HP.out.mono ?_;rintro e w' ⟨hb,⟨v,h0,hv,hlt,rfl⟩ | ⟨hv,t,p,rfl⟩⟩)
  ·have Hv:=Hid.mk hv
   clear hv
   go_region
   go_wp2
   go_ret2
   have e1:=QfU (by rw [← HZ.out];omega) (by rw [← HZ.out];exact h0) Hv.out
   exact ⟨⟨v,by rw [e1];rfl,fun u h=>by rw [e1] at h;exact Option.some.inj h⟩,hb.drew⟩
  ·have Hv:=Hid.mk hv
   clear hv
   go_region
   go_wp2
   go_ret2
   have e1:=QfT (by rw [← HZ.out];exact Hv.out)
   exact ⟨⟨0,by rw [e1];rfl,fun u h=>by rw [e1] at h;cases h⟩,hb.drew⟩
theorem Qj7 {l:List UInt8} (h:Lib.hasPrefix l [48,120]=true):Mar.number l=Mar.hexadecimal (Lib.trimPrefix l [48,120]):=by
 simp [Mar.number,h,Lib.trimPrefix]
theorem Qj8 {l:List UInt8} (h:Lib.hasPrefix l [48,120]=false):Mar.number l=Mar.decimal l:=by
 simp [Mar.number,h]
theorem Q8i {W w1:World} (hb:Below W.heap.size W w1):(∀ b o,b < W.heap.size→w1.cell? ⟨b,o,none⟩=W.cell? ⟨b,o,none⟩)∧(∀ b o,b < W.heap.size→w1.frozen? ⟨b,o,none⟩=W.frozen? ⟨b,o,none⟩):=
 ⟨fun b o h=>hb.cell (p:=⟨b,o,none⟩) h,fun b o h=>hb.frozen (p:=⟨b,o,none⟩) h⟩
theorem Q6h {l:List UInt8} {at':Nat} {o:Option Int} (h:Mar.number l=o) (hn:o.isNone=true):Mar.numberWord l at' = .error ⟨4,at'⟩:=by
 cases o with
 | none=>rw [Mar.numberWord,h]
 | some v=>cases hn
theorem Q6i {l:List UInt8} {at':Nat} {o:Option Int} {n:Int} (h:Mar.number l=o) (hn:o.isSome=true) (hv:∀ v,o=some v→n=v):Mar.numberWord l at' = .ok ⟨3,l,n,at'⟩:=by
 cases o with
 | none=>cases hn
 | some v=>rw [Mar.numberWord,h,hv v rfl]
theorem Qej (s:ByteArray) (at':Nat) (w:World) (hg:Gl w) (hs:s.size≤281474976710656) :
  Calls Tryz.prog 154 #[.string s,.int .i64 at'] w fun e w'=>Q0W w (Mar.numberWord s.data.toList at') e w'∧Below w.heap.size w w':=by
 have hg1:∀ o,Gl (w.alloc o):=fun o=>hg.below ((Below.refl _ _).alloc (Nat.le_refl _) _)
 have hc:(⟨(Lib.trimPrefix s.data.toList [48,120]).toArray⟩:ByteArray).size≤281474976710656:=by
  have:=Q8U s.data.toList [48,120]
  show (Lib.trimPrefix s.data.toList [48,120]).toArray.size≤_
  simp only [List.size_toArray]
  have:=Lib.size_eq s
  omega
 cases hp:Lib.hasPrefix s.data.toList [48,120] with
 | true=>
  have hn:=Qj7 hp
  have HN:=Hid.mk hn
  clear hn
  go_enter Tryz.func154,Tryz.ntmps154
  go_wp2_with (first
   | (go_at_call 170;refine (Tryz.strings_CutPrefix _ _ _).mono ?_;rintro e w' ⟨rfl,rfl⟩)
   | (go_at_call 174;refine (Q9w _ _ (hg1 _) hc).mono ?_;rintro e w' ⟨⟨n,rfl,hn⟩,hb⟩;obtain ⟨hcw,hfw⟩:=Q8i hb;have hz:=hb.size;simp at hz;have HV:=Hid.mk hn;clear hn)
   | (go_at_call 47;refine (QY _ _ _).mono ?_;rintro e w' ⟨rfl,rfl⟩))
  ·have e1:=Q6h (at':=at') HN.out ‹_›
   refine Qa ⟨?_,?_⟩
   ·rw [e1]
    exact ⟨_,by omega,rfl,Qg rfl⟩
   ·exact (((Below.refl _ _).alloc (Nat.le_refl _) _).trans (hb.mono (by simp))).alloc (by omega) _
  ·have e1:=Q6i (at':=at') HN.out (by simpa using ‹Option.isNone _=false›) HV.out
   refine bodyPost_ret (v:=.agg #[.int .i64 3,.string s,.int .i64 n,.int .i64 at']) (by simp [results,Tryz.results154,go_sem,hcw,hfw,hz]) rfl ⟨?_,?_⟩
   ·rw [e1]
    exact Q0W.ok (by simp only [QZ,Q8g];rfl)
   ·exact ((((((Below.refl _ _).alloc (Nat.le_refl _) _).trans (hb.mono (by simp))).setCell (Nat.le_refl _) _).setCell (Nat.le_refl _) _).setCell (Nat.le_refl _) _).setCell (Nat.le_refl _) _
 | false=>
  have hn:=Qj8 hp
  have HN:=Hid.mk hn
  clear hn
  go_enter Tryz.func154,Tryz.ntmps154
  go_wp2_with (first
   | (go_at_call 170;refine (Tryz.strings_CutPrefix _ _ _).mono ?_;rintro e w' ⟨rfl,rfl⟩)
   | (go_at_call 175;refine (QcY _ _ (hg1 _) hs).mono ?_;rintro e w' ⟨⟨n,rfl,hn⟩,hb⟩;obtain ⟨hcw,hfw⟩:=Q8i hb;have hz:=hb.size;simp at hz;have HV:=Hid.mk hn;clear hn)
   | (go_at_call 47;refine (QY _ _ _).mono ?_;rintro e w' ⟨rfl,rfl⟩))
  ·have e1:=Q6h (at':=at') HN.out ‹_›
   refine Qa ⟨?_,?_⟩
   ·rw [e1]
    exact ⟨_,by omega,rfl,Qg rfl⟩
   ·exact (((Below.refl _ _).alloc (Nat.le_refl _) _).trans (hb.mono (by simp))).alloc (by omega) _
  ·have e1:=Q6i (at':=at') HN.out (by simpa using ‹Option.isNone _=false›) HV.out
   refine bodyPost_ret (v:=.agg #[.int .i64 3,.string s,.int .i64 n,.int .i64 at']) (by simp [results,Tryz.results154,go_sem,hcw,hfw,hz]) rfl ⟨?_,?_⟩
   ·rw [e1]
    exact Q0W.ok (by simp only [QZ,Q8g];rfl)
   ·exact ((((((Below.refl _ _).alloc (Nat.le_refl _) _).trans (hb.mono (by simp))).setCell (Nat.le_refl _) _).setCell (Nat.le_refl _) _).setCell (Nat.le_refl _) _).setCell (Nat.le_refl _) _
theorem Q0W.cases {w:World} {r:Except Mar.Fault Mar.Word} {e:Ending} {w':World} (h:Q0W w r e w') :
  (∃ x,r = .ok x∧e = .returned (QZ x))∨(∃ f,r = .error f∧Q0c w f.no f.at' e w'):=by
 cases r with
 | ok x=>exact Or.inl ⟨x,rfl,h⟩
 | error f=>exact Or.inr ⟨f,rfl,h⟩
theorem QbC (c:UInt8):(0≤Lib.indexByte [123,125,40,41,91,93,60,62,42,44,59,58,61] c)↔Mar.isSign c=true:=by
 have key:∀ n:Fin 256,(0≤Lib.indexByte [123,125,40,41,91,93,60,62,42,44,59,58,61] (UInt8.ofNat n.val))↔Mar.isSign (UInt8.ofNat n.val)=true:=by decide +kernel
 have:=key ⟨c.toNat,c.toNat_lt⟩
 simpa using this
theorem QfV (l:List UInt8):(Mar.run l).length≤l.length:=by
 cases l with
 | nil=>simp [Mar.run]
 | cons c t=>
  simp only [Mar.run,List.length_cons]
  have:=(List.takeWhile_sublist (p:=Mar.inWord) (l:=t)).length_le
  omega
theorem eq45 {c:UInt8} (h:((c.toNat:Int) == 45)=true):(c == 45)=true:=by
 have:=beq_iff_eq.1 h
 have e:c=45:=UInt8.toNat_inj.1 (by show c.toNat=45;omega)
 rw [e];rfl
theorem ne45 {c:UInt8} (h:((c.toNat:Int) == 45)=false):(c == 45)=false:=by
 rw [beq_eq_false_iff_ne] at h ⊢
 intro e;subst e;exact h rfl
theorem Qk7 (s:ByteArray) (h:0 < s.size):s.extract 0 1=⟨[s[0]].toArray⟩:=by
 rw [Q1L]
 obtain ⟨⟨l⟩⟩:=s
 cases l with
 | nil=>exact absurd h (by decide)
 | cons c t=>rfl
theorem QfW (s:ByteArray) (at':Nat) (w:World) (hg:Gl w) (hs:s.size≤281474976710656) :
  Calls Tryz.prog 117 #[.string s,.int .i64 at'] w fun e w'=>Q0W w (Mar.first s.data.toList at') e w'∧Below w.heap.size w w':=by
 have hg1:∀ o,Gl (w.alloc o):=fun o=>hg.below ((Below.refl _ _).alloc (Nat.le_refl _) _)
 by_cases h0:s.size=0
 ·have:s=⟨#[]⟩:=by
   obtain ⟨⟨l⟩⟩:=s
   have:l=[]:=List.eq_nil_of_length_eq_zero h0
   subst this;rfl
  subst this
  go_enter Tryz.func117,Tryz.ntmps117
  go_wp2
  refine bodyPost_ret (v:=.agg #[.int .i64 0,.string ⟨#[]⟩,.int .i64 0,.int .i64 at']) (by simp [results,Tryz.results117,go_sem]) rfl ⟨Q0W.ok rfl,(Below.refl _ _).alloc (Nat.le_refl _) _⟩
 ·have hpos:0 < s.size:=by omega
  have hemp:s.toList.isEmpty=false:=by
   rw [← decide_eq_emptyBytes]
   exact decide_eq_false (fun h=>h0 (by rw [h];rfl))
  have hfirst:Mar.first s.data.toList at'=(if Mar.isLetter s[0] then Mar.nameWord (Mar.run s.data.toList) at'
    else if Mar.isDigit s[0] || s[0] == 45 then Mar.numberWord (Mar.run s.data.toList) at' else if Mar.isSign s[0] then .ok ⟨4,[s[0]],0,at'⟩ else .error ⟨2,at'⟩):=by
   obtain ⟨⟨l⟩⟩:=s
   cases l with
   | nil=>exact absurd rfl h0
   | cons c t=>rfl
  have hrl:(⟨(Mar.run s.data.toList).toArray⟩:ByteArray).size≤281474976710656:=by
   have:=QfV s.data.toList
   show (Mar.run s.data.toList).toArray.size≤_
   simp only [List.size_toArray]
   have:=Lib.size_eq s
   omega
  have HF:=Hid.mk hfirst
  clear hfirst
  go_enter Tryz.func117,Tryz.ntmps117
  go_wp2_with (first
   | (go_at_call 150;refine (Q7L _ _).mono ?_;rintro e w' ⟨rfl,rfl⟩)
   | (go_at_call 153;refine (Q8F _ _).mono ?_;rintro e w' ⟨rfl,rfl⟩)
   | (go_at_call 152;refine (Qj4 _ _ hs hpos).mono ?_;rintro e w1 ⟨rfl,hb1⟩;have hg2:=Hid.mk ((hg1 _).below hb1))
   | (go_at_call 151;refine (QhH _ _ _ hrl).mono ?_;rintro e w2 ⟨hgw,hb2⟩;have hb12:=hb1.trans (hb2.mono hb1.size);obtain ⟨hcw,hfw⟩:=Q8i hb12;have hz:=hb12.size;simp at hz;rcases hgw.cases with ⟨x,hx,rfl⟩ | ⟨f,hx,b,hbb,rfl,hcell⟩)
   | (go_at_call 154;refine (Qej _ _ _ hg2.out hrl).mono ?_;rintro e w2 ⟨hgw,hb2⟩;have hb12:=hb1.trans (hb2.mono hb1.size);obtain ⟨hcw,hfw⟩:=Q8i hb12;have hz:=hb12.size;simp at hz;rcases hgw.cases with ⟨x,hx,rfl⟩ | ⟨f,hx,b,hbb,rfl,hcell⟩)
   | (go_at_call 149;refine (Tryz.strings_IndexByte _ _ _).mono ?_;rintro e w' ⟨rfl,rfl⟩)
   | (go_at_call 155;refine (Q56 _ _ (by simp;omega)).mono ?_;rintro e w1 ⟨rfl,hb1⟩;obtain ⟨hcw,hfw⟩:=Q8i hb1;have hz:=hb1.size;simp at hz)
   | (go_at_call 47;refine (QY _ _ _).mono ?_;rintro e w' ⟨rfl,rfl⟩))
  ·have e1:Mar.first s.data.toList at' = .ok x:=by rw [HF.out];rw [if_pos (by assumption)];exact hx
   refine bodyPost_ret (v:=QZ x) (by simp [results,Tryz.results117,go_sem,hcw,hfw,hz]) rfl ⟨?_,?_⟩
   ·rw [e1]
    exact Q0W.ok rfl
   ·exact ((((((Below.refl _ _).alloc (Nat.le_refl _) _).trans (hb12.mono (by simp))).setCell (Nat.le_refl _) _).setCell (Nat.le_refl _) _).setCell (Nat.le_refl _) _).setCell (Nat.le_refl _) _
  ·have e1:Mar.first s.data.toList at' = .error f:=by rw [HF.out];rw [if_pos (by assumption)];exact hx
   refine Qa ⟨?_,((Below.refl _ _).alloc (Nat.le_refl _) _).trans (hb12.mono (by simp))⟩
   rw [e1]
   exact ⟨b,by have:=hb1.size;simp at this;omega,rfl,hcell⟩
  ·have e1:Mar.first s.data.toList at' = .ok x:=by rw [HF.out];rw [if_neg (by simp [*]),if_pos (by simp [*])];exact hx
   refine bodyPost_ret (v:=QZ x) (by simp [results,Tryz.results117,go_sem,hcw,hfw,hz]) rfl ⟨?_,?_⟩
   ·rw [e1]
    exact Q0W.ok rfl
   ·exact ((((((Below.refl _ _).alloc (Nat.le_refl _) _).trans (hb12.mono (by simp))).setCell (Nat.le_refl _) _).setCell (Nat.le_refl _) _).setCell (Nat.le_refl _) _).setCell (Nat.le_refl _) _
  ·have e1:Mar.first s.data.toList at' = .error f:=by rw [HF.out];rw [if_neg (by simp [*]),if_pos (by simp [*])];exact hx
   refine Qa ⟨?_,((Below.refl _ _).alloc (Nat.le_refl _) _).trans (hb12.mono (by simp))⟩
   rw [e1]
   exact ⟨b,by have:=hb1.size;simp at this;omega,rfl,hcell⟩
  ·have e1:Mar.first s.data.toList at' = .ok x:=by rw [HF.out];rw [if_neg (by simp [*]),if_pos (by simp [eq45 (by assumption)])];exact hx
   refine bodyPost_ret (v:=QZ x) (by simp [results,Tryz.results117,go_sem,hcw,hfw,hz]) rfl ⟨?_,?_⟩
   ·rw [e1]
    exact Q0W.ok rfl
   ·exact ((((((Below.refl _ _).alloc (Nat.le_refl _) _).trans (hb12.mono (by simp))).setCell (Nat.le_refl _) _).setCell (Nat.le_refl _) _).setCell (Nat.le_refl _) _).setCell (Nat.le_refl _) _
  ·have e1:Mar.first s.data.toList at' = .error f:=by rw [HF.out];rw [if_neg (by simp [*]),if_pos (by simp [eq45 (by assumption)])];exact hx
   refine Qa ⟨?_,((Below.refl _ _).alloc (Nat.le_refl _) _).trans (hb12.mono (by simp))⟩
   rw [e1]
   exact ⟨b,by have:=hb1.size;simp at this;omega,rfl,hcell⟩
  ·have e1:Mar.first s.data.toList at' = .ok ⟨4,[s[0]],0,at'⟩:=by rw [HF.out];rw [if_neg (by simp [*]),if_neg (by simp [ne45 (by assumption), *]),if_pos ((QbC _).1 (by assumption))]
   refine bodyPost_ret (v:=.agg #[.int .i64 4,.string (s.extract 0 1),.int .i64 0,.int .i64 at']) (by simp [results,Tryz.results117,go_sem,hcw,hfw,hz]) rfl ⟨?_,?_⟩
   ·rw [e1]
    exact Q0W.ok (by simp only [QZ,Qk7 s hpos];rfl)
   ·exact ((((((Below.refl _ _).alloc (Nat.le_refl _) _).trans (hb1.mono (by simp))).setCell (Nat.le_refl _) _).setCell (Nat.le_refl _) _).setCell (Nat.le_refl _) _).setCell (Nat.le_refl _) _
  ·have e1:Mar.first s.data.toList at' = .error ⟨2,at'⟩:=by
    rw [HF.out]
    rw [if_neg (by simp [*]),if_neg (by simp [ne45 (by assumption), *]),if_neg (fun h=>by have:=(QbC _).2 h;omega)]
   refine Qa ⟨?_,((Below.refl _ _).alloc (Nat.le_refl _) _).alloc (by simp) _⟩
   rw [e1]
   exact ⟨_,by omega,rfl,Qg (by simp)⟩
structure Qb (M:List Nat) (w w':World):Prop where
 os:w'.os=w.os
 tape:w'.tape=w.tape
 output:w'.output=w.output
 size:w.heap.size≤w'.heap.size
 block:∀ k,k < w.heap.size→k ∉ M→w'.heap[k]? = w.heap[k]?
theorem Qb.refl (M:List Nat) (w:World):Qb M w w:=⟨rfl,rfl,rfl,Nat.le_refl _,fun _ _ _=>rfl⟩
theorem Qb.of_below {w w':World} (M:List Nat) (h:Below w.heap.size w w'):Qb M w w':=⟨h.os,h.tape,h.output,h.size,fun k hk _=>h.block k hk⟩
theorem Qb.trans {M:List Nat} {a b c:World} (h:Qb M a b) (k:Qb M b c):Qb M a c:=
 ⟨k.os.trans h.os,k.tape.trans h.tape,k.output.trans h.output,Nat.le_trans h.size k.size,fun i hi hm=>(k.block i (Nat.lt_of_lt_of_le hi h.size) hm).trans (h.block i hi hm)⟩
theorem Qb.mono {M M':List Nat} {a b:World} (h:Qb M a b) (hm:∀ k∈M,k∈M'):Qb M' a b:=
 ⟨h.os,h.tape,h.output,h.size,fun i hi hn=>h.block i hi (fun e=>hn (hm i e))⟩
theorem Qb.drewN {M:List Nat} {a b:World} (h:Qb M a b) (n:Nat):Qb M a (b.drewN n):=⟨h.os,h.tape,h.output,h.size,h.block⟩
theorem Qb.drew {M:List Nat} {a b:World} (h:Qb M a b):Qb M a b.drew:=⟨h.os,h.tape,h.output,h.size,h.block⟩
theorem Qb.alloc {M:List Nat} {a b:World} (h:Qb M a b) (o:Obj):Qb M a (b.alloc o):=
 h.trans (Qb.of_below M ((Below.refl _ _).alloc (Nat.le_refl _) _))
theorem Qb.setIn {M:List Nat} {a b:World} (h:Qb M a b) {p:Addr} (hp:p.block∈M) (u:Value):Qb M a (b.setCell p u):=
 h.trans ⟨rfl,rfl,rfl,by simp [World.setCell],fun k _ hm=>Below.heap_setCell _ _ _ _ (fun e=>hm (e ▸ hp))⟩
theorem Qb.setNew {M:List Nat} {a b:World} (h:Qb M a b) {p:Addr} (hp:a.heap.size≤p.block) (u:Value):Qb M a (b.setCell p u):=
 ⟨h.os,h.tape,h.output,Nat.le_trans h.size (by simp [World.setCell]),fun k hk hm=>(Below.heap_setCell _ _ _ _ (by omega)).trans (h.block k hk hm)⟩
def ScAt (S:Nat) (text:ByteArray) (at':Nat) (k t n a hl:Value) (w:World):Prop:=
 w.heap[S]? = some (.cells #[.string text,.int .i64 at',k,t,n,a,hl] 175)
theorem ScAt.cell {S:Nat} {text:ByteArray} {at':Nat} {k t n a hl:Value} {w:World} (h:ScAt S text at' k t n a hl w) :
  w.cell? ⟨S,0,none⟩=some (.string text)∧w.cell? ⟨S,1,none⟩=some (.int .i64 at')∧w.cell? ⟨S,2,none⟩=some k∧w.cell? ⟨S,3,none⟩=some t ∧
  w.cell? ⟨S,4,none⟩=some n∧w.cell? ⟨S,5,none⟩=some a∧w.cell? ⟨S,6,none⟩=some hl∧S < w.heap.size∧∀ i,w.frozen? ⟨S,i,none⟩=false:=by
 unfold ScAt at h
 have hlt:S < w.heap.size:=by
  by_cases hb:S < w.heap.size
  ·exact hb
  ·simp [Array.getElem?_eq_none (Nat.le_of_not_lt hb)] at h
 refine ⟨?_,?_,?_,?_,?_,?_,?_,hlt,?_⟩<;>simp [World.cell?,World.frozen?,h]
theorem Qn {b i:Nat} {cs:Array Value} {T:TypeId} {fr:Nat×Nat} {w:World} (h:w.heap[b]? = some (.cells cs T fr)) (v:Value) :
  (w.setCell ⟨b,i,none⟩ v).heap[b]? = some (.cells (cs.setIfInBounds i v) T fr):=by
 simp [World.setCell,Array.getElem?_modify,h]
theorem Qaf {b:Nat} {k t n a k' t' n' a':Value} {T:TypeId} {fr:Nat×Nat} {w:World} (h:w.heap[b]? = some (.cells #[k,t,n,a] T fr)) :
  ((((w.setCell ⟨b,0,none⟩ k').setCell ⟨b,1,none⟩ t').setCell ⟨b,2,none⟩ n').setCell ⟨b,3,none⟩ a').heap[b]? = some (.cells #[k',t',n',a'] T fr):=by
 have h1:=Qn (i:=0) h k'
 have h2:=Qn (i:=1) h1 t'
 have h3:=Qn (i:=2) h2 n'
 have h4:=Qn (i:=3) h3 a'
 exact h4
theorem Q0t {b:Nat} {k t n a:Value} {T:TypeId} {w:World} (h:w.heap[b]? = some (.cells #[k,t,n,a] T)) :
  w.cell? ⟨b,0,none⟩=some k∧w.cell? ⟨b,1,none⟩=some t∧w.cell? ⟨b,2,none⟩=some n∧w.cell? ⟨b,3,none⟩=some a∧∀ i,w.frozen? ⟨b,i,none⟩=false:=by
 refine ⟨?_,?_,?_,?_,?_⟩<;>simp [World.cell?,World.frozen?,h]
theorem QfX {l:List UInt8} {at':Nat} {x:Mar.Word} (h:Mar.first l at' = .ok x):x.text.length≤l.length:=by
 cases l with
 | nil=>simp only [Mar.first,Except.ok.injEq] at h;subst h;simp
 | cons c t=>
  have hr:=QfV (c :: t)
  unfold Mar.first at h
  simp only at h
  split at h
  ·unfold Mar.nameWord at h
   split at h
   ·cases h
   ·split at h<;>(simp only [Except.ok.injEq] at h;subst h;exact hr)
  ·split at h
   ·unfold Mar.numberWord at h
    split at h
    ·simp only [Except.ok.injEq] at h;subst h;exact hr
    ·cases h
   ·split at h
    ·simp only [Except.ok.injEq] at h;subst h;simp
    ·cases h
def Q6j (l:List UInt8) (at':Nat):Except Mar.Fault (Mar.Word×Nat):=
 match Mar.first (l.drop (at' + Mar.spaceLen (l.drop at'))) (at' + Mar.spaceLen (l.drop at')) with
 | .ok x=>.ok (x,at' + Mar.spaceLen (l.drop at') + x.text.length)
 | .error f=>.error f
theorem Gl.keeps {M:List Nat} {w w':World} (h:Gl w) (hk:Qb M w w') (h1:2 ∉ M) (h2:3 ∉ M) (h3:4 ∉ M):Gl w':=by
 have key:∀ b v,b ∉ M→w.cell? ⟨b,0,none⟩=some v→w'.cell? ⟨b,0,none⟩=some v:=by
  intro b v hb hc
  have:=hk.block b (Q1g hc) hb
  unfold World.cell? at hc ⊢
  rw [this]
  exact hc
 obtain ⟨⟨m,g1⟩,⟨a,b,g2⟩,⟨c,d,g3⟩⟩:=h
 exact ⟨⟨m,key _ _ h1 g1⟩,⟨a,b,key _ _ h2 g2⟩,⟨c,d,key _ _ h3 g3⟩⟩
theorem ScAt.far {S:Nat} {text:ByteArray} {at':Nat} {k t n a hl:Value} {w:World} (h:ScAt S text at' k t n a hl w) (hg:Gl w) :
  2≠S∧3≠S∧4≠S:=by
 obtain ⟨c0,_⟩:=h.cell
 obtain ⟨⟨m,g1⟩,⟨_,_,g2⟩,⟨_,_,g3⟩⟩:=hg
 refine ⟨?_,?_,?_⟩
 ·intro e;rw [e] at g1;rw [g1] at c0;cases c0
 ·intro e;rw [e] at g2;rw [g2] at c0;cases c0
 ·intro e;rw [e] at g3;rw [g3] at c0;cases c0
theorem QhJ {S:Nat} {text:ByteArray} {at':Nat} {k t n a hl:Value} {w:World} (hsc:ScAt S text at' k t n a hl w) (hg:Gl w) (nq:Nat) (v:Value) {p:Nat} (hv:v = .int .i64 p) :
  Qb [S] w (((w.alloc (.cells #[.int .i64 0,.string ⟨#[]⟩,.int .i64 0,.int .i64 0] 110)).drewN nq).setCell ⟨S,1,none⟩ v) ∧
  ScAt S text p k t n a hl (((w.alloc (.cells #[.int .i64 0,.string ⟨#[]⟩,.int .i64 0,.int .i64 0] 110)).drewN nq).setCell ⟨S,1,none⟩ v) ∧
  Gl (((w.alloc (.cells #[.int .i64 0,.string ⟨#[]⟩,.int .i64 0,.int .i64 0] 110)).drewN nq).setCell ⟨S,1,none⟩ v) ∧
  w.heap.size < (((w.alloc (.cells #[.int .i64 0,.string ⟨#[]⟩,.int .i64 0,.int .i64 0] 110)).drewN nq).setCell ⟨S,1,none⟩ v).heap.size ∧
  (((w.alloc (.cells #[.int .i64 0,.string ⟨#[]⟩,.int .i64 0,.int .i64 0] 110)).drewN nq).setCell ⟨S,1,none⟩ v).heap[w.heap.size]? = some (.cells #[.int .i64 0,.string ⟨#[]⟩,.int .i64 0,.int .i64 0] 110):=by
 subst hv
 have hlt:S < w.heap.size:=hsc.cell.2.2.2.2.2.2.2.1
 have hb:=((Below.refl w.heap.size w).alloc (Nat.le_refl _) (.cells #[.int .i64 0,.string ⟨#[]⟩,.int .i64 0,.int .i64 0] 110))
 have hk:=((Qb.of_below [S] hb).drewN nq).setIn (p:=⟨S,1,none⟩) (by simp) (.int .i64 p)
 refine ⟨hk,?_,?_,?_,?_⟩
 ·exact Qn (i:=1) ((hb.block S hlt).trans hsc) _
 ·obtain ⟨f1,f2,f3⟩:=hsc.far hg
  exact hg.keeps hk (by simp [f1]) (by simp [f2]) (by simp [f3])
 ·have:=hk.size
  simp [World.setCell]
 ·exact (Below.heap_setCell _ _ _ _ (by simp;omega)).trans (Qg rfl)
theorem QhK (S:Nat) (text:ByteArray) (at':Nat) (k t n a hl:Value) (w:World) (hsc:ScAt S text at' k t n a hl w) (hg:Gl w) (hat:at'≤text.size) (hsz:text.size≤4000000000) :
  Calls Tryz.prog 84 #[.pointer (some ⟨S,0,none⟩)] w fun e w'=>Qb [S] w w' ∧
   ((∃ x p,Q6j text.data.toList at' = .ok (x,p)∧p≤text.size∧e = .returned (QZ x)∧ScAt S text p k t n a hl w') ∨
    (∃ f,Q6j text.data.toList at' = .error f∧Q0c w f.no f.at' e w')):=by
 obtain ⟨c0,c1,c2,c3,c4,c5,c6,hlt,hfr⟩:=hsc.cell
 obtain ⟨m,hm⟩:=hg.len
 have hm':=fun o=>Q3D (((Below.refl w.heap.size w).alloc (Nat.le_refl _) o).drew) rfl hm
 have HM:=Hid.mk hm'
 clear hm hm'
 have hx:(text.extract at' text.size).size < 4294967281:=by simp;omega
 go_enter Tryz.func84,Tryz.ntmps84
 have hp1:at' + Mar.spaceLen (text.data.toList.drop at')≤text.size:=by
  have:=Mar.spaceF_le ((text.data.toList.drop at').length + 1) (text.data.toList.drop at')
  simp only [List.length_drop] at this
  have:=Lib.size_eq text
  unfold Mar.spaceLen
  simp only [List.length_drop]
  omega
 have hd:(text.extract at' text.size).data.toList=text.data.toList.drop at':=Q5O text at'
 have hsp:=fun w2 hm2=>QfS (text.extract at' text.size) m w2 hx hm2
 rw [hd] at hsp
 obtain ⟨sp,Hsp⟩:∃ sp,Hid (Mar.spaceLen (text.data.toList.drop at')=sp):=⟨_,rfl⟩
 rw [Hsp.out] at hsp hp1
 have HSP:=Hid.mk hsp
 clear hsp hd
 have Hwr:Hid (IntKind.i64.wrap ((at':Int) + (sp:Int))=((at' + sp:Nat):Int)):=by
  show IntKind.i64.wrap ((at':Int) + (sp:Int))=_
  have:=IntKind.wrap_i64 ((at':Int) + (sp:Int))
  rw [this]
  omega
 go_upto_region 1 with fail
 go_cut [] (fun wc=>Qb [S] w wc∧ScAt S text (at' + sp) k t n a hl wc∧Gl wc∧w.heap.size < wc.heap.size∧wc.heap[w.heap.size]? = some (.cells #[.int .i64 0,.string ⟨#[]⟩,.int .i64 0,.int .i64 0] 110))
 case first=>
  go_region_with (first | (go_at_call 116;refine (HSP.out _ ?_).mono ?_;exact HM.out _;rintro e w' ⟨rfl,nq,rfl⟩))
  all_goals (go_wp2_with fail)
  all_goals go_meet
  all_goals exact QhJ hsc hg _ _ (by rw [Hwr.out])
 case rest=>
  rename World=>v1
  obtain ⟨p,Hp⟩:∃ p,Hid (at' + sp=p):=⟨_,rfl⟩
  rw [Hp.out] at hcut hp1
  obtain ⟨hk1,hsc1,hg1,hlt1,hres1⟩:=hcut
  obtain ⟨d0,d1,d2,d3,d4,d5,d6,hltS,hfrS⟩:=hsc1.cell
  obtain ⟨r0,r1,r2,r3,hfrR⟩:=Q0t hres1
  have hneS:¬ v1.heap.size=S:=by omega
  have hneS':¬ S=v1.heap.size:=by omega
  have hi0:(0:Int)≤p:=by omega
  have hi1:(p:Int)≤text.size:=by omega
  have hx2:(text.extract p text.size).size≤281474976710656:=by simp;omega
  have hf:=fun w2 hg2=>QfW (text.extract p text.size) p w2 hg2 hx2
  rw [Q5O] at hf
  have HG:=Hid.mk (hg1.below ((Below.refl v1.heap.size v1).drew))
  have HG2:=Hid.mk (fun o=>hg1.below (((Below.refl v1.heap.size v1).alloc (Nat.le_refl _) o).drew))
  have HK:=Hid.mk hk1
  clear c0 c1 c2 c3 c4 c5 c6 hfr hk1
  have fin_err:∀ (f:Mar.Fault) (b:Nat) (w2:World),Mar.first (text.data.toList.drop p) p = .error f→v1.heap.size≤b→Below v1.heap.size v1 w2→w2.heap[b]? = some (.cells #[.int .i64 f.no,.int .i64 f.at'] 83) →
    Qb [S] w w2∧((∃ x p,Q6j text.data.toList at' = .ok (x,p)∧p≤text.size∧Ending.panicked [{ v:=.iface 79 (.pointer (some ⟨b,0,none⟩)),recovered:=false }] = .returned (QZ x)∧ScAt S text p k t n a hl w2) ∨
     (∃ f,Q6j text.data.toList at' = .error f∧Q0c w f.no f.at' (.panicked [{ v:=.iface 79 (.pointer (some ⟨b,0,none⟩)),recovered:=false }]) w2)):=by
   intro f b w2 hfx hb hbel hc
   refine ⟨HK.out.trans (Qb.of_below _ hbel),Or.inr ⟨f,?_,b,Nat.le_trans (Nat.le_of_lt hlt1) hb,rfl,hc⟩⟩
   unfold Q6j
   rw [Hsp.out,Hp.out,hfx]
  have FE:=Hid.mk fin_err
  have HF:=Hid.mk hf
  clear hf fin_err
  go_wp2_with fail
  go_cut [3] (fun s3 wd=>∃ b x,s3 = .pointer (some ⟨b,0,none⟩)∧v1.heap.size≤b∧Mar.first (text.data.toList.drop p) p = .ok x ∧
   Below v1.heap.size v1 wd∧wd.heap[b]? = some (.cells #[.int .i64 x.kind,.string ⟨x.text.toArray⟩,.int .i64 x.n,.int .i64 x.at'] 110))
  case first=>
   go_region_held2 (fun w'=>w'.cell? ⟨S,0,none⟩=some (.string text)∧w'.cell? ⟨S,1,none⟩=some (.int .i64 p)) (go_keep)
    (first | (go_at_call 117;refine (HF.out _ ?_).mono ?_;(first | exact HG.out | exact HG2.out _);rintro e w2 ⟨hgw,hb2⟩;rcases hgw.cases with ⟨x,hx,rfl⟩ | ⟨f,hx,b,hbb,rfl,hcell⟩;rotate_left;exact Qa (FE.out f b w2 hx (by first | exact hbb | (have:=hbb;simp at this;omega)) (by first | exact ((Below.refl v1.heap.size v1).drew).trans hb2 | exact (((Below.refl v1.heap.size v1).alloc (Nat.le_refl _) _).drew).trans (hb2.mono (by simp))) hcell);have Hx:=Hid.mk hx;clear hx;obtain ⟨hcw,hfw⟩:=Q8i hb2;have hz:=hb2.size;simp at hz;have q0:=(hb2.cell (p:=⟨S,0,none⟩) (by simp;omega));have q1:=(hb2.cell (p:=⟨S,1,none⟩) (by simp;omega))))
   all_goals (go_wp2_with fail)
   all_goals go_meet
   ·exact ⟨w2.heap.size,x,rfl,hz,Hx.out,(((Below.refl v1.heap.size v1).drew).trans hb2).alloc hz _,Qg rfl⟩
   ·refine ⟨v1.heap.size,x,rfl,Nat.le_refl _,Hx.out,?_,?_⟩
    ·exact ((((((((Below.refl v1.heap.size v1).alloc (Nat.le_refl _) _).drew).trans (hb2.mono (by simp))).setCell (Nat.le_refl _) _).setCell (Nat.le_refl _) _).setCell (Nat.le_refl _) _).setCell (Nat.le_refl _) _)
    ·exact Qaf ((hb2.block v1.heap.size (by simp)).trans (Qg rfl))
  case rest=>
   rename World=>v2
   obtain ⟨b,x,rfl,hb0,hx,hbel,hblk⟩:=hcut
   obtain ⟨y0,y1,y2,y3,hfrY⟩:=Q0t hblk
   have hk2:=HK.out.trans (Qb.of_below [S] hbel)
   have hscd:ScAt S text p k t n a hl v2:=(hbel.block S hltS).trans hsc1
   have hresd:=(hbel.block w.heap.size hlt1).trans hres1
   obtain ⟨d0,d1,d2,d3,d4,d5,d6,hltD,hfrD⟩:=hscd.cell
   obtain ⟨r0,r1,r2,r3,hfrR⟩:=Q0t hresd
   have hlen:p + x.text.length≤text.size:=by
    have:=QfX hx
    simp only [List.length_drop] at this
    have:=Lib.size_eq text
    omega
   have hil:(p:Int) + x.text.length≤text.size:=by omega
   have HX:=Hid.mk hx
   have HB:=Hid.mk hblk
   have HR:=Hid.mk hresd
   have HD:=Hid.mk hscd
   have HK2:=Hid.mk hk2
   have hbS:¬ b=S:=by omega
   have hbS':¬ S=b:=by omega
   have hwS:¬ w.heap.size=S:=by omega
   have hwS':¬ S=w.heap.size:=by omega
   have hbw:¬ b=w.heap.size:=by omega
   have hbw':¬ w.heap.size=b:=by omega
   clear hx hblk hresd hscd hk2 hbel HF FE HG HG2 HK HM HSP
   go_wp2
   go_region
   go_wp2
   have hfin:Q6j text.data.toList at' = .ok (x,p + x.text.length):=by
    unfold Q6j
    rw [Hsp.out,Hp.out,HX.out]
   refine bodyPost_ret (v:=QZ x) (by simp [results,Tryz.results84,go_sem,r0,r1,r2,r3,hlt1]) rfl ⟨?_,Or.inl ⟨x,_,hfin,hlen,rfl,?_⟩⟩
   ·exact (((((HK2.out.setIn (by simp) _).setNew (Nat.le_refl _) _).setNew (Nat.le_refl _) _).setNew (Nat.le_refl _) _).setNew (Nat.le_refl _) _).drew
   ·have h1:=Qn (i:=1) HD.out (.int .i64 ((p + x.text.length:Nat):Int))
    have h2:∀ (u:World) (i:Nat) (v:Value),u.heap[S]? = some (.cells #[.string text,.int .i64 ((p + x.text.length:Nat):Int),k,t,n,a,hl] 175) →
      (u.setCell ⟨w.heap.size,i,none⟩ v).heap[S]? = some (.cells #[.string text,.int .i64 ((p + x.text.length:Nat):Int),k,t,n,a,hl] 175):=
     fun u i v hu=>(Below.heap_setCell u ⟨w.heap.size,i,none⟩ v S hwS').trans hu
    rw [← Int.natCast_add]
    exact h2 _ 3 _ (h2 _ 2 _ (h2 _ 1 _ (h2 _ 0 _ h1)))
def Sc (S:Nat) (text:ByteArray) (at':Nat) (nx:Option Mar.Word) (w:World):Prop:=
 at'≤text.size∧match nx with
 | some x=>ScAt S text at' (.int .i64 x.kind) (.string ⟨x.text.toArray⟩) (.int .i64 x.n) (.int .i64 x.at') (.bool true) w
 | none=>∃ k t n a,ScAt S text at' k t n a (.bool false) w
theorem Sc.below {S:Nat} {text:ByteArray} {at':Nat} {nx:Option Mar.Word} {w w':World} (h:Sc S text at' nx w) (hb:Below w.heap.size w w'):Sc S text at' nx w':=by
 obtain ⟨ha,h⟩:=h
 refine ⟨ha,?_⟩
 cases nx with
 | some x=>exact (hb.block S (ScAt.cell (w:=w) h).2.2.2.2.2.2.2.1).trans h
 | none=>
  obtain ⟨k,t,n,a,h⟩:=h
  exact ⟨k,t,n,a,(hb.block S h.cell.2.2.2.2.2.2.2.1).trans h⟩
def Q8j (l:List UInt8) (at':Nat):Option Mar.Word→Except Mar.Fault (Mar.Word×Nat)
 | some x=>.ok (x,at')
 | none=>Q6j l at'
theorem Qk8 {S:Nat} {w w1:World} {o:Obj} (hk:Qb [S] (w.alloc o) w1) (v2 v3 v4 v5 v6 r0 r1 r2 r3:Value) :
  Qb [S] w (((((((((w1.setCell ⟨S,2,none⟩ v2).setCell ⟨S,3,none⟩ v3).setCell ⟨S,4,none⟩ v4).setCell ⟨S,5,none⟩ v5).setCell ⟨S,6,none⟩ v6).setCell ⟨w.heap.size,0,none⟩ r0).setCell ⟨w.heap.size,1,none⟩ r1).setCell ⟨w.heap.size,2,none⟩ r2).setCell ⟨w.heap.size,3,none⟩ r3):=
 ((((((((((((Qb.refl _ _).alloc _).trans hk).setIn (by simp) _).setIn (by simp) _).setIn (by simp) _).setIn (by simp) _).setIn (by simp) _).setNew (Nat.le_refl _) _).setNew (Nat.le_refl _) _).setNew (Nat.le_refl _) _).setNew (Nat.le_refl _) _)
theorem sc9 {S R:Nat} {text:ByteArray} {p:Nat} {k t n a hl:Value} {w1:World} (hne:¬ S=R) (h:ScAt S text p k t n a hl w1) {v2 v3 v4 v5 v6:Value} (r0 r1 r2 r3:Value) :
  ScAt S text p v2 v3 v4 v5 v6 (((((((((w1.setCell ⟨S,2,none⟩ v2).setCell ⟨S,3,none⟩ v3).setCell ⟨S,4,none⟩ v4).setCell ⟨S,5,none⟩ v5).setCell ⟨S,6,none⟩ v6).setCell ⟨R,0,none⟩ r0).setCell ⟨R,1,none⟩ r1).setCell ⟨R,2,none⟩ r2).setCell ⟨R,3,none⟩ r3):=by
 have h2:=Qn (i:=2) h v2
 have h3:=Qn (i:=3) h2 v3
 have h4:=Qn (i:=4) h3 v4
 have h5:=Qn (i:=5) h4 v5
 have h6:=Qn (i:=6) h5 v6
 have far:∀ (u:World) (i:Nat) (v:Value) (o:Option Obj),u.heap[S]? = o→(u.setCell ⟨R,i,none⟩ v).heap[S]? = o:=
  fun u i v o hu=>(Below.heap_setCell u ⟨R,i,none⟩ v S hne).trans hu
 exact far _ 3 _ _ (far _ 2 _ _ (far _ 1 _ _ (far _ 0 _ _ h6)))
theorem QbD (S:Nat) (text:ByteArray) (at':Nat) (nx:Option Mar.Word) (w:World) (hsc:Sc S text at' nx w) (hg:Gl w) (hsz:text.size≤4000000000) :
  Calls Tryz.prog 49 #[.pointer (some ⟨S,0,none⟩)] w fun e w'=>Qb [S] w w' ∧
   ((∃ x p,Q8j text.data.toList at' nx = .ok (x,p)∧e = .returned (QZ x)∧Sc S text p (some x) w') ∨
    (∃ f,Q8j text.data.toList at' nx = .error f∧Q0c w f.no f.at' e w')):=by
 obtain ⟨hat,hsc⟩:=hsc
 cases nx with
 | some x=>
  have hsc':ScAt S text at' (.int .i64 x.kind) (.string ⟨x.text.toArray⟩) (.int .i64 x.n) (.int .i64 x.at') (.bool true) w:=hsc
  obtain ⟨c0,c1,c2,c3,c4,c5,c6,hlt,hfr⟩:=hsc'.cell
  have HS:=Hid.mk hsc'
  clear hsc hsc'
  go_enter Tryz.func49,Tryz.ntmps49
  go_wp2
  refine bodyPost_ret (v:=QZ x) (by simp [results,Tryz.results49,go_sem]) rfl ⟨?_,Or.inl ⟨x,at',rfl,rfl,hat,?_⟩⟩
  ·exact (Qb.refl _ _).alloc _
  ·exact (Below.heap_alloc w _ S hlt).trans HS.out
 | none=>
  obtain ⟨k,t,n,a,hsc⟩:=hsc
  obtain ⟨c0,c1,c2,c3,c4,c5,c6,hlt,hfr⟩:=hsc.cell
  have HB:=fun o=>(Below.refl w.heap.size w).alloc (Nat.le_refl _) o
  have HC:=fun o=>QhK S text at' k t n a (.bool false) (w.alloc o) ((Below.heap_alloc w o S hlt).trans hsc) (hg.below (HB o)) hat hsz
  have HCh:=Hid.mk HC
  clear HC HB hsc
  go_enter Tryz.func49,Tryz.ntmps49
  go_wp2_with (go_at_call 84;refine (HCh.out _).mono ?_;rintro e w1 ⟨hk,⟨x,p,hx,hp,rfl,hs1⟩ | ⟨f,hx,b,hbb,rfl,hcell⟩⟩;obtain ⟨d0,d1,d2,d3,d4,d5,d6,hltD,hfrD⟩:=hs1.cell;have hres:=(hk.block w.heap.size (by simp) (by simp;omega)).trans (Qg rfl);obtain ⟨r0,r1,r2,r3,hfrR⟩:=Q0t hres;have HR:=Hid.mk hres;have HD:=Hid.mk hs1;have HK:=Hid.mk hk;have Hx:=Hid.mk hx;clear hres hs1 hk hx)
  ·have hne:¬ S=w.heap.size:=by omega
   have hne':¬ w.heap.size=S:=by omega
   refine bodyPost_ret (v:=QZ x) (by simp [results,Tryz.results49,go_sem,hne,hne',r0,r1,r2,r3]) rfl ⟨?_,Or.inl ⟨x,p,Hx.out,rfl,hp,?_⟩⟩
   ·exact Qk8 HK.out _ _ _ _ _ _ _ _ _
   ·exact sc9 hne HD.out _ _ _ _
  ·refine Qa ⟨((Qb.refl _ _).alloc _).trans hk,Or.inr ⟨f,hx,b,?_,rfl,hcell⟩⟩
   simp at hbb;omega
theorem QhL (S:Nat) (text:ByteArray) (at':Nat) (nx:Option Mar.Word) (w:World) (hsc:Sc S text at' nx w) (hg:Gl w) (hsz:text.size≤4000000000) :
  Calls Tryz.prog 85 #[.pointer (some ⟨S,0,none⟩)] w fun e w'=>Qb [S] w w' ∧
   ((∃ x p,Q8j text.data.toList at' nx = .ok (x,p)∧e = .returned (QZ x)∧Sc S text p none w') ∨
    (∃ f,Q8j text.data.toList at' nx = .error f∧Q0c w f.no f.at' e w')):=by
 have hlt:S < w.heap.size:=by
  obtain ⟨_,h⟩:=hsc
  cases nx with
  | some x=>exact (ScAt.cell (w:=w) h).2.2.2.2.2.2.2.1
  | none=>obtain ⟨k,t,n,a,h⟩:=h;exact h.cell.2.2.2.2.2.2.2.1
 have hne:¬ S=w.heap.size:=by omega
 have hne':¬ w.heap.size=S:=by omega
 have HC:=fun o=>QbD S text at' nx (w.alloc o) (Sc.below hsc ((Below.refl w.heap.size w).alloc (Nat.le_refl _) o)) (hg.below ((Below.refl w.heap.size w).alloc (Nat.le_refl _) o)) hsz
 have HCh:=Hid.mk HC
 clear HC hsc
 go_enter Tryz.func85,Tryz.ntmps85
 go_wp2_with (go_at_call 49;refine (HCh.out _).mono ?_;rintro e w1 ⟨hk,⟨x,p,hx,rfl,hp,hs1⟩ | ⟨f,hx,b,hbb,rfl,hcell⟩⟩;have hs2:ScAt S text p (.int .i64 x.kind) (.string ⟨x.text.toArray⟩) (.int .i64 x.n) (.int .i64 x.at') (.bool true) w1:=hs1;obtain ⟨d0,d1,d2,d3,d4,d5,d6,hltD,hfrD⟩:=hs2.cell;have hres:=(hk.block w.heap.size (by simp) (by simp;omega)).trans (Qg rfl);obtain ⟨r0,r1,r2,r3,hfrR⟩:=Q0t hres;have hsz1:=hk.size;simp at hsz1;have hlt1:w.heap.size < w1.heap.size:=hsz1;have hlt2:¬ w.heap.size=w1.heap.size:=(by omega);have hlt3:¬ S=w1.heap.size:=(by omega);have HR:=Hid.mk hres;have HD:=Hid.mk hs2;have HK:=Hid.mk hk;have Hx:=Hid.mk hx;clear hres hs1 hs2 hk hx)
 ·refine bodyPost_ret (v:=QZ x) (by simp [results,Tryz.results85,go_sem,hlt1,r0,r1,r2,r3]) rfl ⟨?_,Or.inl ⟨x,p,Hx.out,rfl,hp,?_⟩⟩
  ·exact ((((((((Qb.refl _ _).alloc _).trans HK.out).setIn (by simp) _).setNew (Nat.le_refl _) _).setNew (Nat.le_refl _) _).setNew (Nat.le_refl _) _).setNew (Nat.le_refl _) _).alloc _
  ·refine ⟨.int .i64 x.kind,.string ⟨x.text.toArray⟩,.int .i64 x.n,.int .i64 x.at',(Below.heap_alloc _ _ S (by simp [World.setCell];exact hltD)).trans ?_⟩
   have h6:=Qn (i:=6) HD.out (.bool false)
   have far:∀ (u:World) (i:Nat) (v:Value) (o:Option Obj),u.heap[S]? = o→(u.setCell ⟨w.heap.size,i,none⟩ v).heap[S]? = o:=
    fun u i v o hu=>(Below.heap_setCell u ⟨w.heap.size,i,none⟩ v S hne).trans hu
   exact far _ 3 _ _ (far _ 2 _ _ (far _ 1 _ _ (far _ 0 _ _ h6)))
 ·refine Qa ⟨((Qb.refl _ _).alloc _).trans hk,Or.inr ⟨f,hx,b,?_,rfl,hcell⟩⟩
  simp at hbb;omega
inductive Ty where
 | plain (k:Nat)
 | named (t:List UInt8) (at':Nat)
 | opaq (n:Int) (fixed:Bool)
 | str (n:Int) (fixed:Bool)
 | arr (of:Ty) (n:Int) (fixed:Bool)
 | opt (of:Ty)
 | void
def tyV:Ty→Value
 | .plain k=>.iface 301 (.agg #[.int .i64 k])
 | .named t a=>.iface 213 (.agg #[.string ⟨t.toArray⟩,.int .i64 a])
 | .opaq n f=>.iface 306 (.agg #[.int .i64 n,.bool f])
 | .str n f=>.iface 309 (.agg #[.int .i64 n,.bool f])
 | .arr o n f=>.iface 311 (.agg #[tyV o,.int .i64 n,.bool f])
 | .opt o=>.iface 314 (.agg #[tyV o])
 | .void=>.iface 340 (.agg #[])
structure Qq where
 t:List UInt8
 at':Nat
 ty:Ty
structure Q1Y where
 t:List UInt8
 at':Nat
 res:Ty
 arg:Ty
 num:Int
structure Q0d where
 t:List UInt8
 at':Nat
 procs:List Q1Y
 num:Int
inductive DefL where
 | const (t:List UInt8) (at':Nat) (v:Int)
 | typedef (d:Qq)
 | enum (t:List UInt8) (at':Nat) (ms:List (List UInt8×Nat×Int))
 | struct (t:List UInt8) (at':Nat) (ms:List Qq)
 | union (t:List UInt8) (at':Nat) (sel:Qq) (arms:List (List Int×Qq))
 | prog (t:List UInt8) (at':Nat) (vs:List Q0d) (num:Int)
def Held (X:List Nat) (bs:List (Nat×Obj)) (w:World):Prop:=∀ p∈bs,w.heap[p.1]? = some p.2∧p.1 ∉ X
abbrev Q4q (t:List UInt8) (a:Nat):List Value:=[.string ⟨t.toArray⟩,.int .i64 a]
abbrev Q1Z (d:Qq):List Value:=[.string ⟨d.t.toArray⟩,.int .i64 d.at',tyV d.ty]
def Q0u (bs:List (Nat×Obj)) (e:TypeId) (v:Value) (n:Nat) (xs:List Value):Prop:=
 (v = .slice none 0 0∧n=0∧xs=[])∨∃ g cap cur,v = .slice (some ⟨g,0,none⟩) n cap∧(n≤cap∧n≤1000)∧(g,Obj.cells cur e)∈bs∧cur.toList.take xs.length=xs
def Q5z (bs:List (Nat×Obj)) (b:Nat) (m:List UInt8×Nat×Int):Prop:=(b,Obj.cells #[.string ⟨m.1.toArray⟩,.int .i64 m.2.1,.int .i64 m.2.2] 272)∈bs
def Q0o (bs:List (Nat×Obj)) (b:Nat):DefL→Prop
 | .const t a v=>Q5z bs b (t,a,v)
 | .typedef d=>(b,Obj.cells (Q1Z d).toArray 197)∈bs
 | .enum t a ms=>∃ (sl:Value) (ps:List Nat),(b,Obj.cells (Q4q t a++[sl]).toArray 206)∈bs∧ps.length=ms.length ∧
   Q0u bs 176 sl ms.length (ps.map fun q=>Value.pointer (some ⟨q,0,none⟩))∧∀ i (h:i < ms.length) (h':i < ps.length),Q5z bs ps[i] ms[i]
 | .struct t a ms=>∃ (sl:Value),(b,Obj.cells (Q4q t a++[sl]).toArray 282)∈bs∧Q0u bs 195 sl ms.length (ms.flatMap Q1Z)
 | .union t a sel arms=>∃ (sl:Value) (cs:List Value),(b,Obj.cells (Q4q t a++Q1Z sel++[sl]).toArray 287)∈bs∧cs.length=arms.length ∧
   Q0u bs 292 sl arms.length ((arms.zip cs).flatMap fun p=>p.2 :: Q1Z p.1.2) ∧
   ∀ i (h:i < arms.length) (h':i < cs.length),Q0u bs 2 cs[i] arms[i].1.length (arms[i].1.map fun n=>Value.int .i64 n)
 | .prog t a vs num=>∃ (sl:Value) (cs:List Value),(b,Obj.cells (Q4q t a++[sl,.int .i64 num]).toArray 220)∈bs∧cs.length=vs.length ∧
   Q0u bs 296 sl vs.length ((vs.zip cs).flatMap fun p=>Q4q p.1.t p.1.at'++[p.2,.int .i64 p.1.num]) ∧
   ∀ i (h:i < vs.length) (h':i < cs.length),Q0u bs 342 cs[i] vs[i].procs.length (vs[i].procs.flatMap fun q=>Q4q q.t q.at'++[tyV q.res,tyV q.arg,.int .i64 q.num])
def defT:DefL→TypeId
 | .const ..=>176
 | .typedef ..=>178
 | .enum ..=>180
 | .struct ..=>182
 | .union ..=>184
 | .prog ..=>186
def Q1z (bs:List (Nat×Obj)) (v:Value):Option DefL→Prop
 | none=>v = .nilIface
 | some d=>∃ b,v = .iface (defT d) (.pointer (some ⟨b,0,none⟩))∧Q0o bs b d
def Q48 (l:List (List UInt8×Value)):Obj:=.map (l.mapIdx fun i p=>⟨.string ⟨p.1.toArray⟩,p.2,i⟩).toArray l.length
def Q8k (l:List (Int×Int)):Obj:=.map (l.mapIdx fun i p=>⟨.int .i64 p.1,.int .i64 p.2,i⟩).toArray l.length
def Q1p (X:List Nat) (N:Nat) (l:List (List UInt8×Option DefL)) (w:World):Prop:=
 (l.map (·.1)).Nodup∧∃ (bs:List (Nat×Obj)) (vs:List Value),Held X bs w∧vs.length=l.length∧w.heap[N]? = some (Q48 (l.zip vs |>.map fun p=>(p.1.1,p.2)))∧∀ i (h:i < l.length) (h':i < vs.length),Q1z bs vs[i] l[i].2
theorem Qc {w:World} {b:Nat} {o:Obj} (h:w.heap[b]? = some o):b < w.heap.size:=by
 by_cases hb:b < w.heap.size
 ·exact hb
 ·simp [Array.getElem?_eq_none (Nat.le_of_not_lt hb)] at h
theorem Held.keeps {X:List Nat} {bs:List (Nat×Obj)} {w w':World} {M:List Nat} (h:Held X bs w) (hk:Qb M w w') (hM:∀ m∈M,m∈X):Held X bs w':=by
 intro p hp
 obtain ⟨h1,h2⟩:=h p hp
 exact ⟨(hk.block _ (Qc h1) (fun hm=>h2 (hM _ hm))).trans h1,h2⟩
theorem Held.add {X:List Nat} {bs:List (Nat×Obj)} {w:World} (h:Held X bs w) {b:Nat} (hb:w.heap.size≤b):Held (b :: X) bs w:=by
 intro p hp
 obtain ⟨h1,h2⟩:=h p hp
 refine ⟨h1,?_⟩
 have:=Qc h1
 simp only [List.mem_cons,not_or]
 exact ⟨by omega,h2⟩
theorem Held.sub {X X':List Nat} {bs:List (Nat×Obj)} {w:World} (h:Held X bs w) (hX:∀ x∈X',x∈X):Held X' bs w:=
 fun p hp=>⟨(h p hp).1,fun hm=>(h p hp).2 (hX _ hm)⟩
theorem Q1p.keeps {X:List Nat} {N:Nat} {l:List (List UInt8×Option DefL)} {w w':World} {M:List Nat} (h:Q1p X N l w) (hk:Qb M w w') (hM:∀ m∈M,m∈X) (hN:N ∉ M):Q1p X N l w':=by
 obtain ⟨nd,bs,vs,h1,h2,h3,h4⟩:=h
 exact ⟨nd,bs,vs,h1.keeps hk hM,h2,(hk.block _ (Qc h3) hN).trans h3,h4⟩
theorem Q1p.below {X:List Nat} {N:Nat} {l:List (List UInt8×Option DefL)} {w w':World} (h:Q1p X N l w) (hb:Below w.heap.size w w'):Q1p X N l w':=
 h.keeps (Qb.of_below [] hb) (by simp) (by simp)
theorem Q1p.add {X:List Nat} {N:Nat} {l:List (List UInt8×Option DefL)} {w:World} (h:Q1p X N l w) {b:Nat} (hb:w.heap.size≤b):Q1p (b :: X) N l w:=by
 obtain ⟨nd,bs,vs,h1,h2⟩:=h
 exact ⟨nd,bs,vs,h1.add hb,h2⟩
theorem Q1p.sub {X X':List Nat} {N:Nat} {l:List (List UInt8×Option DefL)} {w:World} (h:Q1p X N l w) (hX:∀ x∈X',x∈X):Q1p X' N l w:=by
 obtain ⟨nd,bs,vs,h1,h2⟩:=h
 exact ⟨nd,bs,vs,h1.sub hX,h2⟩
theorem Q1p.heap {X:List Nat} {N:Nat} {l:List (List UInt8×Option DefL)} {w:World} (h:Q1p X N l w):∃ es c,w.heap[N]? = some (.map es c):=by
 obtain ⟨_,bs,vs,_,_,h3,_⟩:=h
 exact ⟨_,_,h3⟩
end Go.Proofs.YtmbcibgknckenaaGreatDoor
